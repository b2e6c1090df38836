import PyProof.Rows.All
import Wide.All
import OpenK.AllK
import Wide.FinOn
import Lean
import PyProof.EqAt
import PyProof.EqKinds
import PyProof.TupleCall
import PySem.Challenge.RW_jarcards_k10_whole_shown_and_read
set_option Elab.async false
set_option linter.all false
set_option maxRecDepth 100000
set_option maxHeartbeats 4000000
/-! ### the module's top, run at once over a tree of objects -/
namespace JH
open PySem PySem.W PyProof.Rows
def runT (tb : String → Option Builtin) (p : Program) (w : World) (m : Nat) (ann : Option Value) : Nat → SharedT → Thread → Option SharedT
  | 0, _, _ => none
  | n + 1, s, t => match through t with
    | true => some s
    | false => match stepOk m ann t with
      | false => none
      | true => match stepT (denote tb) p w s t with
        | some (s2, t2) => runT tb p w m ann n s2 t2
        | none => none
theorem runT_of {tb : String → Option Builtin} {p : Program} {w : World} {m : Nat} {ann : Option Value} : ∀ {n : Nat} {s r : SharedT} {t : Thread}, runT tb p w m ann n s t = some r → topRun tb p w m ann n s.abs t = some r.abs
  | 0, _, _, _, h => by cases h
  | n + 1, s, r, t, h => by
    unfold runT at h
    unfold topRun
    cases ht : through t with
    | true => rw [ht] at h; cases h; rfl
    | false =>
      rw [ht] at h
      cases hk : stepOk m ann t with
      | false => rw [hk] at h; cases h
      | true =>
        rw [hk] at h
        cases hs : stepT (denote tb) p w s t with
        | none => rw [hs] at h; cases h
        | some x =>
          obtain ⟨s2, t2⟩ := x
          rw [hs] at h
          rw [stepT_spec hs]
          exact runT_of h
def grow : Nat → List Obj → BT → BT
  | _, [], t => t
  | i, o :: os, t => grow (i + 1) os (t.ins i o)
noncomputable def bootT (P : Params) : BT := grow 0 (boot_heap P).objs.toList .nil
/-- what is looked at behind the top -/
noncomputable def look (p : Program) (w : World) (s : Shared) : Bool := staticsOk (importedModules p.main.body) (boot_heap w.params) s.heap && namesBound p s.heap && gensDone s && laidKept (boot_heap w.params) s.heap
/-- the state ahead of the top -/
noncomputable def st0 (w : World) (os : OsState) : SharedT := ⟨bootT w.params, 11, (boot_heap w.params).life, Array.mk [], boot_drawn, boot_toks, os⟩
noncomputable abbrev goes (p : Program) (M : Nat) (w : World) (os : OsState) : Option SharedT := runT treeTable p w 11 (some (Value.ref 6)) M (st0 w os) (topStub p)
theorem boot_abs (P : Params) : absHeap (bootT P) 11 (boot_heap P).life = boot_heap P := by kernel_rfl
theorem boot_size (P : Params) : ((boot_heap P).isNs mainGlobals, (boot_heap P).objs.size, (boot_heap P).nsMap mainGlobals "__annotations__") = (true, 11, some (Value.ref 6)) := by kernel_rfl
theorem left_of {p q : Program} {Xt : Shared → Bool} {α : Type} {Yf : Shared → α} {Ya : World → α} {N M : Nat}
    (h1 : opening p = plainProg p.main.scope.names) (h2 : Nat.ble 600 N = true) (h3 : ∀ s, fenceModules? p s = some s) (h4 : Nat.ble M N = true)
    (goA : ∀ (w : World) (os : OsState), (goes p M w os).map (fun s => look p w s.abs) = some true)
    (goC : ∀ (w : World) (os : OsState), (goes p M w os).map (fun s => openSeen q [] (importedModules p.main.body) Xt true s.abs) = some (openGood q []))
    (goB : ∀ (w : World) (os : OsState), (goes p M w os).map (fun s => Yf s.abs) = some (Ya w)) :
    LeftO p q [] Xt Yf Ya N := fun w => by
  obtain ⟨⟨h, gs, d, k, os⟩, e, e'⟩ := Option.map_eq_some_iff.mp (boot_open h1 h2 h3 w)
  obtain ⟨rfl, rfl, rfl, rfl⟩ : h = boot_heap w.params ∧ gs = Array.mk [] ∧ d = boot_drawn ∧ k = boot_toks := by simpa using e'
  obtain ⟨z1, z2, z3⟩ : _ ∧ _ ∧ _ := by simpa only [Prod.mk.injEq] using boot_size w.params
  obtain ⟨sT, r1, r2⟩ := Option.map_eq_some_iff.mp (goA w os)
  obtain ⟨sB, b1, b2⟩ := Option.map_eq_some_iff.mp (goB w os)
  obtain ⟨sC, c1, c2⟩ := Option.map_eq_some_iff.mp (goC w os)
  rw [r1] at b1 c1
  cases b1
  cases c1
  have l1 : (staticsOk (importedModules p.main.body) (boot_heap w.params) sT.abs.heap && namesBound p sT.abs.heap && gensDone sT.abs && laidKept (boot_heap w.params) sT.abs.heap) = true := r2
  have l2 : (openSeen q [] (importedModules p.main.body) Xt true sT.abs, Yf sT.abs) = (openGood q [], Ya w) := by
    rw [b2, c2]
  have r3 := runT_of r1
  have e0 : (st0 w os).abs = ⟨boot_heap w.params, Array.mk [], boot_drawn, boot_toks, os⟩ := by
    unfold st0 SharedT.abs
    dsimp only
    rw [boot_abs]
  rw [e0] at r3
  have r4 := topRun_mono (N - M) _ _ _ _ r3
  rw [show M + (N - M) = N by have := Nat.le_of_ble_eq_true h4; omega] at r4
  have t : topFrom treeTable p w N ⟨boot_heap w.params, Array.mk [], boot_drawn, boot_toks, os⟩ = some sT.abs := by
    unfold topFrom
    dsimp only
    rw [z1, z2, z3, r4]
    show (match staticsOk (importedModules p.main.body) (boot_heap w.params) sT.abs.heap && namesBound p sT.abs.heap && gensDone sT.abs && laidKept (boot_heap w.params) sT.abs.heap with | true => _ | false => _) = _
    rw [l1]
  unfold openEnds
  rw [e]
  show (topFrom treeTable p w N ⟨boot_heap w.params, Array.mk [], boot_drawn, boot_toks, os⟩).map _ = _
  rw [t]
  exact congrArg some l2
end JH

set_option Elab.async false
set_option linter.all false
set_option maxRecDepth 100000
set_option maxHeartbeats 4000000
namespace W10
open PySem PySem.W PyProof.Rows
/-! ### the top of the text, run at once -/
def keptB (l : List Stmt) : List Stmt := l.filter fun s => match s with
  | .Assign [.Name x _] _ _ => !(x == ("__name__" : Str))
  | _ => true
def seenP : Program := { PySem.Challenge.pw_jarcards_k10_whole_shown_and_read with main := { PySem.Challenge.pw_jarcards_k10_whole_shown_and_read.main with body := keptB PySem.Challenge.pw_jarcards_k10_whole_shown_and_read.main.body } }
def xt (s : Shared) : Bool := xlAt seenP [] s && recOk (RowW.records (OpenRow.toRowW (OpenLaw.row PySem.Challenge.rw_jarcards_k10_whole_shown_and_read))) s
/-- the text stands for itself in what is reckoned quickly -/
def _root_.PySem.W.Fast.tw8182825701668700128 : Program := PySem.Challenge.pw_jarcards_k10_whole_shown_and_read
theorem _root_.PySem.W.Fast.te8182825701668700128 : PySem.Challenge.pw_jarcards_k10_whole_shown_and_read = PySem.W.Fast.tw8182825701668700128 := rfl
theorem goA (w : World) (os : OsState) : (JH.goes PySem.Challenge.pw_jarcards_k10_whole_shown_and_read 6000 w os).map (fun s => JH.look PySem.Challenge.pw_jarcards_k10_whole_shown_and_read w s.abs) = some true := by kernel_rfl
theorem goC (w : World) (os : OsState) : (JH.goes PySem.Challenge.pw_jarcards_k10_whole_shown_and_read 6000 w os).map (fun s => openSeen seenP [] (importedModules PySem.Challenge.pw_jarcards_k10_whole_shown_and_read.main.body) xt true s.abs) = some (openGood seenP []) := by kernel_rfl
section
local macro_rules
  | `(tactic| o_head $H) => `(tactic| (
    refine holds_open (q := seenP)
      (loose := []) (N := 6000) (Xt := xt)
      (XP := XL seenP []) (Yf := Hook.obs $H)
      (Ya := Hook.val $H) (YP := Hook.says $H)
      (JH.left_of (M := 6000)
        (by kernel_rfl) (by rfl) (fun s => by kernel_rfl) (by rfl)
        goA goC (fun w os => by kernel_rfl))
      (Hook.of $H) (Hook.keeps $H)
      (fun s e => xl_of s (Bool.and_eq_true_iff.mp e).1)
      XL.keeps (by rfl) (by rfl) (by rfl)
      (fun s e => recFacts_of (Bool.and_eq_true_iff.mp e).2)
      (by rfl) (by first | assumption | decide +kernel)
      (by decide +kernel)
      ⟨rfl, rfl, rfl, rfl, rfl, by decide +kernel⟩ ?hw ?hc))
set_option maxHeartbeats 0 in
open_top top1 for PySem.Challenge.rw_jarcards_k10_whole_shown_and_read
end
end W10

set_option Elab.async false
set_option linter.all false
set_option maxRecDepth 100000
/-! THE HAND LAYER, for ints, bools, texts, own classes, LISTS and tuples (index, slices, in, append, pop ..), calls, loops. Paste it whole ahead of your own text; what your proof does not reach may be deleted. -/
namespace L2
open PySem PySem.Spec PyProof.Rows

/-- a key: an int or a str -/
abbrev Key := Sum Int Str
def keyIs : Key → Value → Bool
  | .inl k, v => Value.isInt k v
  | .inr x, v => Value.isStrOf x v
def keyH (w : World) : Key → Int
  | .inl k => hashInt k
  | .inr x => hashStr w x
theorem keyIs_shape : ∀ {k : Key} {v : Value}, keyIs k v = true → (∃ i t, k = Sum.inl i ∧ v = Value.int i t) ∨ (∃ x t, k = Sum.inr x ∧ v = Value.str x t)
  | .inl i, v, h => by
    obtain ⟨t, e⟩ := Value.isInt_shape (k := i) (v := v) h
    exact .inl ⟨i, t, rfl, e⟩
  | .inr x, v, h => by
    obtain ⟨t, e⟩ := Value.isStrOf_shape (x := x) (v := v) h
    exact .inr ⟨x, t, rfl, e⟩
theorem key_ll (a b : Int) : decide ((Sum.inl a : Key) = Sum.inl b) = (a == b) := by
  by_cases e : a = b
  · subst e; simp
  · have h : ¬ (Sum.inl a : Key) = Sum.inl b := fun q => e (Sum.inl.inj q)
    rw [decide_eq_false h]
    exact (beq_eq_false_iff_ne.mpr e).symm
theorem key_rr (a b : Str) : decide ((Sum.inr a : Key) = Sum.inr b) = decide (a = b) := by
  by_cases e : a = b
  · subst e; simp
  · have h : ¬ (Sum.inr a : Key) = Sum.inr b := fun q => e (Sum.inr.inj q)
    rw [decide_eq_false h, decide_eq_false e]
theorem key_lr (a : Int) (b : Str) : decide ((Sum.inl a : Key) = Sum.inr b) = false := decide_eq_false (fun q => nomatch q)
theorem key_rl (a : Str) (b : Int) : decide ((Sum.inr a : Key) = Sum.inl b) = false := decide_eq_false (fun q => nomatch q)

def mixKind (prog : Program) (w : World) : PySem.KeyKind prog w Key where
  is := keyIs
  hash := keyH w
  inj := fun v a b ha hb => by
    rcases keyIs_shape ha with ⟨i, t, rfl, rfl⟩ | ⟨x, t, rfl, rfl⟩
    · rcases keyIs_shape hb with ⟨j, u, rfl, e⟩ | ⟨y, u, rfl, e⟩
      · injection e with e1 _; rw [e1]
      · exact nomatch e
    · rcases keyIs_shape hb with ⟨j, u, rfl, e⟩ | ⟨y, u, rfl, e⟩
      · exact nomatch e
      · injection e with e1 _; rw [e1]
  byValue := fun k v h => by
    rcases keyIs_shape h with ⟨i, t, rfl, rfl⟩ | ⟨x, t, rfl, rfl⟩ <;> rfl
  pyHash := fun hv h => by
    rcases keyIs_shape hv with ⟨i, t, rfl, rfl⟩ | ⟨x, t, rfl, rfl⟩
    · exact wpAny_pyHash_int h
    · exact wpAny_pyHash_str h
  eqBool := fun hu hv h => by
    rcases keyIs_shape hu with ⟨i, t, rfl, rfl⟩ | ⟨x, t, rfl, rfl⟩
    · rcases keyIs_shape hv with ⟨j, u, rfl, rfl⟩ | ⟨y, u, rfl, rfl⟩
      · rw [key_ll] at h; exact wpAny_eqBool_int h
      · rw [key_lr] at h; exact SeqAt.EqAt.int_str i t y u _ _ _ _ h
    · rcases keyIs_shape hv with ⟨j, u, rfl, rfl⟩ | ⟨y, u, rfl, rfl⟩
      · rw [key_rl] at h; exact SeqAt.EqAt.str_int x t j u _ _ _ _ h
      · rw [key_rr] at h; exact wpAny_eqBool_str h
  «strs» := fun k x t v h => by
    rcases keyIs_shape h with ⟨i, u, rfl, e⟩ | ⟨y, u, rfl, e⟩
    · exact nomatch e
    · injection e with e1 _
      subst e1
      cases v <;> rfl

end L2

namespace L2
open PySem PySem.Spec PyProof.Rows

/-- a value, without the heap -/
inductive V where
  | non | bl (b : Bool) | int (i : Int) | str (x : Str) | byt (b : Array UInt8) | flt (b : UInt64) | ref (a : Addr) | ty (n : String)
  deriving DecidableEq

def RelV : V → Value → Prop
  | .non, u => u = Value.none
  | .bl b, u => u = Value.bool b
  | .int i, u => ∃ t, u = Value.int i t
  | .str x, u => ∃ t, u = Value.str x t
  | .byt b, u => ∃ t, u = Value.bytes b t
  | .flt b, u => ∃ t, u = Value.float b t
  | .ref a, u => u = Value.ref a
  | .ty n, u => u = Value.type n

abbrev Vals : List V → List Value → Prop := Paired RelV
theorem Vals.length {xs : List V} {us : List Value} (r : Vals xs us) : xs.length = us.length := Paired.length r
theorem Vals.get : ∀ {xs : List V} {us : List Value} {i : Nat} {x : V}, Vals xs us → xs[i]? = some x → ∃ u, us[i]? = some u ∧ RelV x u
  | _, _, _, _, .nil, e => by simp at e
  | _, _, 0, _, .cons r _, e => by simp at e; subst e; exact ⟨_, rfl, r⟩
  | _, _, i + 1, x, .cons _ t, e => by
    obtain ⟨u, h1, h2⟩ := Vals.get (i := i) (x := x) t (by simpa using e)
    exact ⟨u, by simpa using h1, h2⟩
theorem Vals.set {x : V} {u : Value} (r : RelV x u) : ∀ {xs : List V} {us : List Value} (i : Nat), Vals xs us → Vals (xs.set i x) (us.set i u)
  | _, _, _, .nil => .nil
  | _, _, 0, .cons _ t => .cons r t
  | _, _, i + 1, .cons q t => .cons q (Vals.set r i t)
theorem Vals.append : ∀ {xs ys : List V} {us ws : List Value}, Vals xs us → Vals ys ws → Vals (xs ++ ys) (us ++ ws)
  | _, _, _, _, .nil, s => s
  | _, _, _, _, .cons r t, s => .cons r (Vals.append t s)
theorem Vals.take : ∀ {xs : List V} {us : List Value} (n : Nat), Vals xs us → Vals (xs.take n) (us.take n)
  | _, _, 0, _ => .nil
  | _, _, _ + 1, .nil => .nil
  | _, _, n + 1, .cons r t => .cons r (Vals.take n t)
theorem Vals.drop : ∀ {xs : List V} {us : List Value} (n : Nat), Vals xs us → Vals (xs.drop n) (us.drop n)
  | _, _, 0, r => r
  | _, _, _ + 1, .nil => .nil
  | _, _, n + 1, .cons _ t => Vals.drop n t

def RelO : Option V → Option Value → Prop
  | some v, some u => RelV v u
  | none, none => True
  | _, _ => False
def KV {κ : Type} : List (κ × V) → List (κ × Value) → Prop := Paired fun (p : κ × V) (q : κ × Value) => p.1 = q.1 ∧ RelV p.2 q.2

/-- a key of a dict (00_mix): an int or a text -/
def kV : Key → V
  | .inl i => .int i
  | .inr x => .str x

/-- what stands at a tracked address -/
inductive HO where
  /-- a list -/
  | lst (xs : List V)
  /-- a tuple (never changes) -/
  | tup (xs : List V)
  /-- a dict whose keys are ints and texts; one whose keys are tuples of ints and texts (the empty one is both) -/
  | dK (kvs : List (Key × V)) | dT (kvs : List (List Key × V))
  /-- a set of ints: its members, its size -/
  | set (S : Int → Bool) (n : Nat)
  /-- an instance of the class at C, its dict at dx, its attributes -/
  | ins (C dx : Addr) (fs : List (Str × V))
  /-- the dict of the instance at x -/
  | own (x : Addr)
  /-- the dict of an exception -/
  | xd (fs : List (Str × V))
  /-- a bound method, f of x -/
  | met (f x : Addr)
  /-- a range object lo, lo + 1, .. below hi -/
  | rng (lo hi : Int)
  /-- a thing that is known to the object (the script; a dict while a loop walks it): read, never written while it is so -/
  | frz (o : Obj) (u : HO)
  /-- a code object's table -/
  | tbl (ps : Array Value)
  /-- any other thing, by what is true of its one object (a def of one's own: SetO a S n := HO.ext fun h => ..) -/
  | ext (φ : Heap → Prop)

abbrev Hp := Addr → Option HO
def upd (H : Hp) (a : Addr) (o : HO) : Hp := fun b => if b = a then some o else H b
theorem upd_same {H : Hp} {a : Addr} {o : HO} : upd H a o a = some o := by unfold upd; rw [if_pos rfl]
theorem upd_ne {H : Hp} {a b : Addr} {o : HO} (h : b ≠ a) : upd H a o b = H b := by unfold upd; rw [if_neg h]
theorem upd_upd {H : Hp} {a : Addr} {o u : HO} : upd (upd H a o) a u = upd H a u := by
  funext b; unfold upd; split <;> rfl
/-- two objects of different content stand apart -/
theorem ne_of {H : Hp} {a b : Addr} {o u : HO} (h : H a = some o) (h' : H b = some u) (d : o ≠ u) : a ≠ b := by
  intro e; subst e; rw [h] at h'; exact d (Option.some.inj h')
theorem ne_of_none {H : Hp} {a b : Addr} {o : HO} (h : H a = some o) (h' : H b = none) : a ≠ b := by
  intro e; subst e; rw [h] at h'; cases h'

section
variable (P : Program) (w : World)
def ObjOk (H : Hp) (h : Heap) (a : Addr) : HO → Prop
  | .lst xs => xs.length ≤ sizeLine ∧ ∃ (its : List Value) (n : Nat), Vals xs its ∧ h.get? a = some { cls := .type "list", data := .seq its.toArray n }
  | .tup xs => xs.length ≤ sizeLine ∧ ∃ its : List Value, Vals xs its ∧ IsTup h a its.toArray
  | .dK kvs => kvs.length ≤ sizeLine ∧ (a == sysModules) = false ∧ ∃ vs, KV kvs vs ∧ h.DictOf (mixKind P w) a vs
  | .dT kvs => kvs.length ≤ sizeLine ∧ (a == sysModules) = false ∧ ∃ xs : List (List Key × Addr × Value),
      Paired (fun (p : List Key × V) (q : List Key × Addr × Value) => p.1 = q.1 ∧ H q.2.1 = some (.tup (p.1.map kV)) ∧ RelV p.2 q.2.2) kvs xs ∧
      ∃ o es ep, h.get? a = some o ∧ o.ExactDict ∧ o.data = .dict es ep ∧ es.toList = xs.map (entryOfKey (tupleKind (mixKind P w))) ∧ (xs.map (·.1)).Nodup
  | .set S n => h.SetOf (intKind P w) a S n
  | .ins C dx fs => H dx = some (.own a) ∧ fs.length ≤ 1000 ∧ dx ≠ a ∧ h.get? a = some (PySem.W.instObj C dx) ∧
      ∃ mA, h.Ns1 dx mA ∧ (∀ f, RelO (fs.lookup f) (mA f)) ∧ PySem.Within mA (fs.map (·.1))
  | .own _ => ∃ o, h.get? a = some o
  | .xd fs => ∃ mA, h.Ns1 a mA ∧ ∀ f, RelO (fs.lookup f) (mA f)
  | .rng lo hi => ∃ t u v, h.get? a = some { cls := .type "range", data := .fields #[.int lo t, .int hi u, .int 1 v] }
  | .frz o u => h.get? a = some o ∧ ObjOk H h a u
  | .tbl ps => h.get? a = some { cls := .none, data := .fields ps }
  | .met f x => h.get? a = some (PySem.W.methodObj (.ref f) (.ref x))
  | .ext φ => φ h ∧ (∃ o, h.get? a = some o) ∧ ∀ h1 h2 : Heap, φ h1 → (∀ o, h1.get? a = some o → h2.get? a = some o) → φ h2
/-- the abstract heap is held -/
def HOk (H : Hp) (h : Heap) : Prop := ∀ a o, H a = some o → ObjOk P w H h a o
end

section
variable {P : Program} {w : World} {H H' : Hp} {h h' : Heap} {a : Addr} {o : HO}
theorem ObjOk.lt (x : ObjOk P w H h a o) : a < h.objs.size := by
  cases o with
  | lst xs => obtain ⟨_, _, _, _, e⟩ := x; exact Heap.lt_size e
  | tup xs => obtain ⟨_, _, _, p⟩ := x; exact p.lt
  | dK kvs => obtain ⟨_, _, _, _, o, _, _, e, _⟩ := x; exact Heap.lt_size e
  | dT kvs => obtain ⟨_, _, _, _, o, _, _, e, _⟩ := x; exact Heap.lt_size e
  | set S n => obtain ⟨o, _, _, _, e, _⟩ := x; exact Heap.lt_size e
  | ins C dx fs => obtain ⟨_, _, _, e, _⟩ := x; exact Heap.lt_size e
  | own y => obtain ⟨_, e⟩ := x; exact Heap.lt_size e
  | xd fs => obtain ⟨_, ⟨_, _, _, e, _⟩, _⟩ := x; exact Heap.lt_size e
  | rng lo hi => obtain ⟨_, _, _, e⟩ := x; exact Heap.lt_size e
  | frz ob u => obtain ⟨e, _⟩ := x; exact Heap.lt_size e
  | tbl ps => exact Heap.lt_size (show h.get? a = some _ from x)
  | met f y => exact Heap.lt_size (show h.get? a = some _ from x)
  | ext φ => obtain ⟨_, ⟨_, e⟩, _⟩ := x; exact Heap.lt_size e
theorem Paired.mapP {α β : Type} {F G : α → β → Prop} : ∀ {l₁ : List α} {l₂ : List β}, Paired F l₁ l₂ → (∀ a b, F a b → G a b) → Paired G l₁ l₂
  | _, _, .nil, _ => .nil
  | _, _, .cons r t, f => .cons (f _ _ r) (Paired.mapP t f)
/-- what an object's description leans on: its own object, its own dict, the tuples -/
theorem ObjOk.stay (x : ObjOk P w H h a o) (k : ∀ b u, (b = a ∨ H b = some (.own a)) → h.get? b = some u → h'.get? b = some u)
    (ho : ∀ b, H b = some (.own a) → H' b = some (.own a)) (ht : ∀ b xs, H b = some (.tup xs) → H' b = some (.tup xs)) : ObjOk P w H' h' a o := by
  induction o with
  | lst xs => obtain ⟨z, its, n, r, e⟩ := x; exact ⟨z, its, n, r, k _ _ (.inl rfl) e⟩
  | tup xs => obtain ⟨z, its, r, ob, e, c⟩ := x; exact ⟨z, its, r, ob, k _ _ (.inl rfl) e, c⟩
  | dK kvs => obtain ⟨z, y, vs, r, ob, es, ep, e, c⟩ := x; exact ⟨z, y, vs, r, ob, es, ep, k _ _ (.inl rfl) e, c⟩
  | dT kvs =>
    obtain ⟨z, y, xs, r, ob, es, ep, e, c⟩ := x
    exact ⟨z, y, xs, Paired.mapP r fun p q z => ⟨z.1, ht _ _ z.2.1, z.2.2⟩, ob, es, ep, k _ _ (.inl rfl) e, c⟩
  | set S n => obtain ⟨ob, es, ep, t, e, c⟩ := x; exact ⟨ob, es, ep, t, k _ _ (.inl rfl) e, c⟩
  | ins C dx fs =>
    obtain ⟨d, z, ne, e, mA, ⟨od, es, ep, e2, c⟩, r⟩ := x
    exact ⟨ho _ d, z, ne, k _ _ (.inl rfl) e, mA, ⟨od, es, ep, k _ _ (.inr d) e2, c⟩, r⟩
  | own y => obtain ⟨ob, e⟩ := x; exact ⟨ob, k _ _ (.inl rfl) e⟩
  | xd fs => obtain ⟨mA, ⟨od, es, ep, e, c⟩, r⟩ := x; exact ⟨mA, ⟨od, es, ep, k _ _ (.inl rfl) e, c⟩, r⟩
  | rng lo hi => obtain ⟨t, u, v, e⟩ := x; exact ⟨t, u, v, k _ _ (.inl rfl) e⟩
  | frz ob u ih => obtain ⟨e, q⟩ := x; exact ⟨k _ _ (.inl rfl) e, ih q⟩
  | tbl ps =>
    have e : h.get? a = some { cls := .none, data := .fields ps } := x
    show h'.get? a = some { cls := .none, data := .fields ps }
    exact k a _ (.inl rfl) e
  | met f y =>
    have e : h.get? a = some (PySem.W.methodObj (.ref f) (.ref y)) := x
    show h'.get? a = some (PySem.W.methodObj (.ref f) (.ref y))
    exact k a _ (.inl rfl) e
  | ext φ => obtain ⟨p, ⟨o, e⟩, st⟩ := x; exact ⟨st _ _ p fun o q => k _ _ (.inl rfl) q, ⟨o, k _ _ (.inl rfl) e⟩, st⟩
theorem HOk.lt (x : HOk P w H h) (e : H a = some o) : a < h.objs.size := (x a o e).lt
theorem HOk.fresh (x : HOk P w H h) (e : h.objs.size ≤ a) : H a = none := by
  cases q : H a with
  | none => rfl
  | some u => exact absurd (Nat.lt_of_lt_of_le (x.lt q) e) (Nat.lt_irrefl _)
/-- every object of the heap is kept -/
theorem HOk.kept (x : HOk P w H h) (k : ∀ b u, h.get? b = some u → h'.get? b = some u) : HOk P w H h' := fun a o e =>
  (x a o e).stay (fun b u _ q => k b u q) (fun _ q => q) fun _ _ q => q
/-- a new object is laid and tracked -/
theorem HOk.laid (x : HOk P w H h) (k : ∀ b u, h.get? b = some u → h'.get? b = some u) (hp : h.objs.size ≤ a) (new : ObjOk P w (upd H a o) h' a o) : HOk P w (upd H a o) h' := fun b u e => by
  have hn := x.fresh hp
  by_cases hb : b = a
  · subst hb; rw [upd_same] at e; cases e; exact new
  · rw [upd_ne hb] at e
    exact (x b u e).stay (fun c v _ q => k c v q) (fun c q => by rw [upd_ne (ne_of_none q hn)]; exact q) fun c xs q => by rw [upd_ne (ne_of_none q hn)]; exact q
end

/-- what may be read as u: it is u, or a known u -/
def Rd (H : Hp) (a : Addr) (u : HO) : Prop := H a = some u ∨ ∃ o, H a = some (.frz o u)
theorem Rd.ok {P : Program} {w : World} {H : Hp} {h : Heap} {a : Addr} {u : HO} (r : Rd H a u) (x : HOk P w H h) : ObjOk P w H h a u := by
  rcases r with r | ⟨o, r⟩
  · exact x a u r
  · obtain ⟨_, q⟩ := x a _ r
    exact q
/-- what may be written -/
def Mut : Option HO → Prop
  | some (.lst _) => True
  | some (.dK _) => True
  | some (.dT _) => True
  | some (.set _ _) => True
  | some (.ins _ _ _) => True
  | some (.ext _) => True
  | _ => False
section
variable {P : Program} {w : World} {H : Hp} {h h' : Heap} {x e : Addr} {o' : HO}
/-- the object at e is changed: x itself, or the dict of the instance x -/
theorem HOk.write (ok : HOk P w H h) (mu : Mut (H x)) (he : e = x ∨ H e = some (.own x)) (k : ∀ b u, b ≠ e → h.get? b = some u → h'.get? b = some u) (heo : ∃ u, h'.get? e = some u)
    (new : ObjOk P w (upd H x o') h' x o') : HOk P w (upd H x o') h' := fun b u q => by
  have nown : ∀ c y, H c = some (.own y) → c ≠ x := fun c y r z => by subst z; rw [r] at mu; exact mu
  have ntup : ∀ c xs, H c = some (.tup xs) → c ≠ x := fun c xs r z => by subst z; rw [r] at mu; exact mu
  by_cases hb : b = x
  · subst hb; rw [upd_same] at q; cases q; exact new
  · rw [upd_ne hb] at q
    by_cases hbe : b = e
    · have q' : H b = some (.own x) := by
        rcases he with z | z
        · exact absurd (hbe.trans z) hb
        · rw [hbe]; exact z
      rw [q] at q'; cases q'
      obtain ⟨v, hv⟩ := heo
      exact ⟨v, by rw [hbe]; exact hv⟩
    · refine (ok b u q).stay (fun c v hc r => k c v ?_ r) (fun c r => by rw [upd_ne (nown c b r)]; exact r) fun c xs r => by rw [upd_ne (ntup c xs r)]; exact r
      rcases hc with rfl | hc
      · exact hbe
      · rintro rfl
        rcases he with z | z
        · exact nown c b hc z
        · rw [hc] at z; cases z; exact hb rfl
end

/-! ### kept unless tracked; of the frames at fs (the callers') the slots may change (an exception that passes writes there); of the records at ex (iterators) nothing is said -/
structure Un (fs ex : List Addr) (H H' : Hp) (h h' : Heap) : Prop where
  keep : ∀ b o, h.get? b = some o → H b = none → b ∉ fs → b ∉ ex → h'.get? b = some o
  slot : ∀ b o, h.get? b = some o → H b = none → b ∈ fs → b ∉ ex → ∃ sl, h'.get? b = some { o with slots := sl }
  free : ∀ b o, h.get? b = some o → H b = none → b ∉ ex → H' b = none
  there : ∀ b o, h.get? b = some o → b ∉ ex → ∃ o', h'.get? b = some o'
  tups : ∀ b xs, H b = some (.tup xs) → H' b = some (.tup xs)
  frzs : ∀ b o u, H b = some (.frz o u) → H' b = some (.frz o u)
  tbls : ∀ b ps, H b = some (.tbl ps) → ∃ more, H' b = some (.tbl (ps ++ more))
section
variable {fs fs' ex ex' : List Addr} {H H1 H2 : Hp} {h h1 h2 h' : Heap} {a x e : Addr} {o : HO}
theorem Un.any (u : Un fs ex H H1 h h1) {b : Addr} {ob : Obj} (q : h.get? b = some ob) (n : H b = none) (hx : b ∉ ex) : ∃ sl, h1.get? b = some { ob with slots := sl } := by
  by_cases hb : b ∈ fs
  · exact u.slot b ob q n hb hx
  · exact ⟨ob.slots, u.keep b ob q n hb hx⟩
theorem Un.kept (k : ∀ b u, h.get? b = some u → h'.get? b = some u) : Un fs ex H H h h' :=
  ⟨fun b ob q _ _ _ => k b ob q, fun b ob q _ _ _ => ⟨ob.slots, k b ob q⟩, fun _ _ _ n _ => n, fun b ob q _ => ⟨ob, k b ob q⟩, fun _ _ q => q, fun _ _ _ q => q, fun _ ps q => ⟨#[], by rw [q]; simp⟩⟩
theorem Un.refl : Un fs ex H H h h := Un.kept fun _ _ q => q
theorem Un.laid (k : ∀ b u, h.get? b = some u → h'.get? b = some u) (hp : h.objs.size ≤ a) (hn : H a = none) : Un fs ex H (upd H a o) h h' where
  keep := fun b u q _ _ _ => k b u q
  slot := fun b u q _ _ _ => ⟨u.slots, k b u q⟩
  free := fun b u q n _ => by rw [upd_ne (Nat.ne_of_lt (Nat.lt_of_lt_of_le (Heap.lt_size q) hp))]; exact n
  there := fun b u q _ => ⟨u, k b u q⟩
  tups := fun b xs q => by rw [upd_ne (ne_of_none q hn)]; exact q
  frzs := fun b u xs q => by rw [upd_ne (ne_of_none q hn)]; exact q
  tbls := fun b ps q => ⟨#[], by rw [upd_ne (ne_of_none q hn), q]; simp⟩
theorem Un.write (mu : Mut (H x)) (he : e = x ∨ H e = some (.own x)) (k : ∀ b u, b ≠ e → h.get? b = some u → h'.get? b = some u) (heo : ∃ u, h'.get? e = some u) : Un fs ex H (upd H x o) h h' := by
  have hx : ∀ b, H b = none → b ≠ x := fun b n z => by subst z; rw [n] at mu; exact mu
  have hb : ∀ b, H b = none → b ≠ e := fun b n z => by
    subst z
    rcases he with r | r
    · exact hx b n r
    · rw [n] at r; cases r
  have hm : ∀ b u, H b = some u → ¬ Mut (some u) → b ≠ x := fun b u q nm z => by subst z; rw [q] at mu; exact nm mu
  refine ⟨fun b u q n _ _ => k b u (hb b n) q, fun b u q n _ _ => ⟨u.slots, k b u (hb b n) q⟩, fun b u q n _ => by rw [upd_ne (hx b n)]; exact n, fun b u q _ => ?_,
    fun b xs q => by rw [upd_ne (hm b _ q fun z => z)]; exact q, fun b u xs q => by rw [upd_ne (hm b _ q fun z => z)]; exact q, fun b ps q => ⟨#[], by rw [upd_ne (hm b _ q fun z => z), q]; simp⟩⟩
  by_cases hbe : b = e
  · subst hbe; exact heo
  · exact ⟨u, k b u hbe q⟩
end

/-! ### the heap without what is tracked -/
def trk (h : Heap) (H : Hp) : List Addr := (List.range h.objs.size).filter fun a => (H a).isSome
def hidT (h : Heap) (H : Hp) : Heap := PySem.W.hideAll h (trk h H)
theorem hidT_size (h : Heap) (H : Hp) : (hidT h H).objs.size = h.objs.size := PySem.W.hideAll_size _ _
theorem hidT_get {h : Heap} {H : Hp} {b : Addr} {o : Obj} (e : h.get? b = some o) (n : H b = none) : (hidT h H).get? b = some o :=
  PySem.W.hideAll_get _ e fun hm => by
    have q : (H b).isSome = true := (List.mem_filter.mp hm).2
    rw [n] at q; simp at q
theorem of_hidT {h : Heap} {H : Hp} {b : Addr} {o : Obj} (e : (hidT h H).get? b = some o) : h.get? b = some o ∧ H b = none := by
  have e' : h.get? b = some o := PySem.W.of_hideAll (trk h H) e
  refine ⟨e', ?_⟩
  cases q : H b with
  | none => rfl
  | some x =>
    have hm : b ∈ trk h H := List.mem_filter.mpr ⟨List.mem_range.mpr (Heap.lt_size e'), by simp [q]⟩
    have z : (hidT h H).get? b = none := PySem.W.hideAll_none (trk h H) hm
    rw [z] at e; cases e

/-! ### OpenK's ledger, filled with every new object but one -/
end L2

namespace L2
open PySem PySem.Spec PyProof.Rows

/-- the module's facts, over the base: the heap at the law's entry without what is tracked there -/
structure Mod (K : PySem.W.Frag) (mg : Str → Option Value) (base : Heap) : Prop where
  kin : K.In base
  glob : base.Ns mainGlobals mg
  blt : ∃ mb, base.Ns builtinsNs mb ∧ ∀ x : Str, x ≠ "__name__" → mb x = bootBuiltins x
  nolimit : base.NoLimit

/-- the context: a def's body (or a comprehension's block) running. base: fixed through the whole law; s₀, H₀: the entry; outer: the frames whose slots others may change (a def's callers); stack: all frames that run;
   ex: iterators that were made ahead of the entry and are walked here (a comprehension's); fn: the names whose cells were made at the entry (a def: all; a comprehension's block: its own); calm: not within an except suite; pn: pins that every state bears; xe: what is wanted of an exception that leaves the code -/
structure Cx where
  prog : Program
  w : World
  K : PySem.W.Frag
  mg : Str → Option Value
  base : Heap
  A : Around
  N : List Str
  s₀ : Shared
  H₀ : Hp
  env : Env
  outer : List Env
  stack : List Env
  ex : List Addr
  fn : Str → Bool
  calm : Bool
  pn : List (Addr × Obj)
  xe : Value → Shared → Prop
/-- the callers' frames -/
def frs (l : List Env) : List Addr := l.filterMap (·.frame)
abbrev Cx.fs (X : Cx) : List Addr := frs X.outer

def Vis (sc : Scope) (x : Str) : Prop := sc.names.lookup x = some .local ∨ sc.names.lookup x = some .cell ∨ sc.names.lookup x = some .free
def Loc (sc : Scope) (x : Str) : Prop := sc.names.lookup x = some .local ∨ sc.names.lookup x = some .cell
def Look (env : Env) (h : Heap) (m : Str → Option Value) (x : Str) (u : Value) : Prop :=
  (env.kindOf x = some .local ∧ m x = some u) ∨ ((env.kindOf x = some .cell ∨ env.kindOf x = some .free) ∧ ∃ c, env.cells.lookup x = some c ∧ h.IsCell c (some u))

structure Cx.Ok (X : Cx) : Prop where
  mod : Mod X.K X.mg X.base
  kind : X.env.scope.kind = .function
  glob : X.env.globals = mainGlobals
  blt : X.env.builtins = builtinsNs
  above : X.s₀.heap.objs.size ≤ X.env.locals
  inj : ∀ x y c, X.env.cells.lookup x = some c → X.env.cells.lookup y = some c → x = y
  has : ∀ x, (X.env.kindOf x = some .cell ∨ X.env.kindOf x = some .free) → ∃ c, X.env.cells.lookup x = some c
  cab : ∀ x c, X.fn x = true → X.env.cells.lookup x = some c → X.s₀.heap.objs.size ≤ c
  hd : X.calm = true → X.A.handled = none
  frames : X.A.frames = some X.stack
  stk : X.stack = X.outer ∨ (X.stack = X.env :: X.outer ∧ X.env.frame = some X.env.locals)
  exf : ∀ b ∈ X.ex, b ≠ X.env.locals ∧ ∀ x c, X.env.cells.lookup x = some c → c ≠ b
  bs : ∀ b o, X.base.get? b = some o → X.s₀.heap.get? b = some o ∧ X.H₀ b = none
  bsz : X.base.objs.size ≤ X.s₀.heap.objs.size
  noex : ∀ b o, X.base.get? b = some o → b ∉ X.ex
  exfs : ∀ b ∈ X.ex, b ∉ X.fs
  funs : X.s₀.heap.FunFrames X.base X.outer
  frf : ∀ b ∈ X.fs, X.H₀ b = none

structure Inv (X : Cx) (pins : List (Addr × Obj)) (σ : List (Option V)) (H : Hp) (s : Shared) : Prop where
  ok : X.Ok
  os : s.os = X.s₀.os
  bare : AllBare s.gens
  base : Un X.fs X.ex X.H₀ H X.s₀.heap s.heap
  loc : ∃ m, s.heap.Ns X.env.locals m ∧ ∀ (i : Nat) (x : Str) (v : V), X.N[i]? = some x → σ[i]? = some (some v) → Vis X.env.scope x → ∃ u, RelV v u ∧ Look X.env s.heap m x u
  cell : ∀ x c, X.env.cells.lookup x = some c → ∃ v, s.heap.IsCell c v
  free : H X.env.locals = none
  freeC : ∀ x c, X.env.cells.lookup x = some c → H c = none
  pin : ∀ p ∈ X.pn ++ pins, s.heap.get? p.1 = some p.2 ∧ H p.1 = none ∧ p.1 ≠ X.env.locals ∧ p.1 ∉ X.fs ∧ ∀ v, p.2.data ≠ .cell v
  hok : HOk X.prog X.w H s.heap
  len : σ.length = X.N.length

section
variable {X : Cx} {pins : List (Addr × Obj)} {σ : List (Option V)} {H H' : Hp} {s : Shared} {h' : Heap}

theorem Cx.Ok.nofr (ok : X.Ok) {b : Addr} {o : Obj} (e : X.base.get? b = some o) : b ∉ X.fs := fun hb => by
  have := (ok.funs.mem hb).1
  rw [e] at this; cases this
theorem Inv.bs (I : Inv X pins σ H s) : ∀ b o, X.base.get? b = some o → s.heap.get? b = some o ∧ H b = none := fun b o e =>
  ⟨I.base.keep b o (I.ok.bs b o e).1 (I.ok.bs b o e).2 (I.ok.nofr e) (I.ok.noex b o e), I.base.free b o (I.ok.bs b o e).1 (I.ok.bs b o e).2 (I.ok.noex b o e)⟩
theorem Inv.bk (I : Inv X pins σ H s) : ∀ b o, X.base.get? b = some o → s.heap.get? b = some o := fun b o e => (I.bs b o e).1
theorem Inv.mod (I : Inv X pins σ H s) : Mod X.K X.mg X.base := I.ok.mod
theorem Inv.kIn (I : Inv X pins σ H s) : X.K.In s.heap := I.ok.mod.kin.keeps I.bk
theorem Inv.lt (I : Inv X pins σ H s) : X.env.locals < s.heap.objs.size := let ⟨_, hn, _⟩ := I.loc; hn.lt
theorem Inv.sz (I : Inv X pins σ H s) : X.s₀.heap.objs.size ≤ s.heap.objs.size := Nat.le_trans I.ok.above (Nat.le_of_lt I.lt)
theorem Inv.nofs (I : Inv X pins σ H s) {a : Addr} (h : s.heap.objs.size ≤ a) : a ∉ X.fs := fun hb => by
  obtain ⟨_, o, ho, _⟩ := I.ok.funs.mem hb
  exact absurd (Nat.lt_of_lt_of_le (Heap.lt_size ho) (Nat.le_trans I.sz h)) (Nat.lt_irrefl _)
theorem Inv.cne (I : Inv X pins σ H s) : ∀ x c, X.env.cells.lookup x = some c → c ≠ X.env.locals := fun x c e z => by
  obtain ⟨v, o, ho, hd⟩ := I.cell x c e
  obtain ⟨m, ⟨o', es, ep, ho', hd', _⟩, _⟩ := I.loc
  rw [z, ho'] at ho; cases ho; rw [hd'] at hd; cases hd
theorem Inv.funs (I : Inv X pins σ H s) : s.heap.FunFrames X.base X.outer := by
  have all : ∀ (l : List Env), (∀ b ∈ frs l, b ∈ X.fs) → X.s₀.heap.FunFrames X.base l → s.heap.FunFrames X.base l := by
    intro l
    induction l with
    | nil => intro _ _; trivial
    | cons env r ih =>
      intro hs hl
      obtain ⟨hk, ⟨L, o, hf, hn, ho, hd⟩, hr⟩ := hl
      have hL : L ∈ X.fs := hs L (by unfold frs; rw [List.filterMap_cons, hf]; exact List.mem_cons_self)
      obtain ⟨sl, e⟩ := I.base.slot L o ho (I.ok.frf L hL) hL fun z => I.ok.exfs L z hL
      exact ⟨hk, ⟨L, _, hf, hn, e, hd⟩, ih (fun b hb => hs b (by unfold frs; rw [List.filterMap_cons, hf]; exact List.mem_cons_of_mem _ hb)) hr⟩
  exact all X.outer (fun _ hb => hb) I.ok.funs

/-- the frames that run, for a call -/
theorem Inv.stack (I : Inv X pins σ H s) : s.heap.FunFrames X.base X.stack := by
  rcases I.ok.stk with e | ⟨e, hf⟩
  · rw [e]; exact I.funs
  · rw [e]
    obtain ⟨m, hn, _⟩ := I.loc
    refine .cons (by rw [I.ok.kind]; decide) hf hn ?_ I.funs
    exact Heap.get?_none_of_le (Nat.le_trans I.ok.bsz I.ok.above)
theorem Inv.stkSub (I : Inv X pins σ H s) : ∀ b ∈ frs X.stack, b ∈ X.env.locals :: X.fs := fun b hb => by
  rcases I.ok.stk with e | ⟨e, hf⟩
  · rw [e] at hb; exact List.mem_cons_of_mem _ hb
  · rw [e] at hb
    unfold frs at hb
    rw [List.filterMap_cons, hf] at hb
    exact hb
theorem Inv.stkFree (I : Inv X pins σ H s) : ∀ b ∈ frs X.stack, H b = none := fun b hb => by
  rcases List.mem_cons.mp (I.stkSub b hb) with e | hb
  · rw [e]; exact I.free
  · obtain ⟨_, o, ho, _⟩ := I.ok.funs.mem hb
    exact I.base.free b o ho (I.ok.frf b hb) fun z => I.ok.exfs b z hb

/-- THE STEP: the untracked objects but the frame and the records at ch are kept (the callers' frames up to slots), the frame's map is kept, the new abstract heap is held -/
theorem Inv.step {g' : Array GenState} {t' : Nat} {d' : Drawn} {ch : List Addr} (I : Inv X pins σ H s)
    (hch : ∀ b ∈ ch, (b ∈ X.ex ∨ X.s₀.heap.objs.size ≤ b) ∧ b ≠ X.env.locals ∧ (∀ x c, X.env.cells.lookup x = some c → c ≠ b) ∧ ∀ p ∈ X.pn ++ pins, p.1 ≠ b)
    (keep : ∀ b o, b ≠ X.env.locals → b ∉ X.fs → b ∉ ch → s.heap.get? b = some o → H b = none → h'.get? b = some o)
    (slot : ∀ b o, b ≠ X.env.locals → b ∈ X.fs → b ∉ ch → s.heap.get? b = some o → H b = none → ∃ sl, h'.get? b = some { o with slots := sl }) (free : ∀ b o, b ∉ ch → s.heap.get? b = some o → H b = none → H' b = none)
    (there : ∀ b o, b ∉ ch → s.heap.get? b = some o → ∃ o', h'.get? b = some o')
    (tups : ∀ b xs, H b = some (.tup xs) → H' b = some (.tup xs)) (frzs : ∀ b o u, H b = some (.frz o u) → H' b = some (.frz o u)) (tbls : ∀ b ps, H b = some (.tbl ps) → ∃ more, H' b = some (.tbl (ps ++ more)))
    (ns : ∀ m, s.heap.Ns X.env.locals m → h'.Ns X.env.locals m) (hok : HOk X.prog X.w H' h') (hg : AllBare g') :
    Inv X pins σ H' { s with heap := h', gens := g', drawn := d', toks := t' } := by
  have neL : ∀ b o, X.s₀.heap.get? b = some o → b ≠ X.env.locals := fun b o e => Nat.ne_of_lt (Nat.lt_of_lt_of_le (Heap.lt_size e) I.ok.above)
  have neC : ∀ b o, X.s₀.heap.get? b = some o → b ∉ X.ex → b ∉ ch := fun b o e hx hb => by
    rcases (hch b hb).1 with z | z
    · exact hx z
    · exact absurd (Nat.lt_of_lt_of_le (Heap.lt_size e) z) (Nat.lt_irrefl _)
  have cellK : ∀ x c, X.env.cells.lookup x = some c → ∀ v, s.heap.IsCell c v → h'.IsCell c v := fun x c e v ⟨o, ho, hd⟩ => by
    have nch : c ∉ ch := fun z => (hch c z).2.2.1 x c e rfl
    by_cases hc : c ∈ X.fs
    · obtain ⟨sl, q⟩ := slot c o (I.cne x c e) hc nch ho (I.freeC x c e)
      exact ⟨_, q, hd⟩
    · exact ⟨o, keep c o (I.cne x c e) hc nch ho (I.freeC x c e), hd⟩
  refine ⟨I.ok, I.os, hg, ⟨fun b o e n hb hx => ?_, fun b o e n hb hx => ?_, fun b o e n hx => ?_, fun b o e hx => ?_, fun b xs e => tups b xs (I.base.tups b xs e), fun b o xs e => frzs b o xs (I.base.frzs b o xs e), fun b ps e => ?_⟩, ?_, fun x c e => ?_, ?_, fun x c e => ?_, fun p hp => ?_, hok, I.len⟩
  · exact keep b o (neL b o e) hb (neC b o e hx) (I.base.keep b o e n hb hx) (I.base.free b o e n hx)
  · obtain ⟨sl, e1⟩ := I.base.slot b o e n hb hx
    obtain ⟨sl', e2⟩ := slot b _ (neL b o e) hb (neC b o e hx) e1 (I.base.free b o e n hx)
    exact ⟨sl', e2⟩
  · obtain ⟨o', e1⟩ := I.base.there b o e hx
    exact free b o' (neC b o e hx) e1 (I.base.free b o e n hx)
  · obtain ⟨o', e1⟩ := I.base.there b o e hx
    exact there b o' (neC b o e hx) e1
  · obtain ⟨m1, e1⟩ := I.base.tbls b ps e
    obtain ⟨m2, e2⟩ := tbls b _ e1
    exact ⟨m1 ++ m2, by rw [e2, Array.append_assoc]⟩
  · obtain ⟨m, hn, hl⟩ := I.loc
    refine ⟨m, ns m hn, fun i x v e1 e2 e3 => ?_⟩
    obtain ⟨u, r, l⟩ := hl i x v e1 e2 e3
    refine ⟨u, r, ?_⟩
    rcases l with l | ⟨k, c, e, z⟩
    · exact .inl l
    · exact .inr ⟨k, c, e, cellK x c e _ z⟩
  · obtain ⟨v, z⟩ := I.cell x c e
    exact ⟨v, cellK x c e v z⟩
  · obtain ⟨m, ⟨o, _, _, ho, _⟩, _⟩ := I.loc
    exact free _ o (fun z => (hch _ z).2.1 rfl) ho I.free
  · obtain ⟨v, o, ho, hd⟩ := I.cell x c e
    exact free c o (fun z => (hch c z).2.2.1 x c e rfl) ho (I.freeC x c e)
  · obtain ⟨e, n, ne, nf, d⟩ := I.pin p hp
    have nch : p.1 ∉ ch := fun z => (hch p.1 z).2.2.2 p hp rfl
    exact ⟨keep p.1 p.2 ne nf nch e n, free p.1 p.2 nch e n, ne, nf, d⟩
/-- .. where the frame's own object is kept too -/
theorem Inv.un {t' : Nat} (I : Inv X pins σ H s) (u : Un X.fs [] H H' s.heap h') (hok : HOk X.prog X.w H' h') : Inv X pins σ H' { s with heap := h', toks := t' } := by
  obtain ⟨m, ⟨o, es, ep, ho, r⟩, _⟩ := id I.loc
  obtain ⟨sl, hL⟩ := u.any ho I.free (by simp)
  exact I.step (g' := s.gens) (d' := s.drawn) (ch := []) (fun _ z => nomatch z) (fun b o _ hb _ e n => u.keep b o e n hb (by simp)) (fun b o _ hb _ e n => u.slot b o e n hb (by simp)) (fun b o _ e n => u.free b o e n (by simp)) (fun b o _ e => u.there b o e (by simp)) u.tups u.frzs u.tbls (fun m' hm => by
    obtain ⟨o', es', ep', ho', r'⟩ := hm
    rw [ho] at ho'; cases ho'
    exact ⟨_, es', ep', hL, r'⟩) hok I.bare
/-- behind a call (or a comprehension's block): the slots of this frame may have changed too, the records at ch may have turned -/
theorem Inv.call {g' : Array GenState} {t' : Nat} {d' : Drawn} {ch : List Addr} (I : Inv X pins σ H s) (u : Un (frs X.stack) ch H H' s.heap h') (hok : HOk X.prog X.w H' h') (hg : AllBare g')
    (hch : ∀ b ∈ ch, (b ∈ X.ex ∨ X.s₀.heap.objs.size ≤ b) ∧ b ≠ X.env.locals ∧ (∀ x c, X.env.cells.lookup x = some c → c ≠ b) ∧ ∀ p ∈ X.pn ++ pins, p.1 ≠ b) :
    Inv X pins σ H' { s with heap := h', gens := g', drawn := d', toks := t' } := by
  obtain ⟨m, ⟨o, es, ep, ho, r⟩, _⟩ := id I.loc
  obtain ⟨sl, hL⟩ := u.any ho I.free fun z => (hch _ z).2.1 rfl
  exact I.step (ch := ch) hch (fun b o hL hb hc e n => u.keep b o e n (fun z => (List.mem_cons.mp (I.stkSub b z)).elim hL hb) hc) (fun b o _ _ hc e n => u.any e n hc) (fun b o hc e n => u.free b o e n hc) (fun b o hc e => u.there b o e hc) u.tups u.frzs u.tbls (fun m' hm => by
    obtain ⟨o', es', ep', ho', r'⟩ := hm
    rw [ho] at ho'; cases ho'
    exact ⟨_, es', ep', hL, r'⟩) hok hg
/-- an untracked record of ours (an iterator) has turned -/
theorem Inv.turned {t' : Nat} {it : Addr} (I : Inv X pins σ H s) (k : ∀ b o, b ≠ it → s.heap.get? b = some o → h'.get? b = some o) (hn : H it = none) (hL : it ≠ X.env.locals)
    (h1 : it ∈ X.ex ∨ X.s₀.heap.objs.size ≤ it) (h2 : ∀ x c, X.env.cells.lookup x = some c → c ≠ it) (h3 : ∀ p ∈ X.pn ++ pins, p.1 ≠ it) : Inv X pins σ H { s with heap := h', toks := t' } := by
  have nit : ∀ b u, H b = some u → b ≠ it := fun b u e z => by rw [z, hn] at e; cases e
  refine I.step (g' := s.gens) (d' := s.drawn) (ch := [it]) (fun b hb => ?_) (fun b o _ _ hc e _ => k b o (fun z => hc (by simp [z])) e) (fun b o _ _ hc e _ => ⟨o.slots, k b o (fun z => hc (by simp [z])) e⟩) (fun _ _ _ _ n => n)
    (fun b o hc e => ⟨o, k b o (fun z => hc (by simp [z])) e⟩) (fun _ _ e => e) (fun _ _ _ e => e) (fun b ps e => ⟨#[], by rw [e]; simp⟩) (fun m hm => ?_) (fun b u e => ?_) I.bare
  · have e : b = it := by simpa using hb
    subst e
    exact ⟨h1, hL, h2, h3⟩
  · obtain ⟨o, es, ep, ho, r⟩ := hm
    exact ⟨o, es, ep, k _ o (Ne.symm hL) ho, r⟩
  · refine (I.hok b u e).stay (fun c v hc q => k c v ?_ q) (fun _ q => q) fun _ _ q => q
    rcases hc with z | z
    · rw [z]; exact nit b u e
    · exact nit c _ z
theorem Inv.tok (I : Inv X pins σ H s) (t : Nat) : Inv X pins σ H { s with toks := t } := I.un (h' := s.heap) (t' := t) Un.refl I.hok
/-- all objects kept -/
theorem Inv.kept {t' : Nat} (I : Inv X pins σ H s) (k : ∀ b u, s.heap.get? b = some u → h'.get? b = some u) : Inv X pins σ H { s with heap := h', toks := t' } := I.un (Un.kept k) (I.hok.kept k)
/-- a new object laid and tracked -/
theorem Inv.laid {a : Addr} {o : HO} {t' : Nat} (I : Inv X pins σ H s) (k : ∀ b u, s.heap.get? b = some u → h'.get? b = some u) (hp : s.heap.objs.size ≤ a) (new : ObjOk X.prog X.w (upd H a o) h' a o) :
    Inv X pins σ (upd H a o) { s with heap := h', toks := t' } := I.un (Un.laid k hp (I.hok.fresh hp)) (I.hok.laid k hp new)
/-- an object written -/
theorem Inv.write {x e : Addr} {o : HO} {t' : Nat} (I : Inv X pins σ H s) (mu : Mut (H x)) (he : e = x ∨ H e = some (.own x)) (k : ∀ b u, b ≠ e → s.heap.get? b = some u → h'.get? b = some u) (heo : ∃ u, h'.get? e = some u)
    (new : ObjOk X.prog X.w (upd H x o) h' x o) : Inv X pins σ (upd H x o) { s with heap := h', toks := t' } := I.un (Un.write mu he k heo) (I.hok.write mu he k heo new)
theorem Inv.pins_of {pins' : List (Addr × Obj)} (I : Inv X pins σ H s) (h : ∀ p ∈ pins', s.heap.get? p.1 = some p.2 ∧ H p.1 = none ∧ p.1 ≠ X.env.locals ∧ p.1 ∉ X.fs ∧ ∀ v, p.2.data ≠ .cell v) : Inv X pins' σ H s :=
  ⟨I.ok, I.os, I.bare, I.base, I.loc, I.cell, I.free, I.freeC, fun p hp => (List.mem_append.mp hp).elim (fun z => I.pin p (List.mem_append_left _ z)) (h p), I.hok, I.len⟩

theorem nodup_ix {N : List Str} (hN : N.Nodup) {i j : Nat} {x : Str} (a : N[i]? = some x) (b : N[j]? = some x) : i = j := by
  obtain ⟨h1, e1⟩ := List.getElem?_eq_some_iff.mp a
  obtain ⟨h2, e2⟩ := List.getElem?_eq_some_iff.mp b
  exact (List.getElem_inj hN).mp (e1.trans e2.symm)

/-- a name is stored; what changed -/
theorem store_ok2 {M : Model} {A : Around} {E : Value → Shared → Prop} {i : Nat} {x : Str} {v : V} {u : Value} {Q : Unit → Shared → Prop} (I : Inv X pins σ H s) (hN : X.N.Nodup) (hi : X.N[i]? = some x) (hx : Loc X.env.scope x) (r : RelV v u)
    (h : ∀ s', Inv X pins (σ.set i (some v)) H s' → (∃ a, Heap.SameBut a s.heap s'.heap ∧ (a = X.env.locals ∨ X.env.cells.lookup x = some a)) → Q () s') (hf : X.fn x = true ∨ X.env.scope.names.lookup x = some .local := by first | exact .inl rfl | exact .inr rfl | assumption) : wpAny M A (storeName X.env x u) Q E s := by
  obtain ⟨m, hn, hl⟩ := id I.loc
  have hcls : (X.env.scope.kind == .class || (X.env.scope.kind == .module && X.env.locals != X.env.globals)) = false := by rw [I.ok.kind]; rfl
  have hiσ : i < σ.length := by rw [I.len]; exact (List.getElem?_eq_some_iff.mp hi).1
  have cne := I.cne
  have tracked : ∀ {a : Addr} {h' : Heap}, (∃ o, s.heap.get? a = some o ∧ H a = none) → Heap.SameBut a s.heap h' → HOk X.prog X.w H h' := fun {a h'} ha hs b ob e => by
    obtain ⟨_, _, hfree⟩ := ha
    refine (I.hok b ob e).stay (fun c w' hc q => (hs.2 c ?_).trans q) (fun _ q => q) fun _ _ q => q
    rintro rfl
    rcases hc with rfl | hc
    · rw [hfree] at e; cases e
    · rw [hfree] at hc; cases hc
  rcases hx with hk | hk
  · refine wpAny_storeName_local hk hn (fun h' hn' hs => ?_) hcls
    obtain ⟨oL, _, _, hoL, _⟩ := id hn
    refine h _ ⟨I.ok, I.os, I.bare, ⟨fun b o e n hb hx => ?_, fun b o e n hb hx => ?_, I.base.free, fun b o e hx => ?_, I.base.tups, I.base.frzs, I.base.tbls⟩, ⟨_, hn', fun j y v' e1 e2 e3 => ?_⟩, fun y c e => ?_, I.free, I.freeC, fun p hp => ?_, tracked ⟨oL, hoL, I.free⟩ hs, by simpa using I.len⟩ ⟨_, hs, .inl rfl⟩
    · exact (hs.2 b (Nat.ne_of_lt (Nat.lt_of_lt_of_le (Heap.lt_size e) I.ok.above))).trans (I.base.keep b o e n hb hx)
    · obtain ⟨sl, e1⟩ := I.base.slot b o e n hb hx
      exact ⟨sl, (hs.2 b (Nat.ne_of_lt (Nat.lt_of_lt_of_le (Heap.lt_size e) I.ok.above))).trans e1⟩
    · obtain ⟨o', e1⟩ := I.base.there b o e hx
      exact ⟨o', (hs.2 b (Nat.ne_of_lt (Nat.lt_of_lt_of_le (Heap.lt_size e) I.ok.above))).trans e1⟩
    · by_cases hj : j = i
      · subst hj
        rw [hi] at e1; cases e1
        rw [List.getElem?_set_self hiσ] at e2
        cases e2
        exact ⟨u, r, .inl ⟨hk, by simp⟩⟩
      · rw [List.getElem?_set_ne (Ne.symm hj)] at e2
        obtain ⟨u', r', q⟩ := hl j y v' e1 e2 e3
        refine ⟨u', r', ?_⟩
        rcases q with ⟨k, e⟩ | ⟨k, c, e, z⟩
        · refine .inl ⟨k, ?_⟩
          have : y ≠ x := fun e => hj (nodup_ix hN e1 (e ▸ hi))
          simp [this, e]
        · exact .inr ⟨k, c, e, z.sameBut hs (cne y c e)⟩
    · obtain ⟨w', z⟩ := I.cell y c e
      exact ⟨w', z.sameBut hs (cne y c e)⟩
    · obtain ⟨e, n, ne, nf, d⟩ := I.pin p hp
      exact ⟨(hs.2 p.1 ne).trans e, n, ne, nf, d⟩
  · have hfn : X.fn x = true := by
      rcases hf with z | z
      · exact z
      · rw [z] at hk; cases hk
    obtain ⟨c, hc⟩ := I.ok.has x (.inl hk)
    obtain ⟨w', z⟩ := I.cell x c hc
    refine wpAny_storeName_cell I.ok.kind hk hc z (fun h' hc' hs => ?_)
    obtain ⟨oc, hoc, hocd⟩ := id z
    refine h { s with heap := h' } ⟨I.ok, I.os, I.bare, ⟨fun b o e n hb hx => ?_, fun b o e n hb hx => ?_, I.base.free, fun b o e hx => ?_, I.base.tups, I.base.frzs, I.base.tbls⟩, ⟨m, hn.sameBut hs (Ne.symm (cne x c hc)), fun j y v' e1 e2 e3 => ?_⟩, fun y c' e => ?_, I.free, I.freeC, fun p hp => ?_, tracked ⟨oc, hoc, I.freeC x c hc⟩ hs, by simpa using I.len⟩ ⟨c, hs, .inr hc⟩
    · exact (hs.2 b (Nat.ne_of_lt (Nat.lt_of_lt_of_le (Heap.lt_size e) (I.ok.cab x c hfn hc)))).trans (I.base.keep b o e n hb hx)
    · obtain ⟨sl, e1⟩ := I.base.slot b o e n hb hx
      exact ⟨sl, (hs.2 b (Nat.ne_of_lt (Nat.lt_of_lt_of_le (Heap.lt_size e) (I.ok.cab x c hfn hc)))).trans e1⟩
    · obtain ⟨o', e1⟩ := I.base.there b o e hx
      exact ⟨o', (hs.2 b (Nat.ne_of_lt (Nat.lt_of_lt_of_le (Heap.lt_size e) (I.ok.cab x c hfn hc)))).trans e1⟩
    · by_cases hj : j = i
      · subst hj
        rw [hi] at e1; cases e1
        rw [List.getElem?_set_self hiσ] at e2
        cases e2
        exact ⟨u, r, .inr ⟨.inl hk, c, hc, hc'⟩⟩
      · rw [List.getElem?_set_ne (Ne.symm hj)] at e2
        obtain ⟨u', r', q⟩ := hl j y v' e1 e2 e3
        refine ⟨u', r', ?_⟩
        rcases q with q | ⟨k, c', e, z'⟩
        · exact .inl q
        · refine .inr ⟨k, c', e, z'.sameBut hs ?_⟩
          rintro rfl
          exact hj (nodup_ix hN e1 (I.ok.inj _ _ _ e hc ▸ hi))
    · by_cases hcc : c' = c
      · subst hcc; exact ⟨_, hc'⟩
      · obtain ⟨w2, z2⟩ := I.cell y c' e
        exact ⟨w2, z2.sameBut hs hcc⟩
    · obtain ⟨e, n, ne, nf, d⟩ := I.pin p hp
      refine ⟨(hs.2 p.1 ?_).trans e, n, ne, nf, d⟩
      intro q
      rw [q, hoc] at e
      have q' : oc = p.2 := Option.some.inj e
      exact d w' (by rw [← q']; exact hocd)
theorem store_ok {M : Model} {A : Around} {E : Value → Shared → Prop} {i : Nat} {x : Str} {v : V} {u : Value} {Q : Unit → Shared → Prop} (I : Inv X pins σ H s) (hN : X.N.Nodup) (hi : X.N[i]? = some x) (hx : Loc X.env.scope x) (r : RelV v u)
    (h : ∀ s', Inv X pins (σ.set i (some v)) H s' → Q () s') (hf : X.fn x = true ∨ X.env.scope.names.lookup x = some .local := by first | exact .inl rfl | exact .inr rfl | assumption) : wpAny M A (storeName X.env x u) Q E s :=
  store_ok2 I hN hi hx r (fun s' I' _ => h s' I') hf
/-- behind a call or a block, the state as it is -/
theorem Inv.call' {s' : Shared} {ch : List Addr} (I : Inv X pins σ H s) (ho : s'.os = s.os) (u : Un (frs X.stack) ch H H' s.heap s'.heap) (hok : HOk X.prog X.w H' s'.heap) (hg : AllBare s'.gens)
    (hch : ∀ b ∈ ch, (b ∈ X.ex ∨ X.s₀.heap.objs.size ≤ b) ∧ b ≠ X.env.locals ∧ (∀ x c, X.env.cells.lookup x = some c → c ≠ b) ∧ ∀ p ∈ X.pn ++ pins, p.1 ≠ b) : Inv X pins σ H' s' := by
  obtain ⟨h', g', d', t', o'⟩ := s'
  have e : o' = s.os := ho
  subst e
  exact I.call (g' := g') (t' := t') (d' := d') u hok hg hch
end

/-! ### the judgements -/
/-- an exception: its class, its own dict's address (where it has one), the abstract heap behind it -/
abbrev XK := Value → Option Addr → Hp → Prop
abbrev St := List (Option V)
abbrev VK := V → Hp → Prop
/-- an expression's reading; a test's; an argument list's -/
abbrev TE := St → Hp → VK → Prop
abbrev TT := St → Hp → (Bool → Hp → Prop) → Prop
abbrev TA := St → Hp → (List V → Hp → Prop) → Prop
/-- what is wanted behind a statement -/
structure Ends where
  nx : St → Hp → Prop
  rt : VK
  bk : St → Hp → Prop := fun _ _ => False
  ct : St → Hp → Prop := fun _ _ => False
abbrev TS := Ends → St → Hp → Prop

def EP (X : Cx) (pins : List (Addr × Obj)) (σ : St) (Q : VK) (u : Value) (s' : Shared) : Prop := ∃ v H', Inv X pins σ H' s' ∧ RelV v u ∧ Q v H'
def TP (X : Cx) (pins : List (Addr × Obj)) (σ : St) (Q : Bool → Hp → Prop) (b : Bool) (s' : Shared) : Prop := ∃ H', Inv X pins σ H' s' ∧ Q b H'
def AP (X : Cx) (pins : List (Addr × Obj)) (σ : St) (Q : List V → Hp → Prop) (us : List Value) (s' : Shared) : Prop := ∃ vs H', Inv X pins σ H' s' ∧ Vals vs us ∧ Q vs H'
def SP (X : Cx) (pins : List (Addr × Obj)) (D : Ends) (f : Flow) (s' : Shared) : Prop :=
  match f with
  | .next => ∃ σ' H', Inv X pins σ' H' s' ∧ D.nx σ' H'
  | .brk => ∃ σ' H', Inv X pins σ' H' s' ∧ D.bk σ' H'
  | .cont => ∃ σ' H', Inv X pins σ' H' s' ∧ D.ct σ' H'
  | .ret u => ∃ v σ' H', Inv X pins σ' H' s' ∧ RelV v u ∧ D.rt v H'

def PE (X : Cx) (e : Expr) (t : TE) : Prop :=
  ∀ (pins : List (Addr × Obj)) (s : Shared) (σ : St) (H : Hp) (Q : VK), Inv X pins σ H s → t σ H Q → wpAny (model X.prog X.w) X.A (eval e X.env) (EP X pins σ Q) X.xe s
def PT (X : Cx) (e : Expr) (t : TT) : Prop :=
  ∀ (pins : List (Addr × Obj)) (s : Shared) (σ : St) (H : Hp) (Q : Bool → Hp → Prop), Inv X pins σ H s → t σ H Q → wpAny (model X.prog X.w) X.A (isTrue e X.env (eval e X.env)) (TP X pins σ Q) X.xe s
/-- a test whatever its 'whole' is (and, or) -/
def PW (X : Cx) (e : Expr) (t : TT) : Prop :=
  ∀ (whole : Sem Value) (pins : List (Addr × Obj)) (s : Shared) (σ : St) (H : Hp) (Q : Bool → Hp → Prop), Inv X pins σ H s → t σ H Q → wpAny (model X.prog X.w) X.A (isTrue e X.env whole) (TP X pins σ Q) X.xe s
theorem PW.pt {X : Cx} {e : Expr} {t : TT} (h : PW X e t) : PT X e t := h _
/-- an argument list (no star), from the left -/
def PA (X : Cx) (es : List Expr) (t : TA) : Prop :=
  ∀ (pos : Pos) (pins : List (Addr × Obj)) (s : Shared) (σ : St) (H : Hp) (Q : List V → Hp → Prop), Inv X pins σ H s → t σ H Q → wpAny (model X.prog X.w) X.A (spliced (backTo pos (starEach es X.env))) (AP X pins σ Q) X.xe s
def PS (X : Cx) (st : Stmt) (t : TS) : Prop :=
  ∀ (pins : List (Addr × Obj)) (s : Shared) (σ : St) (H : Hp) (D : Ends), Inv X pins σ H s → t D σ H → wpAny (model X.prog X.w) X.A (exec st X.env) (SP X pins D) X.xe s
def PSs (X : Cx) (st : List Stmt) (t : TS) : Prop :=
  ∀ (pins : List (Addr × Obj)) (s : Shared) (σ : St) (H : Hp) (D : Ends), Inv X pins σ H s → t D σ H → wpAny (model X.prog X.w) X.A (execs st X.env) (SP X pins D) X.xe s
/-- weaken the end -/
theorem thn {α : Type} {t : Sem α} {Q Q' : α → Shared → Prop} {M : Model} {A : Around} {E : Value → Shared → Prop} {s : Shared} (h : wpAny M A t Q E s) (hQ : ∀ a s, Q a s → Q' a s) : wpAny M A t Q' E s := wpAny_mono h hQ fun _ _ x => x
end L2

namespace L2
open PySem PySem.Spec PyProof.Rows
section
variable {X : Cx}

/-- two expressions in a row -/
theorem bin {a b : Expr} {ta tb : TE} (ha : PE X a ta) (hb : PE X b tb) {pins : List (Addr × Obj)} {s : Shared} {σ : St} {H : Hp} {R : V → V → Hp → Prop} (I : Inv X pins σ H s) (h : ta σ H fun x H1 => tb σ H1 fun y H2 => R x y H2)
    {α : Type} {Q : α → Shared → Prop} {f : Value → Value → Sem α}
    (hf : ∀ v u s2 x y H2, Inv X pins σ H2 s2 → RelV x v → RelV y u → R x y H2 → wpAny (model X.prog X.w) X.A (f v u) Q X.xe s2) :
    wpAny (model X.prog X.w) X.A (eval a X.env) (fun v s₁ => wpAny (model X.prog X.w) X.A (eval b X.env) (fun u s₂ => wpAny (model X.prog X.w) X.A (f v u) Q X.xe s₂) X.xe s₁) X.xe s := by
  refine thn (ha pins s σ H _ I h) fun v s1 ⟨x, H1, I1, r1, q1⟩ => ?_
  refine thn (hb pins s1 σ H1 _ I1 q1) fun u s2 ⟨y, H2, I2, r2, q2⟩ => ?_
  exact hf v u s2 x y H2 I2 r1 r2 q2

/-! ### names and constants -/
def tVar (i : Nat) : TE := fun σ H Q => ∃ v, σ[i]? = some (some v) ∧ Q v H
def tC (v : V) : TE := fun _ H Q => Q v H
theorem pe_var {i : Nat} {x : Str} {pos : Pos} (hN : X.N[i]? = some x) (hv : Vis X.env.scope x) (hd : (x == ("__debug__" : Str)) = false := by decide) (hcd : (x == ("__classdict__" : Str)) = false := by decide) : PE X (.Name x pos) (tVar i) := by
  intro pins s σ H Q I h
  obtain ⟨v, e, h⟩ := h
  obtain ⟨m, hn, hl⟩ := I.loc
  obtain ⟨u, r, l⟩ := hl i x v hN e hv
  have fin : EP X pins σ Q u s := ⟨v, H, I, r, h⟩
  rcases l with ⟨hk, hm⟩ | ⟨hk, c, hc, hcell⟩
  · exact wpAny_Name (wpAny_loadName_local I.ok.kind hk hn hm fin) hd
  · rcases hk with hk | hk
    · exact wpAny_Name (wpAny_loadName_cell I.ok.kind hk hc hcell fin) hd
    · exact wpAny_Name (wpAny_loadName_free I.ok.kind hk hc hcell fin hcd) hd
theorem pe_int {i j pos} : PE X (.Constant (.int i) j pos) (tC (.int i)) := fun _ _ _ H _ I h => wpAny_Constant_int ⟨.int i, H, I.tok _, ⟨_, rfl⟩, h⟩
theorem pe_bl {b j pos} : PE X (.Constant (.bool b) j pos) (tC (.bl b)) := fun _ _ _ H _ I h => Constant_bool ⟨.bl b, H, I, rfl, h⟩
theorem pe_str {x j pos} : PE X (.Constant (.str x) j pos) (tC (.str x)) := fun _ _ _ H _ I h => Calls.Constant_str ⟨.str x, H, I.tok _, ⟨_, rfl⟩, h⟩

/-- a global name of the def -/
def Gl (X : Cx) (x : Str) : Prop := X.env.kindOf x = some .globalImplicit
theorem ld_glob {E : Value → Shared → Prop} {pins : List (Addr × Obj)} {s : Shared} {σ : St} {H : Hp} {x : Str} {u : Value} {pos : Pos} {Q : Value → Shared → Prop} (I : Inv X pins σ H s) (hg : Gl X x) (hm : X.mg x = some u) (h : Q u s)
    (hd : (x == ("__debug__" : Str)) = false := by decide) : wpAny (model X.prog X.w) X.A (eval (.Name x pos) X.env) Q E s :=
  Calls.Name_function_global I.ok.kind hg (Calls.loadGlobal_global (by rw [I.ok.glob]; exact I.mod.glob.keeps I.bk) hm h) hd
theorem ld_blt {E : Value → Shared → Prop} {pins : List (Addr × Obj)} {s : Shared} {σ : St} {H : Hp} {x : Str} {u : Value} {pos : Pos} {Q : Value → Shared → Prop} (I : Inv X pins σ H s) (hg : Gl X x) (hm : X.mg x = none) (hv : bootBuiltins x = some u) (h : Q u s)
    (hn : x ≠ "__name__" := by decide) (hd : (x == ("__debug__" : Str)) = false := by decide) : wpAny (model X.prog X.w) X.A (eval (.Name x pos) X.env) Q E s := by
  obtain ⟨mb, h1, h2⟩ := I.mod.blt
  exact Calls.Name_function_global I.ok.kind hg (Calls.loadGlobal_builtin (by rw [I.ok.glob]; exact I.mod.glob.keeps I.bk) hm (by rw [I.ok.blt]; exact h1.keeps I.bk) ((h2 x hn).trans hv) h) hd
/-- a module's constant, a class, a function, as a value -/
theorem pe_glob {x : Str} {v : V} {u : Value} {pos : Pos} (hg : Gl X x) (hm : X.mg x = some u) (r : RelV v u) (hd : (x == ("__debug__" : Str)) = false := by decide) : PE X (.Name x pos) (tC v) :=
  fun _ _ _ H _ I h => ld_glob I hg hm ⟨v, H, I, r, h⟩ hd
theorem pe_bltn {x : Str} {v : V} {u : Value} {pos : Pos} (hg : Gl X x) (hm : X.mg x = none) (hv : bootBuiltins x = some u) (r : RelV v u) (hn : x ≠ "__name__" := by decide) (hd : (x == ("__debug__" : Str)) = false := by decide) : PE X (.Name x pos) (tC v) :=
  fun _ _ _ H _ I h => ld_blt I hg hm hv ⟨v, H, I, r, h⟩ hn hd

/-! ### arithmetic -/
variable {a b : Expr} {ta tb : TE} {pos : Pos}

/-! ### comparisons -/
def PC (X : Cx) (op : CmpOp) (a b : Expr) (t : TE) : Prop :=
  ∀ (pins : List (Addr × Obj)) (s : Shared) (σ : St) (H : Hp) (Q : VK), Inv X pins σ H s → t σ H Q →
    wpAny (model X.prog X.w) X.A (eval a X.env) (fun v s₁ => wpAny (model X.prog X.w) X.A (eval b X.env) (fun u s₂ => wpAny (model X.prog X.w) X.A (compareOp op v u) (EP X pins σ Q) X.xe s₂) X.xe s₁) X.xe s
/-- a comparison as a value, as a test -/
def tB (t : TE) : TT := fun σ H Q => t σ H fun x H1 => ∃ c, x = .bl c ∧ Q c H1
theorem pt_cmp {op : CmpOp} {t : TE} (h : PC X op a b t) (h1 : behindInMarks op b = false := by first | exact nobehind _ (by decide) (by decide) | rfl) : PT X (.Compare a [op] [b] pos) (tB t) := by
  intro pins s σ H Q I hw
  refine wpAny_isTrue_Compare1 (thn (h pins s σ H _ I hw) fun v s1 h1 => thn h1 fun u s2 h2 => thn h2 fun c s3 ⟨x, H1, I1, r1, q1⟩ => ?_) h1
  obtain ⟨d, rfl, q⟩ := q1
  cases r1
  exact wpAny_truthy_bool ⟨H1, I1, q⟩
/-- an expression whose value is a bool, as a test -/
theorem pt_val {e : Expr} {t : TE} (h : PE X e t) (he : ∀ whole, isTrue e X.env whole = (do let v ← whole; standAt e.pos; holding [v] (truthy v)) := by intro _; rfl) : PT X e (tB t) := by
  intro pins s σ H Q I hw
  refine isTrue_plain (thn (h pins s σ H _ I hw) fun v s1 ⟨x, H1, I1, r1, q1⟩ => ?_) (he _)
  obtain ⟨d, rfl, q⟩ := q1
  cases r1
  exact wpAny_truthy_bool ⟨H1, I1, q⟩

/-! ### and, or, not -/
variable {tA tB' : TT} {rest : List Expr}
def tAnd (t u : TT) : TT := fun σ H Q => t σ H fun c H1 => if c = true then u σ H1 Q else Q false H1
def tOr (t u : TT) : TT := fun σ H Q => t σ H fun c H1 => if c = true then Q true H1 else u σ H1 Q
def tNot (t : TT) : TT := fun σ H Q => t σ H fun c H1 => Q (!c) H1
theorem pw_and1 (ha : PT X a tA) : PW X (.BoolOp .And [a] pos) tA := by
  intro wh pins s σ H Q I h
  refine isTrue_and (thn (ha pins s σ H Q I h) fun c s1 e => ?_)
  cases c with
  | true => exact isTrue_and_nil e
  | false => exact e
theorem pw_or1 (ha : PT X a tA) : PW X (.BoolOp .Or [a] pos) tA := by
  intro wh pins s σ H Q I h
  refine isTrue_or (thn (ha pins s σ H Q I h) fun c s1 e => ?_)
  cases c with
  | false => exact isTrue_or_nil e
  | true => exact e
theorem pw_and (ha : PT X a tA) (hb : PW X (.BoolOp .And (b :: rest) pos) tB') : PW X (.BoolOp .And (a :: b :: rest) pos) (tAnd tA tB') := by
  intro wh pins s σ H Q I h
  refine isTrue_and (thn (ha pins s σ H _ I h) fun c s1 ⟨H1, I1, q1⟩ => ?_)
  cases c with
  | true => exact hb wh pins s1 σ H1 Q I1 q1
  | false => exact ⟨H1, I1, q1⟩
theorem pw_or (ha : PT X a tA) (hb : PW X (.BoolOp .Or (b :: rest) pos) tB') : PW X (.BoolOp .Or (a :: b :: rest) pos) (tOr tA tB') := by
  intro wh pins s σ H Q I h
  refine isTrue_or (thn (ha pins s σ H _ I h) fun c s1 ⟨H1, I1, q1⟩ => ?_)
  cases c with
  | true => exact ⟨H1, I1, q1⟩
  | false => exact hb wh pins s1 σ H1 Q I1 q1
theorem pt_not (ha : PT X a tA) : PT X (.UnaryOp .Not a pos) (tNot tA) := by
  intro pins s σ H Q I h
  exact isTrue_not (ha pins s σ H (fun c H1 => Q (!c) H1) I h)
/-- .. as values (bools) -/
def tAndV (ta tb : TE) : TE := fun σ H Q => ta σ H fun x H1 => ∃ c, x = .bl c ∧ if c = true then tb σ H1 Q else Q (.bl false) H1
def tOrV (ta tb : TE) : TE := fun σ H Q => ta σ H fun x H1 => ∃ c, x = .bl c ∧ if c = true then Q (.bl true) H1 else tb σ H1 Q
def tNotV (ta : TE) : TE := fun σ H Q => ta σ H fun x H1 => ∃ c, x = .bl c ∧ Q (.bl (!c)) H1
theorem pe_one {op} {t : TE} (h : PE X a t) : PE X (.BoolOp op [a] pos) t := fun pins s σ H Q I hw => BoolOp_one (h pins s σ H Q I hw)
theorem pe_and (ha : PE X a ta) (hb : PE X (.BoolOp .And (b :: rest) pos) tb) : PE X (.BoolOp .And (a :: b :: rest) pos) (tAndV ta tb) := by
  intro pins s σ H Q I h
  refine BoolOp_and (thn (ha pins s σ H _ I h) fun v s1 ⟨x, H1, I1, r1, q1⟩ => ?_)
  obtain ⟨c, rfl, q1⟩ := q1
  cases r1
  refine wpAny_truthy_bool ?_
  cases c with
  | true => exact hb pins s1 σ H1 Q I1 q1
  | false => exact ⟨.bl false, H1, I1, rfl, q1⟩
theorem pe_or (ha : PE X a ta) (hb : PE X (.BoolOp .Or (b :: rest) pos) tb) : PE X (.BoolOp .Or (a :: b :: rest) pos) (tOrV ta tb) := by
  intro pins s σ H Q I h
  refine BoolOp_or (thn (ha pins s σ H _ I h) fun v s1 ⟨x, H1, I1, r1, q1⟩ => ?_)
  obtain ⟨c, rfl, q1⟩ := q1
  cases r1
  refine wpAny_truthy_bool ?_
  cases c with
  | false => exact hb pins s1 σ H1 Q I1 q1
  | true => exact ⟨.bl true, H1, I1, rfl, q1⟩
theorem pe_not (ha : PE X a ta) : PE X (.UnaryOp .Not a pos) (tNotV ta) := by
  intro pins s σ H Q I h
  refine UnaryOp_ (thn (ha pins s σ H _ I h) fun v s1 ⟨x, H1, I1, r1, q1⟩ => ?_)
  obtain ⟨c, rfl, q1⟩ := q1
  cases r1
  exact not_of (wpAny_truthy_bool ⟨.bl (!c), H1, I1, rfl, q1⟩)
/-- a if t else b -/
def tIf (t : TT) (ta tb : TE) : TE := fun σ H Q => t σ H fun c H1 => if c = true then ta σ H1 Q else tb σ H1 Q
theorem pe_ifExp {c : Expr} (hc : PT X c tA) (ha : PE X a ta) (hb : PE X b tb) : PE X (.IfExp c a b pos) (tIf tA ta tb) := by
  intro pins s σ H Q I h
  refine wpAny_IfExp (thn (hc pins s σ H _ I h) fun d s1 ⟨H1, I1, q1⟩ => ?_)
  cases d with
  | true => exact ha pins s1 σ H1 Q I1 q1
  | false => exact hb pins s1 σ H1 Q I1 q1
end
end L2

namespace L2
open PySem PySem.Spec PyProof.Rows

/-! ### a list, a tuple that is read: tracked, frozen, or an object of the module -/
def SqL (K : PySem.W.Frag) (H : Hp) (a : Addr) (xs : List V) : Prop :=
  Rd H a (.lst xs) ∨
    ∃ (o : Obj) (its : Array Value) (n : Nat), K.lookup a = some o ∧ o.cls = .type "list" ∧ o.dict = none ∧ o.data = .seq its n ∧ its.size ≤ sizeLine ∧ Vals xs its.toList
def SqT (K : PySem.W.Frag) (H : Hp) (a : Addr) (xs : List V) : Prop :=
  Rd H a (.tup xs) ∨
    ∃ (o : Obj) (its : Array Value) (n : Nat), K.lookup a = some o ∧ o.cls = .type "tuple" ∧ o.data = .seq its n ∧ its.size ≤ sizeLine ∧ Vals xs its.toList
def absV : Value → Option V
  | .none => some .non
  | .bool b => some (.bl b)
  | .int i _ => some (.int i)
  | .str x _ => some (.str x)
  | .bytes b _ => some (.byt b)
  | .float b _ => some (.flt b)
  | .ref a => some (.ref a)
  | .type n => some (.ty n)
  | _ => none
theorem RelV.abs {x : V} {u : Value} (r : RelV x u) : absV u = some x := by
  cases x with
  | non => cases r; rfl
  | bl _ => cases r; rfl
  | int _ => obtain ⟨t, rfl⟩ := r; rfl
  | str _ => obtain ⟨t, rfl⟩ := r; rfl
  | byt _ => obtain ⟨t, rfl⟩ := r; rfl
  | flt _ => obtain ⟨t, rfl⟩ := r; rfl
  | ref _ => cases r; rfl
  | ty _ => cases r; rfl
theorem RelV.inj {x y : V} {u : Value} (r : RelV x u) (q : RelV y u) : x = y := Option.some.inj (r.abs.symm.trans q.abs)
theorem Vals.inj : ∀ {xs ys : List V} {us : List Value}, Vals xs us → Vals ys us → xs = ys
  | _, _, _, .nil, .nil => rfl
  | _, _, _, .cons r t, .cons r' t' => by rw [r.inj r', Vals.inj t t']
section
variable {X : Cx} {pins : List (Addr × Obj)} {σ : St} {H : Hp} {s : Shared} {a : Addr} {xs ys : List V}
theorem SqL.of {K : PySem.W.Frag} (h : H a = some (.lst xs)) : SqL K H a xs := .inl (.inl h)
theorem SqT.of {K : PySem.W.Frag} (h : H a = some (.tup xs)) : SqT K H a xs := .inl (.inl h)
theorem Inv.list (I : Inv X pins σ H s) (h : SqL X.K H a xs) : ∃ its : List Value, Vals xs its ∧ PlainL s.heap a its.toArray ∧ xs.length ≤ sizeLine := by
  rcases h with h | ⟨o, its, n, hk, hc, hd, hs, hz, r⟩
  · obtain ⟨z, its, n, r, e⟩ := h.ok I.hok
    exact ⟨its, r, ⟨_, n, e, rfl, rfl, rfl⟩, z⟩
  · refine ⟨its.toList, r, ⟨o, n, I.kIn a o hk, hc, hd, by simpa using hs⟩, ?_⟩
    have e := r.length
    simp only [Array.length_toList] at e
    omega
theorem Inv.tuple (I : Inv X pins σ H s) (h : SqT X.K H a xs) : ∃ its : List Value, Vals xs its ∧ IsTup s.heap a its.toArray ∧ xs.length ≤ sizeLine := by
  rcases h with h | ⟨o, its, n, hk, hc, hs, hz, r⟩
  · obtain ⟨z, its, r, p⟩ := h.ok I.hok
    exact ⟨its, r, p, z⟩
  · refine ⟨its.toList, r, ⟨o, I.kIn a o hk, hc, n, by simpa using hs⟩, ?_⟩
    have e := r.length
    simp only [Array.length_toList] at e
    omega
theorem Inv.list_inj (I : Inv X pins σ H s) (h : SqL X.K H a xs) (h' : SqL X.K H a ys) : xs = ys := by
  obtain ⟨its, r, ⟨o, n, e, _, _, d⟩, _⟩ := I.list h
  obtain ⟨its', r', ⟨o', n', e', _, _, d'⟩, _⟩ := I.list h'
  rw [e] at e'; cases e'
  rw [d] at d'
  injection d' with d1 _
  have : its = its' := by simpa using congrArg Array.toList d1
  subst this
  exact r.inj r'
theorem Inv.tuple_inj (I : Inv X pins σ H s) (h : SqT X.K H a xs) (h' : SqT X.K H a ys) : xs = ys := by
  obtain ⟨its, r, ⟨o, e, _, n, d⟩, _⟩ := I.tuple h
  obtain ⟨its', r', ⟨o', e', _, n', d'⟩, _⟩ := I.tuple h'
  rw [e] at e'; cases e'
  rw [d] at d'
  injection d' with d1 _
  have : its = its' := by simpa using congrArg Array.toList d1
  subst this
  exact r.inj r'
end

/-! ### another wish about exceptions -/
abbrev Cx.wish (X : Cx) (E : Value → Shared → Prop) : Cx := { X with xe := E }
/-- no exception leaves -/
abbrev Cx.nox (X : Cx) : Cx := X.wish fun _ _ => False
theorem Cx.Ok.wish {X : Cx} (ok : X.Ok) (E : Value → Shared → Prop) : (X.wish E).Ok :=
  ⟨ok.mod, ok.kind, ok.glob, ok.blt, ok.above, ok.inj, ok.has, ok.cab, ok.hd, ok.frames, ok.stk, ok.exf, ok.bs, ok.bsz, ok.noex, ok.exfs, ok.funs, ok.frf⟩
theorem Cx.Ok.unwish {X : Cx} {E : Value → Shared → Prop} (ok : (X.wish E).Ok) : X.Ok :=
  ⟨ok.mod, ok.kind, ok.glob, ok.blt, ok.above, ok.inj, ok.has, ok.cab, ok.hd, ok.frames, ok.stk, ok.exf, ok.bs, ok.bsz, ok.noex, ok.exfs, ok.funs, ok.frf⟩
section
variable {X : Cx} {pins : List (Addr × Obj)} {σ : St} {H : Hp} {s : Shared} {E : Value → Shared → Prop}
theorem Inv.wish (I : Inv X pins σ H s) (E : Value → Shared → Prop) : Inv (X.wish E) pins σ H s := ⟨I.ok.wish E, I.os, I.bare, I.base, I.loc, I.cell, I.free, I.freeC, I.pin, I.hok, I.len⟩
theorem Inv.unwish (I : Inv (X.wish E) pins σ H s) : Inv X pins σ H s := ⟨I.ok.unwish, I.os, I.bare, I.base, I.loc, I.cell, I.free, I.freeC, I.pin, I.hok, I.len⟩
theorem SP.unwish {D : Ends} {f : Flow} {s' : Shared} (h : SP (X.wish E) pins D f s') : SP X pins D f s' := by
  cases f with
  | next => obtain ⟨σ', H', I, q⟩ := h; exact ⟨σ', H', I.unwish, q⟩
  | brk => obtain ⟨σ', H', I, q⟩ := h; exact ⟨σ', H', I.unwish, q⟩
  | cont => obtain ⟨σ', H', I, q⟩ := h; exact ⟨σ', H', I.unwish, q⟩
  | ret u => obtain ⟨v, σ', H', I, r, q⟩ := h; exact ⟨v, σ', H', I.unwish, r, q⟩
theorem PSs.nox {st : List Stmt} {t : TS} (h : PSs X.nox st t) : PSs X st t := fun pins s σ H D I hw =>
  wpAny_mono (h pins s σ H D (I.wish _) hw) (fun _ _ q => q.unwish) fun _ _ z => False.elim z
end

/-! ### blocks and small statements -/
section
variable {X : Cx} {st : Stmt} {rest : List Stmt} {t u : TS} {e : Expr} {te : TE} {pos : Pos}
def tNext : TS := fun D σ H => D.nx σ H
def tSeq (t u : TS) : TS := fun D σ H => t { D with nx := u D } σ H
theorem pss_nil : PSs X [] tNext := fun _ _ σ H _ I h => wpAny_execs_nil ⟨σ, H, I, h⟩
theorem pss_cons (h1 : PS X st t) (h2 : PSs X rest u) : PSs X (st :: rest) (tSeq t u) := by
  intro pins s σ H D I h
  refine wpAny_execs_cons (thn (h1 pins s σ H { D with nx := u D } I h) fun f s1 q => ?_)
  cases f with
  | next =>
    obtain ⟨σ', H', I', q⟩ := q
    exact h2 pins s1 σ' H' D I' q
  | ret v => exact q
  | brk => exact q
  | cont => exact q
theorem pss_one (h1 : PS X st t) : PSs X [st] t := by
  intro pins s σ H D I h
  refine wpAny_execs_cons (thn (h1 pins s σ H D I h) fun f s1 q => ?_)
  cases f with
  | next => exact wpAny_execs_nil q
  | ret v => exact q
  | brk => exact q
  | cont => exact q
/-- in a def's body nothing is shown -/
theorem Inv.quiet {pins : List (Addr × Obj)} {σ : St} {H : Hp} {s : Shared} (I : Inv X pins σ H s) : interactive X.env = false := by simp [interactive, I.ok.kind]
/-- an expression whose value is dropped -/
def tDrop (te : TE) : TS := fun D σ H => te σ H fun _ H1 => D.nx σ H1
theorem ps_expr (he : PE X e te) (hs : swapsWith e none pos.line X.env = pure false := by rfl) : PS X (.Expr e pos) (tDrop te) := by
  intro pins s σ H D I h
  exact wpAny_Expr_any (thn (he pins s σ H _ I h) fun v s1 ⟨x, H1, I1, r1, q1⟩ => ⟨σ, H1, I1, q1⟩) I.quiet hs
def tRet (te : TE) : TS := fun D σ H => te σ H D.rt
theorem ps_ret (he : PE X e te) : PS X (.Return (some e) pos) (tRet te) := by
  intro pins s σ H D I h
  exact wpAny_Return_some (thn (he pins s σ H _ I h) fun v s1 ⟨x, H1, I1, r1, q1⟩ => ⟨x, σ, H1, I1, r1, q1⟩)
def tIfS (c : TT) (t u : TS) : TS := fun D σ H => c σ H fun b H1 => if b = true then t D σ H1 else u D σ H1
theorem ps_if {c : Expr} {a b : List Stmt} {tc : TT} (hc : PT X c tc) (ha : PSs X a t) (hb : PSs X b u) : PS X (.If c a b pos) (tIfS tc t u) := by
  intro pins s σ H D I h
  refine wpAny_If (thn (hc pins s σ H _ I h) fun d s1 ⟨H1, I1, q1⟩ => ?_)
  cases d with
  | true => exact ha pins s1 σ H1 D I1 q1
  | false => exact hb pins s1 σ H1 D I1 q1
/-- code that the proof never comes to -/
def tNever : TS := fun _ _ _ => False
theorem ps_never : PS X st tNever := fun _ _ _ _ _ _ h => h.elim
end

/-! ### targets -/
abbrev TG := V → St → Hp → (St → Hp → Prop) → Prop
def PG (X : Cx) (target : Expr) (t : TG) : Prop :=
  ∀ (pins : List (Addr × Obj)) (s : Shared) (σ : St) (H : Hp) (v : V) (u : Value) (Q : St → Hp → Prop), Inv X pins σ H s → RelV v u → t v σ H Q →
    wpAny (model X.prog X.w) X.A (assign target X.env u) (fun _ s' => ∃ σ' H', Inv X pins σ' H' s' ∧ Q σ' H') X.xe s
/-- o[i] = v, by values -/
abbrev TSet := V → V → V → Hp → (Hp → Prop) → Prop
def PSet (X : Cx) (t : TSet) : Prop :=
  ∀ (pins : List (Addr × Obj)) (s : Shared) (σ : St) (H : Hp) (o i v : V) (ov iv u : Value) (Q : Hp → Prop), Inv X pins σ H s → RelV o ov → RelV i iv → RelV v u → t o i v H Q →
    wpAny (model X.prog X.w) X.A (setItem ov iv u) (fun _ s' => ∃ H', Inv X pins σ H' s' ∧ Q H') X.xe s
section
variable {X : Cx} {pos : Pos}
def gName (i : Nat) : TG := fun v σ H Q => Q (σ.set i (some v)) H
theorem pg_name {i : Nat} {x : Str} (hN : X.N.Nodup) (hi : X.N[i]? = some x) (hx : Loc X.env.scope x) (hf : X.fn x = true ∨ X.env.scope.names.lookup x = some .local := by first | exact .inl rfl | exact .inr rfl | assumption) : PG X (.Name x pos) (gName i) := by
  intro pins s σ H v u Q I r h
  exact wpAny_assign_Name (store_ok I hN hi hx r (fun s' I' => ⟨_, H, I', h⟩) hf)
/-- o[i] = .. -/
def gSub (to ti : TE) (t : TSet) : TG := fun v σ H Q => to σ H fun o H1 => ti σ H1 fun i H2 => t o i v H2 fun H3 => Q σ H3
theorem pg_sub {o i : Expr} {to ti : TE} {t : TSet} (ho : PE X o to) (hi : PE X i ti) (hs : PSet X t)
    (ha : ∀ v, assign (.Subscript o i pos) X.env v = (do
      let ov ← holding [v] (eval o X.env)
      let iv ← holding [v, ov] (eval i X.env)
      standAt pos
      holding [v, ov, iv] (setItem ov iv v)
      release [v, ov, iv] []) := by intro _; rfl) : PG X (.Subscript o i pos) (gSub to ti t) := by
  intro pins s σ H v u Q I r h
  rw [ha]
  refine wpAny_bind (wpAny_holding (thn (ho pins s σ H _ I h) fun ov s1 ⟨x, H1, I1, r1, q1⟩ => ?_))
  refine wpAny_bind (wpAny_holding (thn (hi pins s1 σ H1 _ I1 q1) fun iv s2 ⟨y, H2, I2, r2, q2⟩ => ?_))
  refine wpAny_bind (wpAny_standAt (wpAny_bind (wpAny_holding (thn (hs pins s2 σ H2 x y v ov iv u _ I2 r1 r2 r q2) fun _ s3 ⟨H3, I3, q3⟩ => ?_))))
  exact wpAny_release ⟨σ, H3, I3, q3⟩
/-- target = value -/
def tAsg (te : TE) (g : TG) : TS := fun D σ H => te σ H fun x H1 => g x σ H1 D.nx
theorem ps_asg {tg e : Expr} {te : TE} {g : TG} (he : PE X e te) (hg : PG X tg g) (hs : swapsWithSole [tg] e pos.line X.env = pure false := by rfl) (hw : swappedStores [tg] e X.env = pure none := by rfl)
    (h1 : (assignEach [tg] X.env).map (·.2) = [assign tg X.env] := by rfl) : PS X (.Assign [tg] e pos) (tAsg te g) := by
  intro pins s σ H D I h
  refine wpAny_Assign_stores (thn (he pins s σ H _ I h) fun v s1 ⟨x, H1, I1, r1, q1⟩ => ?_) hs hw
  rw [h1]
  exact thn (hg pins s1 σ H1 x v _ I1 r1 q1) fun _ s2 q => q
/-- name = value -/
theorem ps_set {i : Nat} {x : Str} {e : Expr} {te : TE} {pos' : Pos} (hN : X.N.Nodup) (hi : X.N[i]? = some x) (hx : Loc X.env.scope x) (he : PE X e te) (hs : swapsWith e (some (.Name x pos')) pos.line X.env = pure false := by rfl) (hf : X.fn x = true ∨ X.env.scope.names.lookup x = some .local := by first | exact .inl rfl | exact .inr rfl | assumption) :
    PS X (.Assign [.Name x pos'] e pos) (tAsg te (gName i)) := by
  intro pins s σ H D I h
  refine wpAny_Assign_Name (thn (he pins s σ H _ I h) fun v s1 ⟨y, H1, I1, r1, q1⟩ => ?_) hs
  exact store_ok I1 hN hi hx r1 (fun s2 I2 => ⟨_, H1, I2, q1⟩) hf
end

/-! ### while -/
section
variable {X : Cx} {pos : Pos}
/-- the invariant W with its measure -/
def tWhile (c : TT) (tb : TS) : TS := fun D σ H => ∃ W : Nat → St → Hp → Prop, (∃ m, W m σ H) ∧ ∀ m σ H, W m σ H →
  c σ H fun b H1 => if b = true then ∃ N : St → Hp → Prop, (∀ σ' H', N σ' H' → ∃ m', m' < m ∧ W m' σ' H') ∧ tb { D with nx := N, ct := N, bk := D.nx } σ H1 else D.nx σ H1
theorem ps_while {c : Expr} {body : List Stmt} {tc : TT} {tb : TS} (hp : PassesOwn (model X.prog X.w) X.A X.env X.xe) (hc : PT X c tc) (hb : PSs X body tb) : PS X (.While c body [] pos) (tWhile tc tb) := by
  intro pins s σ H D I h
  obtain ⟨W, ⟨m0, w0⟩, turn⟩ := h
  refine wpAny_While (codeAny_whileLoop (fun n s' => ∃ σ' H', Inv X pins σ' H' s' ∧ W n σ' H') ?_ m0 ⟨σ, H, I, w0⟩)
  rintro n s1 ⟨σ1, H1, I1, w1⟩
  refine wpAny_passesOwn hp (thn (hc pins s1 σ1 H1 _ I1 (turn n σ1 H1 w1)) fun b s2 ⟨H2, I2, q2⟩ => ?_)
  cases b with
  | true =>
    obtain ⟨N, hN, q2⟩ := q2
    rw [if_pos rfl]
    refine wpAny_passesOwn hp (thn (hb pins s2 σ1 H2 _ I2 q2) fun f s3 q3 => ?_)
    cases f with
    | next =>
      obtain ⟨σ3, H3, I3, n3⟩ := q3
      obtain ⟨m', hm, w3⟩ := hN σ3 H3 n3
      exact ⟨m', hm, σ3, H3, I3, w3⟩
    | cont =>
      obtain ⟨σ3, H3, I3, n3⟩ := q3
      obtain ⟨m', hm, w3⟩ := hN σ3 H3 n3
      exact ⟨m', hm, σ3, H3, I3, w3⟩
    | brk => exact q3
    | ret v => exact q3
  | false =>
    rw [if_neg Bool.false_ne_true]
    exact wpAny_execs_nil ⟨σ1, H2, I2, q2⟩
end

/-! ### what a loop or a comprehension walks -/
/-- at turn i: it yields x (the heap may grow), or it stops -/
structure It where
  go : Nat → Hp → Prop
  yld : Nat → Hp → V → Hp → Prop
  stop : Nat → Hp → Prop
/-- the iterator's own objects may turn: they are not the frame's, not pinned, younger than the entry (or a comprehension's own) -/
def FpOk (X : Cx) (pins : List (Addr × Obj)) (H : Hp) (b : Addr) : Prop :=
  H b = none ∧ b ≠ X.env.locals ∧ b ∉ X.fs ∧ (b ∈ X.ex ∨ X.s₀.heap.objs.size ≤ b) ∧ (∀ x c, X.env.cells.lookup x = some c → c ≠ b) ∧ ∀ p ∈ X.pn ++ pins, p.1 ≠ b
theorem Inv.fpOk {X : Cx} {pins : List (Addr × Obj)} {σ : St} {H H' : Hp} {s : Shared} {b : Addr} (I : Inv X pins σ H s) (hb : s.heap.objs.size ≤ b) (hn : H' b = none) : FpOk X pins H' b := by
  refine ⟨hn, Nat.ne_of_gt (Nat.lt_of_lt_of_le I.lt hb), I.nofs hb, .inr (Nat.le_trans I.sz hb), fun x c e z => ?_, fun p hp z => ?_⟩
  · obtain ⟨v, q⟩ := I.cell x c e
    exact absurd (Nat.lt_of_lt_of_le q.lt (by rw [z]; exact hb)) (Nat.lt_irrefl _)
  · exact absurd (Nat.lt_of_lt_of_le (Heap.lt_size (I.pin p hp).1) (by rw [z]; exact hb)) (Nat.lt_irrefl _)
structure Turn (P : Program) (w : World) (K : PySem.W.Frag) (tg : Expr) (J : It) (fp : List Addr) (it : Addr) (tn : Nat → Heap → Prop) : Prop where
  mem : it ∈ fp
  obj : ∀ i h, tn i h → ∀ b ∈ fp, ∃ o, h.get? b = some o ∧ ∀ v, o.data ≠ .cell v
  keep : ∀ i h h', tn i h → (∀ b ∈ fp, ∀ o, h.get? b = some o → h'.get? b = some o) → tn i h'
  item : ∀ (X : Cx), X.prog = P → X.w = w → X.K = K → X.calm = true → ∀ (i : Nat) (pins : List (Addr × Obj)) (s : Shared) (σ : St) (H : Hp) (E : Value → Shared → Prop), Inv X pins σ H s → (∀ b ∈ fp, FpOk X pins H b) → tn i s.heap → J.go i H →
    wpAny (model P w) X.A (pyNext (.ref it)) (fun r s1 => ∃ u, r = some u ∧
      wpAny (model P w) X.A (letOwnedTupleGo tg (.ref it) u) (fun _ s2 => ∃ x H', Inv X pins σ H' s2 ∧ RelV x u ∧ J.yld i H x H' ∧ tn (i + 1) s2.heap ∧ ∀ b ∈ fp, H' b = none) E s1) E s
  done : ∀ (X : Cx), X.prog = P → X.w = w → X.K = K → X.calm = true → ∀ (i : Nat) (pins : List (Addr × Obj)) (s : Shared) (σ : St) (H : Hp) (E : Value → Shared → Prop), Inv X pins σ H s → (∀ b ∈ fp, FpOk X pins H b) → tn i s.heap → J.stop i H →
    wpAny (model P w) X.A (pyNext (.ref it)) (fun r s1 => r = none ∧ Inv X pins σ H s1) E s
  self : ∀ (A : Around) (i : Nat) (s : Shared) (Q : Value → Shared → Prop) (E : Value → Shared → Prop), tn i s.heap → Q (.ref it) s → wpAny (model P w) A (pyIter (.ref it)) Q E s
abbrev TI := St → Hp → (It → Hp → Prop) → Prop
/-- an iterator has come -/
def PIE (X : Cx) (pins : List (Addr × Obj)) (σ : St) (tg : Expr) (R : It → Hp → Prop) (itv : Value) (s2 : Shared) : Prop :=
  ∃ (it : Addr) (fp : List Addr) (tn : Nat → Heap → Prop) (J : It) (H' : Hp), itv = .ref it ∧ Inv X pins σ H' s2 ∧ Turn X.prog X.w X.K tg J fp it tn ∧ tn 0 s2.heap ∧ (∀ b ∈ fp, FpOk X pins H' b) ∧ R J H'
def PI (X : Cx) (tg iter : Expr) (wi : TI) : Prop :=
  ∀ (pins : List (Addr × Obj)) (s : Shared) (σ : St) (H : Hp) (R : It → Hp → Prop), Inv X pins σ H s → wi σ H R →
    wpAny (model X.prog X.w) X.A (eval iter X.env) (fun v s1 => wpAny (model X.prog X.w) X.A (pyIter v) (PIE X pins σ tg R) X.xe s1) X.xe s

/-- the step ahead of the store is nothing for an iterator that keeps no tuple -/
theorem go_of {M : Model} {A : Around} {E : Value → Shared → Prop} {s : Shared} {tg : Expr} {it : Addr} {u : Value} {o : Obj} {n : String} {vs : Array Value} {Q : Unit → Shared → Prop} (ho : s.heap.get? it = some o) (hc : o.cls = .type n) (hd : o.data = .fields vs)
    (hn : ["enumerate", "zip", "dict_itemiterator", "dict_reverseitemiterator", "odict_iterator", "itertools.zip_longest", "itertools.pairwise"].contains n = false) (hQ : Q () s) : wpAny M A (letOwnedTupleGo tg (.ref it) u) Q E s := by
  unfold letOwnedTupleGo
  cases tg <;> first
    | exact wpAny_pure hQ
    | (cases u <;> first
        | exact wpAny_pure hQ
        | (refine wpAny_bind (wpAny_load ho ?_)
           rw [hc, hd]
           show wpAny M A (if (["enumerate", "zip", "dict_itemiterator", "dict_reverseitemiterator", "odict_iterator", "itertools.zip_longest", "itertools.pairwise"].contains n && vs[0]? == some (rawInt _)) = true then _ else _) Q E s
           rw [if_neg (by intro h; rw [hn, Bool.false_and] at h; cases h)]
           exact wpAny_pure hQ))

/-- the list at a, as it stands at each turn (a loop may append to it) -/
def Itl (K : PySem.W.Frag) (a : Addr) : It :=
  ⟨fun i H => ∃ xs x, SqL K H a xs ∧ xs[i]? = some x, fun i H x H' => H' = H ∧ ∀ xs, SqL K H a xs → xs[i]? = some x, fun i H => ∃ xs, SqL K H a xs ∧ xs.length ≤ i⟩
def Itt (K : PySem.W.Frag) (a : Addr) : It :=
  ⟨fun i H => ∃ xs x, SqT K H a xs ∧ xs[i]? = some x, fun i H x H' => H' = H ∧ ∀ xs, SqT K H a xs → xs[i]? = some x, fun i H => ∃ xs, SqT K H a xs ∧ xs.length ≤ i⟩
/-- lo, lo + 1, .. (n of them) -/
def Itr (lo : Int) (n : Nat) : It := ⟨fun i _ => i < n, fun i H x H' => H' = H ∧ x = .int (lo + i), fun i _ => n ≤ i⟩
theorem turn_list {P : Program} {w : World} {K : PySem.W.Frag} {tg : Expr} (a it : Addr) : Turn P w K tg (Itl K a) [it] it (fun i h => h.IsListIter it a i) where
  mem := by simp
  obj := fun i h st b hb => by
    have e : b = it := by simpa using hb
    subst e
    obtain ⟨o, e, c, d⟩ := st
    exact ⟨o, e, fun v z => by rw [d] at z; cases z⟩
  keep := fun i h h' st k => st.at fun o e => k it (by simp) o e
  item := by
    intro X hP hw hK hc i pins s σ H E I hf st hg
    subst hP hw hK
    obtain ⟨xs, x, hq, hx⟩ := hg
    obtain ⟨its, rv, p, hz⟩ := I.list hq
    obtain ⟨u, hu, ru⟩ := rv.get hx
    obtain ⟨f0, f1, f2, f3, f4, f5⟩ := hf it (by simp)
    refine wpAny_pyNext_list_item st p.isList (x := u) (by simpa using hu) fun h' st' sb => ?_
    have I1 : Inv X pins σ H { s with heap := h' } := I.turned (t' := s.toks) (fun b o hb e => (sb.2 b hb).trans e) f0 f1 f3 f4 f5
    obtain ⟨o, e, c, d⟩ := id st'
    exact ⟨u, rfl, go_of (s := { s with heap := h' }) e c d (by decide) ⟨x, H, I1, ru, ⟨rfl, fun ys hy => by rw [I.list_inj hy hq]; exact hx⟩, st', fun b hb => (hf b hb).1⟩⟩
  done := by
    intro X hP hw hK hc i pins s σ H E I hf st hg
    subst hP hw hK
    obtain ⟨xs, hq, hx⟩ := hg
    obtain ⟨its, rv, p, hz⟩ := I.list hq
    obtain ⟨f0, f1, f2, f3, f4, f5⟩ := hf it (by simp)
    have hl := rv.length
    exact wpAny_pyNext_list_end (I.ok.hd hc) st p.isList (by simp; omega) fun h' eb => ⟨rfl, I.turned (t' := s.toks) (fun b o hb e => eb b o hb e) f0 f1 f3 f4 f5⟩
  self := fun _ _ _ _ _ st h => wpAny_pyIter_listiter st h
theorem turn_tuple {P : Program} {w : World} {K : PySem.W.Frag} {tg : Expr} (a it : Addr) : Turn P w K tg (Itt K a) [it] it (fun i h => h.IsTupleIter it a i) where
  mem := by simp
  obj := fun i h st b hb => by
    have e : b = it := by simpa using hb
    subst e
    obtain ⟨o, e, c, d⟩ := st
    exact ⟨o, e, fun v z => by rw [d] at z; cases z⟩
  keep := fun i h h' st k => st.at fun o e => k it (by simp) o e
  item := by
    intro X hP hw hK hc i pins s σ H E I hf st hg
    subst hP hw hK
    obtain ⟨xs, x, hq, hx⟩ := hg
    obtain ⟨its, rv, p, hz⟩ := I.tuple hq
    obtain ⟨u, hu, ru⟩ := rv.get hx
    obtain ⟨f0, f1, f2, f3, f4, f5⟩ := hf it (by simp)
    refine wpAny_pyNext_tuple_item st (show s.heap.IsTuple a its.toArray from p) (x := u) (by simpa using hu) fun h' st' sb => ?_
    have I1 : Inv X pins σ H { s with heap := h' } := I.turned (t' := s.toks) (fun b o hb e => (sb.2 b hb).trans e) f0 f1 f3 f4 f5
    obtain ⟨o, e, c, d⟩ := id st'
    exact ⟨u, rfl, go_of (s := { s with heap := h' }) e c d (by decide) ⟨x, H, I1, ru, ⟨rfl, fun ys hy => by rw [I.tuple_inj hy hq]; exact hx⟩, st', fun b hb => (hf b hb).1⟩⟩
  done := by
    intro X hP hw hK hc i pins s σ H E I hf st hg
    subst hP hw hK
    obtain ⟨xs, hq, hx⟩ := hg
    obtain ⟨its, rv, p, hz⟩ := I.tuple hq
    obtain ⟨f0, f1, f2, f3, f4, f5⟩ := hf it (by simp)
    have hl := rv.length
    exact wpAny_pyNext_tuple_end (I.ok.hd hc) st (show s.heap.IsTuple a its.toArray from p) (by simp; omega) fun h' eb => ⟨rfl, I.turned (t' := s.toks) (fun b o hb e => eb b o hb e) f0 f1 f3 f4 f5⟩
  self := fun _ _ _ _ _ st h => wpAny_pyIter_tupleiter st h
theorem turn_range {P : Program} {w : World} {K : PySem.W.Frag} {tg : Expr} (it : Addr) (lo : Int) (n : Nat) : Turn P w K tg (Itr lo n) [it] it (fun i h => IsRangeIter h it (lo + (i : Nat) * 1) ((n : Int) - (i : Nat)) 1) where
  mem := by simp
  obj := fun i h st b hb => by
    have e : b = it := by simpa using hb
    subst e
    exact ⟨_, st, fun v z => by
      have z' : Data.fields _ = Data.cell v := z
      cases z'⟩
  keep := fun i h h' st k => k it (by simp) _ st
  item := by
    intro X hP hw hK hc i pins s σ H E I hf st hg
    subst hP hw hK
    obtain ⟨f0, f1, f2, f3, f4, f5⟩ := hf it (by simp)
    have W := Walks.range (prog := X.prog) (w := X.w) (I.ok.hd hc) it lo 1 n
    refine W.item i s _ _ hg st fun v h' tk hv st' kk => ?_
    obtain ⟨t, rfl⟩ := hv
    have I1 : Inv X pins σ H { s with heap := h', toks := tk } := I.turned (fun b o hb e => kk b o (by simpa using hb) e) f0 f1 f3 f4 f5
    refine ⟨_, rfl, go_of (s := { s with heap := h', toks := tk }) (n := "range_iterator") st' rfl rfl (by decide) ⟨.int (lo + i), H, I1, ⟨t, ?_⟩, ⟨rfl, rfl⟩, st', fun b hb => (hf b hb).1⟩⟩
    rw [Int.mul_one]
  done := by
    intro X hP hw hK hc i pins s σ H E I hf st hg
    subst hP hw hK
    obtain ⟨f0, f1, f2, f3, f4, f5⟩ := hf it (by simp)
    exact wpAny_pyNext_range_end (I.ok.hd hc) st (by have : n ≤ i := hg; omega) fun h' eb => ⟨rfl, I.turned (t' := s.toks) (fun b o hb e => eb b o hb e) f0 f1 f3 f4 f5⟩
  self := fun _ _ _ _ _ st h => wpAny_pyIter_rangeiter st h
end L2

namespace L2
open PySem PySem.Spec PyProof.Rows
section
variable {X : Cx} {tg : Expr}
def iList (K : PySem.W.Frag) (tl : TE) : TI := fun σ H R => tl σ H fun x H1 => ∃ a, x = .ref a ∧ (∃ xs, SqL K H1 a xs) ∧ R (Itl K a) H1
def iTup (K : PySem.W.Frag) (tl : TE) : TI := fun σ H R => tl σ H fun x H1 => ∃ a, x = .ref a ∧ (∃ xs, SqT K H1 a xs) ∧ R (Itt K a) H1
theorem pi_list {l : Expr} {tl : TE} (hl : PE X l tl) : PI X tg l (iList X.K tl) := by
  intro pins s σ H R I h
  refine thn (hl pins s σ H _ I h) fun v s1 ⟨x, H1, I1, r1, q1⟩ => ?_
  obtain ⟨a, e, ⟨xs, hq⟩, q⟩ := q1
  subst e
  cases r1
  obtain ⟨its, rv, p, hz⟩ := I1.list hq
  refine wpAny_pyIter_list p.isList ?_
  refine ⟨s1.heap.objs.size, [s1.heap.objs.size], _, _, H1, rfl, I1.kept (t' := s1.toks) fun b o e => Heap.get?_push_of_some _ e, turn_list a _, ⟨_, Heap.get?_push_size _ rfl, rfl, rfl⟩, fun b hb => ?_, q⟩
  have e : b = s1.heap.objs.size := by simpa using hb
  subst e
  exact I1.fpOk (Nat.le_refl _) (I1.hok.fresh (Nat.le_refl _))
theorem pi_tup {l : Expr} {tl : TE} (hl : PE X l tl) : PI X tg l (iTup X.K tl) := by
  intro pins s σ H R I h
  refine thn (hl pins s σ H _ I h) fun v s1 ⟨x, H1, I1, r1, q1⟩ => ?_
  obtain ⟨a, e, ⟨xs, hq⟩, q⟩ := q1
  subst e
  cases r1
  obtain ⟨its, rv, p, hz⟩ := I1.tuple hq
  refine wpAny_pyIter_tuple (show s1.heap.IsTuple a its.toArray from p) ?_
  refine ⟨s1.heap.objs.size, [s1.heap.objs.size], _, _, H1, rfl, I1.kept (t' := s1.toks) fun b o e => Heap.get?_push_of_some _ e, turn_tuple a _, ⟨_, Heap.get?_push_size _ rfl, rfl, rfl⟩, fun b hb => ?_, q⟩
  have e : b = s1.heap.objs.size := by simpa using hb
  subst e
  exact I1.fpOk (Nat.le_refl _) (I1.hok.fresh (Nat.le_refl _))
/-- a range object just made, walked -/
theorem range_it {pins : List (Addr × Obj)} {σ : St} {H : Hp} {s : Shared} {R : It → Hp → Prop} {E : Value → Shared → Prop} {lo hi : Int} {t u v : Tok} {tk : Nat} (I : Inv X pins σ H s) (h1 : -(2 ^ 62) ≤ lo) (h2 : lo < 2 ^ 62) (h3 : -(2 ^ 62) ≤ hi) (h4 : hi < 2 ^ 62)
    (q : R (Itr lo (hi - lo).toNat) H) : wpAny (model X.prog X.w) X.A (pyIter (.ref s.heap.objs.size)) (PIE X pins σ tg R) E { s with heap := s.heap.push { cls := .type "range", data := .fields #[.int lo t, .int hi u, .int 1 v] }, toks := tk } := by
  refine wpAny_pyIter_range (IsRange.new ..) (small_one h1 h2 h3 h4) ?_
  have I1 : Inv X pins σ H { s with heap := s.heap.push { cls := .type "range", data := .fields #[.int lo t, .int hi u, .int 1 v] }, toks := tk } := I.kept fun b o e => Heap.get?_push_of_some _ e
  refine ⟨(s.heap.push { cls := .type "range", data := .fields #[.int lo t, .int hi u, .int 1 v] }).objs.size, [(s.heap.push { cls := .type "range", data := .fields #[.int lo t, .int hi u, .int 1 v] }).objs.size], _, _, H, rfl,
    I1.kept (t' := tk) fun b o e => Heap.get?_push_of_some _ e, turn_range _ lo (hi - lo).toNat, ?_, fun b hb => ?_, q⟩
  · have e1 : lo + ((0 : Nat) : Int) * 1 = lo := by simp
    have e2 : (((hi - lo).toNat : Nat) : Int) - ((0 : Nat) : Int) = Builtin.Range.rangeSize lo hi 1 := by rw [rangeSize_one]; split <;> omega
    show IsRangeIter _ _ (lo + ((0 : Nat) : Int) * 1) ((((hi - lo).toNat : Nat) : Int) - ((0 : Nat) : Int)) 1
    rw [e1, e2]
    exact Heap.get?_push_size _ rfl
  · have e : b = (s.heap.push { cls := .type "range", data := .fields #[.int lo t, .int hi u, .int 1 v] }).objs.size := by simpa using hb
    subst e
    exact I1.fpOk (Nat.le_refl _) (I1.hok.fresh (Nat.le_refl _))
def iRng1 (ta : TA) : TI := fun σ H R => ta σ H fun vs H1 => ∃ j : Int, vs = [.int j] ∧ -(2 ^ 62) ≤ j ∧ j < 2 ^ 62 ∧ R (Itr 0 j.toNat) H1
theorem pi_range1 {a : Expr} {ta : TA} {p pos : Pos} (hg : Gl X "range") (hm : X.mg "range" = none) (ha : PA X [a] ta) (hs : starEach [a] X.env = [(false, eval a X.env)] := by rfl) : PI X tg (.Call (.Name "range" p) [a] [] pos) (iRng1 ta) := by
  intro pins s σ H R I h
  refine Call_ (ld_blt I hg hm boot_range (PyProof.Rows.callWith_type1 (thn (ha pos pins s σ H _ I h) fun us s1 ⟨vs, H1, I1, r1, q1⟩ => ?_) hs rfl))
  obtain ⟨j, e, q1, q2, q⟩ := q1
  subst e
  cases r1 with
  | cons r rr =>
    cases rr
    obtain ⟨t, rfl⟩ := r
    exact call_range_1 (range_it I1 (by omega) (by omega) q1 q2 (by simpa using q))

/-! ### for -/
/-- W: the invariant by the turn and a measure; N: what the body is to reach -/
def tFor (wi : TI) (g : TG) (tb : TS) : TS := fun D σ H => wi σ H fun J H1 => ∃ W : Nat → Nat → St → Hp → Prop, (∃ m, W 0 m σ H1) ∧ ∀ i m σ H, W i m σ H →
  (J.stop i H ∧ D.nx σ H) ∨ (J.go i H ∧ ∃ N : St → Hp → Prop, (∀ σ' H', N σ' H' → ∃ m', m' < m ∧ W (i + 1) m' σ' H') ∧ ∀ x H', J.yld i H x H' → g x σ H' fun σ2 H2 => tb { D with nx := N, ct := N, bk := D.nx } σ2 H2)
/-- the records at fp as they stand -/
def pinsAt (fp : List Addr) (h : Heap) : List (Addr × Obj) := fp.filterMap fun b => (h.get? b).map fun o => (b, o)
theorem mem_pinsAt {fp : List Addr} {h : Heap} {b : Addr} {o : Obj} (hb : b ∈ fp) (e : h.get? b = some o) : (b, o) ∈ pinsAt fp h := List.mem_filterMap.mpr ⟨b, hb, by rw [e]; rfl⟩
theorem of_pinsAt {fp : List Addr} {h : Heap} {p : Addr × Obj} (hp : p ∈ pinsAt fp h) : p.1 ∈ fp ∧ h.get? p.1 = some p.2 := by
  obtain ⟨b, hb, e⟩ := List.mem_filterMap.mp hp
  cases q : h.get? b with
  | none => rw [q] at e; cases e
  | some o =>
    rw [q] at e
    have e' : (b, o) = p := Option.some.inj e
    subst e'
    exact ⟨hb, q⟩
theorem Inv.pinned {pins : List (Addr × Obj)} {σ : St} {H : Hp} {s : Shared} {fp : List Addr} (I : Inv X pins σ H s) (hf : ∀ b ∈ fp, FpOk X pins H b) (ho : ∀ b ∈ fp, ∃ o, s.heap.get? b = some o ∧ ∀ v, o.data ≠ .cell v) : Inv X (pins ++ pinsAt fp s.heap) σ H s :=
  I.pins_of fun p hp => (List.mem_append.mp hp).elim (fun z => I.pin p (List.mem_append_right _ z)) fun z => by
    obtain ⟨hb, e⟩ := of_pinsAt z
    obtain ⟨f0, f1, f2, _⟩ := hf p.1 hb
    obtain ⟨o, e', d⟩ := ho p.1 hb
    rw [e] at e'; cases e'
    exact ⟨e, f0, f1, f2, d⟩
theorem Inv.unpinned {pins pl : List (Addr × Obj)} {σ : St} {H : Hp} {s : Shared} (I : Inv X (pins ++ pl) σ H s) : Inv X pins σ H s := I.pins_of fun p hp => I.pin p (List.mem_append_right _ (List.mem_append_left _ hp))
theorem ps_for {iter : Expr} {body : List Stmt} {wi : TI} {g : TG} {tb : TS} {pos : Pos} (hp : PassesOwn (model X.prog X.w) X.A X.env X.xe) (hc : X.calm = true) (hi : PI X tg iter wi) (hg : PG X tg g) (hb : PSs X body tb)
    (hs : ∀ x, foldedSetIterable iter X.env x = pure x := by intro _; rfl) : PS X (.For tg iter body [] pos) (tFor wi g tb) := by
  intro pins s σ H D I h
  refine wpAny_For (thn (hi pins s σ H _ I h) fun v s1 h1 => thn h1 fun itv s2 h2 => ?_) hs
  obtain ⟨it, fp, tn, J, H2, e, I2, T, st2, f2, W, ⟨m0, w0⟩, turn⟩ := h2
  subst e
  -- what stays true of the iterator's objects through the loop
  have stat : ∀ {H' : Hp}, (∀ b ∈ fp, H' b = none) → ∀ b ∈ fp, FpOk X pins H' b := fun hn b hb => ⟨hn b hb, (f2 b hb).2⟩
  refine codeAny_forLoop_any (fun n s' => ∃ i σ' H', Inv X pins σ' H' s' ∧ tn i s'.heap ∧ (∀ b ∈ fp, H' b = none) ∧ W i n σ' H') ?_ m0 ⟨0, σ, H2, I2, st2, fun b hb => (f2 b hb).1, w0⟩
  rintro n s3 ⟨i, σ3, H3, I3, st3, fr3, w3⟩
  rcases turn i n σ3 H3 w3 with ⟨stop, qn⟩ | ⟨go, N, hN, step⟩
  · refine wpAny_passesOwn hp (thn (T.done X rfl rfl rfl hc i pins s3 σ3 H3 X.xe I3 (stat fr3) st3 stop) fun r s4 ⟨hr, I4⟩ => ?_)
    subst hr
    exact wpAny_execs_nil ⟨σ3, H3, I4, qn⟩
  · refine wpAny_passesOwn hp (thn (T.item X rfl rfl rfl hc i pins s3 σ3 H3 X.xe I3 (stat fr3) st3 go) fun r s4 ⟨u, hr, h4⟩ => ?_)
    subst hr
    refine wpAny_passesOwn hp (thn h4 fun _ s5 ⟨x, H5, I5, r5, y5, st5, fr5⟩ => ?_)
    have I5' := I5.pinned (stat fr5) (T.obj _ _ st5)
    refine wpAny_passesOwn hp (thn (hg _ s5 σ3 H5 x u _ I5' r5 (step x H5 y5)) fun _ s6 ⟨σ6, H6, I6, q6⟩ => ?_)
    refine wpAny_passesOwn hp (thn (hb _ s6 σ6 H6 _ I6 q6) fun f s7 q7 => ?_)
    have again : ∀ {σ7 : St} {H7 : Hp}, Inv X (pins ++ pinsAt fp s5.heap) σ7 H7 s7 → N σ7 H7 → ∃ m, m < n ∧ ∃ i σ' H', Inv X pins σ' H' s7 ∧ tn i s7.heap ∧ (∀ b ∈ fp, H' b = none) ∧ W i m σ' H' := fun {σ7 H7} I7 n7 => by
      obtain ⟨m', hm, w7⟩ := hN σ7 H7 n7
      refine ⟨m', hm, i + 1, σ7, H7, I7.unpinned, T.keep _ _ _ st5 fun b hb o e => (I7.pin (b, o) (List.mem_append_right _ (List.mem_append_right _ (mem_pinsAt hb e)))).1, fun b hb => ?_, w7⟩
      obtain ⟨o, e, d⟩ := T.obj _ _ st5 b hb
      exact (I7.pin (b, o) (List.mem_append_right _ (List.mem_append_right _ (mem_pinsAt hb e)))).2.1
    cases f with
    | next => obtain ⟨σ7, H7, I7, n7⟩ := q7; exact again I7 n7
    | cont => obtain ⟨σ7, H7, I7, n7⟩ := q7; exact again I7 n7
    | brk => obtain ⟨σ7, H7, I7, q7⟩ := q7; exact ⟨σ7, H7, I7.unpinned, q7⟩
    | ret v => obtain ⟨x7, σ7, H7, I7, r7, q7⟩ := q7; exact ⟨x7, σ7, H7, I7.unpinned, r7, q7⟩
end

/-! ### the forms one uses -/
/-- over a list that the body leaves as it is -/
theorem for_list {K : PySem.W.Frag} {a : Addr} {xs : List V} {g : TG} {tb : TS} {D : Ends} {σ : St} {H : Hp} (Pv : Nat → St → Hp → Prop) (h0 : Pv 0 σ H) (hl : ∀ i σ H, i ≤ xs.length → Pv i σ H → SqL K H a xs)
    (hs : ∀ i x σ H, xs[i]? = some x → Pv i σ H → g x σ H fun σ2 H2 => tb { D with nx := Pv (i + 1), ct := Pv (i + 1), bk := D.nx } σ2 H2) (hd : ∀ σ H, Pv xs.length σ H → D.nx σ H) :
    ∃ W : Nat → Nat → St → Hp → Prop, (∃ m, W 0 m σ H) ∧ ∀ i m σ H, W i m σ H →
      ((Itl K a).stop i H ∧ D.nx σ H) ∨ ((Itl K a).go i H ∧ ∃ N : St → Hp → Prop, (∀ σ' H', N σ' H' → ∃ m', m' < m ∧ W (i + 1) m' σ' H') ∧ ∀ x H', (Itl K a).yld i H x H' → g x σ H' fun σ2 H2 => tb { D with nx := N, ct := N, bk := D.nx } σ2 H2) := by
  refine ⟨fun i m σ H => m = xs.length - i ∧ i ≤ xs.length ∧ Pv i σ H, ⟨xs.length, by simp, Nat.zero_le _, h0⟩, ?_⟩
  rintro i m σ H ⟨rfl, hi, p⟩
  have q := hl i σ H hi p
  by_cases hlt : i < xs.length
  · refine .inr ⟨⟨xs, xs[i], q, by simp [hlt]⟩, Pv (i + 1), fun σ' H' p' => ⟨xs.length - (i + 1), by omega, rfl, hlt, p'⟩, fun x H' y => ?_⟩
    obtain ⟨e, y⟩ := y
    subst e
    exact hs i x σ _ (y xs q) p
  · have e : i = xs.length := by omega
    subst e
    exact .inl ⟨⟨xs, q, Nat.le_refl _⟩, hd σ H p⟩
theorem for_tup {K : PySem.W.Frag} {a : Addr} {xs : List V} {g : TG} {tb : TS} {D : Ends} {σ : St} {H : Hp} (Pv : Nat → St → Hp → Prop) (h0 : Pv 0 σ H) (hl : ∀ i σ H, i ≤ xs.length → Pv i σ H → SqT K H a xs)
    (hs : ∀ i x σ H, xs[i]? = some x → Pv i σ H → g x σ H fun σ2 H2 => tb { D with nx := Pv (i + 1), ct := Pv (i + 1), bk := D.nx } σ2 H2) (hd : ∀ σ H, Pv xs.length σ H → D.nx σ H) :
    ∃ W : Nat → Nat → St → Hp → Prop, (∃ m, W 0 m σ H) ∧ ∀ i m σ H, W i m σ H →
      ((Itt K a).stop i H ∧ D.nx σ H) ∨ ((Itt K a).go i H ∧ ∃ N : St → Hp → Prop, (∀ σ' H', N σ' H' → ∃ m', m' < m ∧ W (i + 1) m' σ' H') ∧ ∀ x H', (Itt K a).yld i H x H' → g x σ H' fun σ2 H2 => tb { D with nx := N, ct := N, bk := D.nx } σ2 H2) := by
  refine ⟨fun i m σ H => m = xs.length - i ∧ i ≤ xs.length ∧ Pv i σ H, ⟨xs.length, by simp, Nat.zero_le _, h0⟩, ?_⟩
  rintro i m σ H ⟨rfl, hi, p⟩
  have q := hl i σ H hi p
  by_cases hlt : i < xs.length
  · refine .inr ⟨⟨xs, xs[i], q, by simp [hlt]⟩, Pv (i + 1), fun σ' H' p' => ⟨xs.length - (i + 1), by omega, rfl, hlt, p'⟩, fun x H' y => ?_⟩
    obtain ⟨e, y⟩ := y
    subst e
    exact hs i x σ _ (y xs q) p
  · have e : i = xs.length := by omega
    subst e
    exact .inl ⟨⟨xs, q, Nat.le_refl _⟩, hd σ H p⟩
theorem for_range {lo : Int} {n : Nat} {g : TG} {tb : TS} {D : Ends} {σ : St} {H : Hp} (Pv : Nat → St → Hp → Prop) (h0 : Pv 0 σ H)
    (hs : ∀ i σ H, i < n → Pv i σ H → g (.int (lo + i)) σ H fun σ2 H2 => tb { D with nx := Pv (i + 1), ct := Pv (i + 1), bk := D.nx } σ2 H2) (hd : ∀ σ H, Pv n σ H → D.nx σ H) :
    ∃ W : Nat → Nat → St → Hp → Prop, (∃ m, W 0 m σ H) ∧ ∀ i m σ H, W i m σ H →
      ((Itr lo n).stop i H ∧ D.nx σ H) ∨ ((Itr lo n).go i H ∧ ∃ N : St → Hp → Prop, (∀ σ' H', N σ' H' → ∃ m', m' < m ∧ W (i + 1) m' σ' H') ∧ ∀ x H', (Itr lo n).yld i H x H' → g x σ H' fun σ2 H2 => tb { D with nx := N, ct := N, bk := D.nx } σ2 H2) := by
  refine ⟨fun i m σ H => m = n - i ∧ i ≤ n ∧ Pv i σ H, ⟨n, by simp, Nat.zero_le _, h0⟩, ?_⟩
  rintro i m σ H ⟨rfl, hi, p⟩
  by_cases hlt : i < n
  · refine .inr ⟨hlt, Pv (i + 1), fun σ' H' p' => ⟨n - (i + 1), by omega, rfl, hlt, p'⟩, fun x H' y => ?_⟩
    obtain ⟨e, y⟩ := y
    subst e y
    exact hs i σ _ hlt p
  · have e : i = n := by omega
    subst e
    exact .inl ⟨Nat.le_refl _, hd σ H p⟩
end L2

namespace L2
open PySem PySem.Spec PyProof.Rows

abbrev R2 := V → V → Hp → VK → Prop
/-- a two-place operation on values: f is binaryOp op, inplaceOp op or compareOp op -/
def OpR (X : Cx) (f : Value → Value → Sem Value) (r : R2) : Prop :=
  ∀ (pins : List (Addr × Obj)) (s : Shared) (σ : St) (H : Hp) (x y : V) (v u : Value) (Q : VK), Inv X pins σ H s → RelV x v → RelV y u → r x y H Q →
    wpAny (model X.prog X.w) X.A (f v u) (EP X pins σ Q) X.xe s
/-- a one-place operation -/
def UnR (X : Cx) (f : Value → Sem Value) (r : V → Hp → VK → Prop) : Prop :=
  ∀ (pins : List (Addr × Obj)) (s : Shared) (σ : St) (H : Hp) (x : V) (v : Value) (Q : VK), Inv X pins σ H s → RelV x v → r x H Q →
    wpAny (model X.prog X.w) X.A (f v) (EP X pins σ Q) X.xe s
/-- a call of a value that is known (a builtin, a type) with values -/
def CallR (X : Cx) (f : Value) (r : List V → Hp → VK → Prop) : Prop :=
  ∀ (pins : List (Addr × Obj)) (s : Shared) (σ : St) (H : Hp) (xs : List V) (us : List Value) (Q : VK), Inv X pins σ H s → Vals xs us → r xs H Q →
    wpAny (model X.prog X.w) X.A (call f us) (EP X pins σ Q) X.xe s
/-- a value's truth -/
def TruR (X : Cx) (r : V → Hp → (Bool → Hp → Prop) → Prop) : Prop :=
  ∀ (pins : List (Addr × Obj)) (s : Shared) (σ : St) (H : Hp) (x : V) (v : Value) (Q : Bool → Hp → Prop), Inv X pins σ H s → RelV x v → r x H Q →
    wpAny (model X.prog X.w) X.A (truthy v) (TP X pins σ Q) X.xe s

def tOp (r : R2) (ta tb : TE) : TE := fun σ H Q => ta σ H fun x H1 => tb σ H1 fun y H2 => r x y H2 Q
def tUn (r : V → Hp → VK → Prop) (ta : TE) : TE := fun σ H Q => ta σ H fun x H1 => r x H1 Q
/-- ints in, under C, and a value out -/
def rI (C : Int → Int → Prop) (g : Int → Int → V) : R2 := fun x y H Q => ∃ i j, x = .int i ∧ y = .int j ∧ C i j ∧ Q (g i j) H
def rI0 (g : Int → Int → V) : R2 := fun x y H Q => ∃ i j, x = .int i ∧ y = .int j ∧ Q (g i j) H
def rU (g : Int → V) : V → Hp → VK → Prop := fun x H Q => ∃ i, x = .int i ∧ Q (g i) H

section
variable {X : Cx} {a b c : Expr} {ta tb tc : TE} {pos : Pos}

theorem binT (ha : PE X a ta) (hb : PE X b tb) {pins : List (Addr × Obj)} {s : Shared} {σ : St} {H : Hp} {R : V → V → Hp → Prop} (I : Inv X pins σ H s)
    (h : ta σ H fun x H1 => tb σ H1 fun y H2 => R x y H2) {Q : Value → Shared → Prop} {f : Value → Value → Sem Value}
    (hf : ∀ v u s2 x y H2, Inv X pins σ H2 s2 → RelV x v → RelV y u → R x y H2 → wpAny (model X.prog X.w) X.A (f v u) Q X.xe s2) :
    wpAny (model X.prog X.w) X.A (eval a X.env) (fun v s₁ => wpAny (model X.prog X.w) X.A (eval b X.env) (fun u s₂ => wpAny (model X.prog X.w) X.A (f v u) Q X.xe s₂) X.xe s₁) X.xe s := by
  refine thn (ha pins s σ H _ I h) fun v s1 ⟨x, H1, I1, r1, q1⟩ => ?_
  refine thn (hb pins s1 σ H1 _ I1 q1) fun u s2 ⟨y, H2, I2, r2, q2⟩ => ?_
  exact hf v u s2 x y H2 I2 r1 r2 q2

theorem pe_op {op : Operator} {r : R2} (ho : OpR X (binaryOp op) r) (ha : PE X a ta) (hb : PE X b tb) : PE X (.BinOp a op b pos) (tOp r ta tb) := by
  intro pins s σ H Q I h
  exact wpAny_BinOp (binT ha hb I h fun v u s2 x y H2 I2 rx ry q => ho pins s2 σ H2 x y v u Q I2 rx ry q)
theorem pe_un {op : UnaryOp} {r : V → Hp → VK → Prop} (ho : UnR X (unaryOp op) r) (ha : PE X a ta) : PE X (.UnaryOp op a pos) (tUn r ta) := by
  intro pins s σ H Q I h
  exact UnaryOp_ (thn (ha pins s σ H _ I h) fun v s1 ⟨x, H1, I1, r1, q1⟩ => ho pins s1 σ H1 x v Q I1 r1 q1)

/-! ### ints -/
theorem opI {f : Value → Value → Sem Value} {C : Int → Int → Prop} {g : Int → Int → Int}
    (rule : ∀ (i j : Int) (t u : Tok) (s : Shared) (Q : Value → Shared → Prop) (E : Value → Shared → Prop), C i j → Q (.int (g i j) s.toks) { s with toks := s.toks + 1 } → wpAny (model X.prog X.w) X.A (f (.int i t) (.int j u)) Q E s) :
    OpR X f (rI C fun i j => .int (g i j)) := by
  intro pins s σ H x y v u Q I rx ry h
  obtain ⟨i, j, rfl, rfl, hc, q⟩ := h
  obtain ⟨t, rfl⟩ := rx
  obtain ⟨t', rfl⟩ := ry
  exact rule i j t t' s _ _ hc ⟨.int (g i j), H, I.tok _, ⟨_, rfl⟩, q⟩
theorem opI0 {f : Value → Value → Sem Value} {g : Int → Int → Int}
    (rule : ∀ (i j : Int) (t u : Tok) (s : Shared) (Q : Value → Shared → Prop) (E : Value → Shared → Prop), Q (.int (g i j) s.toks) { s with toks := s.toks + 1 } → wpAny (model X.prog X.w) X.A (f (.int i t) (.int j u)) Q E s) :
    OpR X f (rI0 fun i j => .int (g i j)) := by
  intro pins s σ H x y v u Q I rx ry h
  obtain ⟨i, j, rfl, rfl, q⟩ := h
  obtain ⟨t, rfl⟩ := rx
  obtain ⟨t', rfl⟩ := ry
  exact rule i j t t' s _ _ ⟨.int (g i j), H, I.tok _, ⟨_, rfl⟩, q⟩
theorem opB0 {f : Value → Value → Sem Value} {g : Int → Int → Bool}
    (rule : ∀ (i j : Int) (t u : Tok) (s : Shared) (Q : Value → Shared → Prop) (E : Value → Shared → Prop), Q (.bool (g i j)) s → wpAny (model X.prog X.w) X.A (f (.int i t) (.int j u)) Q E s) :
    OpR X f (rI0 fun i j => .bl (g i j)) := by
  intro pins s σ H x y v u Q I rx ry h
  obtain ⟨i, j, rfl, rfl, q⟩ := h
  obtain ⟨t, rfl⟩ := rx
  obtain ⟨t', rfl⟩ := ry
  exact rule i j t t' s _ _ ⟨.bl (g i j), H, I, rfl, q⟩

def CDiv (i j : Int) : Prop := 0 < j ∧ j < 1073741824
def CPow (i j : Int) : Prop := 0 ≤ j ∧ j ≤ 1000000 ∧ i.natAbs < 2 ^ 64
def CMul (i j : Int) : Prop := (-(2 ^ 64) < i ∧ i < 2 ^ 64) ∨ (-(2 ^ 64) < j ∧ j < 2 ^ 64)
theorem CMul.ok {i j : Int} (h : CMul i j) : IntMulOk i j := by
  rcases h with ⟨h1, h2⟩ | ⟨h1, h2⟩
  · exact .of_left (intBits_le_64 h1 h2)
  · exact .of_right (intBits_le_64 h1 h2)

theorem op_add : OpR X (binaryOp .Add) (rI0 fun i j => .int (i + j)) := opI0 fun _ _ _ _ _ _ _ q => add_int q
theorem op_sub : OpR X (binaryOp .Sub) (rI0 fun i j => .int (i - j)) := opI0 fun _ _ _ _ _ _ _ q => sub_int q
/-- // by a positive divisor -/
theorem op_fdiv : OpR X (binaryOp .FloorDiv) (rI CDiv fun i j => .int (i / j)) := opI fun i j _ _ _ _ _ hc q => by
  have h1 : (0 : Int) < j := hc.1
  have h2 : j < 1073741824 := hc.2
  exact floordiv_int (by omega) (by rw [Int.fdiv_eq_ediv_of_nonneg i (by omega)]; exact q) (.inl (PyProof.noPylong_small (by omega)))
/-- % by a positive divisor of any size -/
theorem op_mod : OpR X (binaryOp .Mod) (rI (fun _ j => 0 < j) fun i j => .int (i % j)) := opI fun i j _ _ _ _ _ hc q => by
  have h1 : (0 : Int) < j := hc
  exact mod_int' (by omega) (by rw [Int.fmod_eq_emod_of_nonneg i (by omega)]; exact q)
theorem op_pow : OpR X (binaryOp .Pow) (rI CPow fun i j => .int (i ^ j.toNat)) := opI fun _ _ _ _ _ _ _ hc q => pow_int_small hc.1 hc.2.1 hc.2.2 q


theorem unI {f : Value → Sem Value} {g : Int → Int}
    (rule : ∀ (i : Int) (t : Tok) (s : Shared) (Q : Value → Shared → Prop) (E : Value → Shared → Prop), Q (.int (g i) s.toks) { s with toks := s.toks + 1 } → wpAny (model X.prog X.w) X.A (f (.int i t)) Q E s) :
    UnR X f (rU fun i => .int (g i)) := by
  intro pins s σ H x v Q I rx h
  obtain ⟨i, rfl, q⟩ := h
  obtain ⟨t, rfl⟩ := rx
  exact rule i t s _ _ ⟨.int (g i), H, I.tok _, ⟨_, rfl⟩, q⟩
theorem un_neg : UnR X (unaryOp .USub) (rU fun i => .int (-i)) := unI fun _ _ _ _ _ q => neg_int q

/-! ### bools among ints: n += (a < b) -/
end

/-! ### comparisons -/
/-- the scalars that == tells apart as data does -/
def scal : V → V → Bool
  | .non, .non => true | .non, .int _ => true | .int _, .non => true | .non, .bl _ => true | .bl _, .non => true | .non, .str _ => true | .str _, .non => true
  | .int _, .int _ => true | .bl _, .bl _ => true | .str _, .str _ => true | .byt _, .byt _ => true
  | .int _, .str _ => true | .str _, .int _ => true | .bl _, .str _ => true | .str _, .bl _ => true
  | _, _ => false
def rEq : R2 := fun x y H Q => scal x y = true ∧ Q (.bl (decide (x = y))) H
def rNe : R2 := fun x y H Q => scal x y = true ∧ Q (.bl (!decide (x = y))) H

theorem dec_int {i j : Int} : decide (V.int i = V.int j) = (i == j) := by
  rw [Bool.eq_iff_iff]
  simp
theorem dec_bl {i j : Bool} : decide (V.bl i = V.bl j) = (i == j) := by
  rw [Bool.eq_iff_iff]
  simp
theorem dec_str {i j : Str} : decide (V.str i = V.str j) = (i == j) := by
  rw [Bool.eq_iff_iff]
  simp
theorem dec_byt {i j : Array UInt8} : decide (V.byt i = V.byt j) = (i.toList == j.toList) := by
  rw [Bool.eq_iff_iff]
  cases i
  cases j
  simp

section
variable {X : Cx} {a b c : Expr} {ta tb tc : TE} {pos : Pos}
theorem fin_bl {pins : List (Addr × Obj)} {σ : St} {H : Hp} {s : Shared} {Q : VK} {k k' : Bool} (I : Inv X pins σ H s) (q : Q (.bl k) H) (e : k = k') : EP X pins σ Q (.bool k') s := by
  subst e
  exact ⟨.bl k, H, I, rfl, q⟩
theorem op_eq : OpR X (compareOp .Eq) rEq := by
  intro pins s σ H x y v u Q I rx ry h
  obtain ⟨hs, q⟩ := h
  cases x with
  | non =>
    cases rx
    cases y with
    | non => cases ry; exact PySem.EqNone.eq_none_none (fin_bl I q (by simp))
    | bl j => cases ry; exact PySem.EqNone.eq_none_bool (fin_bl I q (by simp))
    | int j => obtain ⟨t', rfl⟩ := ry; exact PySem.EqNone.eq_none_int (fin_bl I q (by simp))
    | str j => obtain ⟨t', rfl⟩ := ry; exact PySem.EqNone.eq_none_str (fin_bl I q (by simp))
    | _ => exact absurd (show false = true from hs) Bool.false_ne_true
  | bl i =>
    cases rx
    cases y with
    | non => cases ry; exact PySem.EqNone.eq_bool_none (fin_bl I q (by simp))
    | bl j => cases ry; exact eq_bool (fin_bl I q dec_bl)
    | str j => obtain ⟨t', rfl⟩ := ry; exact PySem.EqMixed.eq_bool_str (fin_bl I q (by simp))
    | _ => exact absurd (show false = true from hs) Bool.false_ne_true
  | int i =>
    obtain ⟨t, rfl⟩ := rx
    cases y with
    | non => cases ry; exact PySem.EqNone.eq_int_none (fin_bl I q (by simp))
    | int j => obtain ⟨t', rfl⟩ := ry; exact eq_int (fin_bl I q dec_int)
    | str j => obtain ⟨t', rfl⟩ := ry; exact PySem.EqMixed.eq_int_str (fin_bl I q (by simp))
    | _ => exact absurd (show false = true from hs) Bool.false_ne_true
  | str i =>
    obtain ⟨t, rfl⟩ := rx
    cases y with
    | non => cases ry; exact PySem.EqNone.eq_str_none (fin_bl I q (by simp))
    | bl j => cases ry; exact PySem.EqMixed.eq_str_bool (fin_bl I q (by simp))
    | int j => obtain ⟨t', rfl⟩ := ry; exact PySem.EqMixed.eq_str_int (fin_bl I q (by simp))
    | str j => obtain ⟨t', rfl⟩ := ry; exact eq_str (fin_bl I q dec_str)
    | _ => exact absurd (show false = true from hs) Bool.false_ne_true
  | byt i =>
    obtain ⟨t, rfl⟩ := rx
    cases y with
    | byt j => obtain ⟨t', rfl⟩ := ry; exact PySem.W.eq_bytes (fin_bl I q dec_byt)
    | _ => exact absurd (show false = true from hs) Bool.false_ne_true
  | _ => cases y <;> exact absurd (show false = true from hs) Bool.false_ne_true
theorem op_ne : OpR X (compareOp .NotEq) rNe := by
  intro pins s σ H x y v u Q I rx ry h
  obtain ⟨hs, q⟩ := h
  cases x with
  | non =>
    cases rx
    cases y with
    | non => cases ry; exact PySem.EqNone.ne_none_none (fin_bl I q (by simp))
    | bl j => cases ry; exact PySem.EqNone.ne_none_bool (fin_bl I q (by simp))
    | int j => obtain ⟨t', rfl⟩ := ry; exact PySem.EqNone.ne_none_int (fin_bl I q (by simp))
    | str j => obtain ⟨t', rfl⟩ := ry; exact PySem.EqNone.ne_none_str (fin_bl I q (by simp))
    | _ => exact absurd (show false = true from hs) Bool.false_ne_true
  | bl i =>
    cases rx
    cases y with
    | non => cases ry; exact PySem.EqNone.ne_bool_none (fin_bl I q (by simp))
    | bl j => cases ry; exact ne_bool (fin_bl I q (congrArg not dec_bl))
    | str j => obtain ⟨t', rfl⟩ := ry; exact PySem.EqMixed.ne_bool_str (fin_bl I q (by simp))
    | _ => exact absurd (show false = true from hs) Bool.false_ne_true
  | int i =>
    obtain ⟨t, rfl⟩ := rx
    cases y with
    | non => cases ry; exact PySem.EqNone.ne_int_none (fin_bl I q (by simp))
    | int j => obtain ⟨t', rfl⟩ := ry; exact ne_int (fin_bl I q (congrArg not dec_int))
    | str j => obtain ⟨t', rfl⟩ := ry; exact PySem.EqMixed.ne_int_str (fin_bl I q (by simp))
    | _ => exact absurd (show false = true from hs) Bool.false_ne_true
  | str i =>
    obtain ⟨t, rfl⟩ := rx
    cases y with
    | non => cases ry; exact PySem.EqNone.ne_str_none (fin_bl I q (by simp))
    | bl j => cases ry; exact PySem.EqMixed.ne_str_bool (fin_bl I q (by simp))
    | int j => obtain ⟨t', rfl⟩ := ry; exact PySem.EqMixed.ne_str_int (fin_bl I q (by simp))
    | str j => obtain ⟨t', rfl⟩ := ry; exact ne_str (fin_bl I q (congrArg not dec_str))
    | _ => exact absurd (show false = true from hs) Bool.false_ne_true
  | byt i =>
    obtain ⟨t, rfl⟩ := rx
    cases y with
    | byt j => obtain ⟨t', rfl⟩ := ry; exact PySem.W.ne_bytes (fin_bl I q (congrArg not dec_byt))
    | _ => exact absurd (show false = true from hs) Bool.false_ne_true
  | _ => cases y <;> exact absurd (show false = true from hs) Bool.false_ne_true

theorem op_lt : OpR X (compareOp .Lt) (rI0 fun i j => .bl (decide (i < j))) := opB0 fun _ _ _ _ _ _ _ q => lt_int q
theorem op_gt : OpR X (compareOp .Gt) (rI0 fun i j => .bl (decide (j < i))) := opB0 fun _ _ _ _ _ _ _ q => gt_int q
theorem op_ge : OpR X (compareOp .GtE) (rI0 fun i j => .bl (decide (j ≤ i))) := opB0 fun _ _ _ _ _ _ _ q => ge_int q


/-- is, is not of two objects that are tracked lists or instances -/
def isObj : HO → Bool
  | .lst _ => true
  | .ins _ _ _ => true
  | _ => false


theorem nomark (b : Expr) {op : CmpOp} (h : op ≠ .In := by decide) (h2 : op ≠ .NotIn := by decide) : behindInMarks op b = false := by
  have e1 : (op == CmpOp.In) = false := by cases op <;> first | rfl | exact absurd rfl h
  have e2 : (op == CmpOp.NotIn) = false := by cases op <;> first | rfl | exact absurd rfl h2
  cases b <;> simp [behindInMarks, e1, e2]
/-- a comparison as a value; hm: nomark b, or (for in, not in) by with_unfolding_all rfl -/
theorem pe_cmpR {op : CmpOp} {r : R2} (ho : OpR X (compareOp op) r) (ha : PE X a ta) (hb : PE X b tb) (hm : behindInMarks op b = false) : PE X (.Compare a [op] [b] pos) (tOp r ta tb) := by
  intro pins s σ H Q I h
  exact wpAny_Compare1 (binT ha hb I h fun v u s2 x y H2 I2 rx ry q => ho pins s2 σ H2 x y v u Q I2 rx ry q) hm
/-- a reading of a value as a test -/
def tTest (t : TE) : TT := fun σ H Q => t σ H fun x H' => ∃ k, x = .bl k ∧ Q k H'
theorem pt_cmpR {op : CmpOp} {r : R2} (ho : OpR X (compareOp op) r) (ha : PE X a ta) (hb : PE X b tb) (hm : behindInMarks op b = false) : PT X (.Compare a [op] [b] pos) (tTest (tOp r ta tb)) := by
  intro pins s σ H Q I h
  refine wpAny_isTrue_Compare1 (thn (ha pins s σ H _ I h) fun v s1 ⟨x, H1, I1, r1, q1⟩ => thn (hb pins s1 σ H1 _ I1 q1) fun u s2 ⟨y, H2, I2, r2, q2⟩ =>
    thn (ho pins s2 σ H2 x y v u _ I2 r1 r2 q2) fun c s3 ⟨z, H3, I3, r3, k, e, q3⟩ => ?_) hm
  subst e
  cases r3
  exact wpAny_truthy_bool ⟨H3, I3, q3⟩

/-! ### truth -/
/-- a value's truth by the abstract heap -/
def TruV (K : PySem.W.Frag) (x : V) (H : Hp) (k : Bool) : Prop :=
  match x with
  | .non => k = false
  | .bl b => k = b
  | .int i => k = (i != 0)
  | .str y => y.length ≤ sizeLine ∧ k = ((y.length : Int) != 0)
  | .byt y => y.size ≤ sizeLine ∧ k = ((y.size : Int) != 0)
  | .ref p => (∃ xs, SqL K H p xs ∧ k = !xs.isEmpty) ∨ (∃ xs, SqT K H p xs ∧ k = !xs.isEmpty) ∨ ∃ kvs, H p = some (.dK kvs) ∧ k = !kvs.isEmpty
  | _ => False
theorem isEmpty_kv {κ : Type} {kvs : List (κ × V)} {vs : List (κ × Value)} (r : KV kvs vs) : (!vs.isEmpty) = !kvs.isEmpty := by
  cases r <;> rfl
theorem isEmpty_of {xs : List V} {its : List Value} (r : Vals xs its) : (!its.toArray.isEmpty) = !xs.isEmpty := by
  cases r <;> simp
theorem line63 : (sizeLine : Nat) < 2 ^ 63 := by rw [sizeLine_eq]; decide
theorem tru_ok : TruR X (fun x H Q => ∃ k, TruV X.K x H k ∧ Q k H) := by
  intro pins s σ H x v Q I rx h
  obtain ⟨k, e, q⟩ := h
  have hl := line63
  have hs : sizeLine = 16777216 := sizeLine_eq
  cases x with
  | non =>
    cases rx
    have e' : k = false := e
    subst e'
    exact truthy_none ⟨H, I, q⟩
  | bl b =>
    cases rx
    have e' : k = b := e
    subst e'
    exact wpAny_truthy_bool ⟨H, I, q⟩
  | int i =>
    obtain ⟨t, rfl⟩ := rx
    have e' : k = (i != 0) := e
    subst e'
    exact PySem.P.truthy_int ⟨H, I, q⟩
  | str y =>
    obtain ⟨t, rfl⟩ := rx
    obtain ⟨hy, e'⟩ : y.length ≤ sizeLine ∧ k = ((y.length : Int) != 0) := e
    subst e'
    exact PySem.P.truthy_str (by omega) ⟨H, I.tok _, q⟩
  | byt y =>
    obtain ⟨t, rfl⟩ := rx
    obtain ⟨hy, e'⟩ : y.size ≤ sizeLine ∧ k = ((y.size : Int) != 0) := e
    subst e'
    exact PySem.W.truthy_bytes (by omega) ⟨H, I.tok _, q⟩
  | ref p =>
    cases rx
    have e' : (∃ xs, SqL X.K H p xs ∧ k = !xs.isEmpty) ∨ (∃ xs, SqT X.K H p xs ∧ k = !xs.isEmpty) ∨ ∃ kvs, H p = some (.dK kvs) ∧ k = !kvs.isEmpty := e
    rcases e' with ⟨xs, hx, e'⟩ | ⟨xs, hx, e'⟩ | ⟨kvs, hx, e'⟩
    · subst e'
      obtain ⟨its, r, pl, hz⟩ := I.list hx
      have hlen := r.length
      exact wpAny_truthy_list pl.isList (by simp only [List.size_toArray]; omega) ⟨H, I.tok _, by rw [isEmpty_of r]; exact q⟩
    · subst e'
      obtain ⟨its, r, pl, hz⟩ := I.tuple hx
      have hlen := r.length
      exact truthy_tuple pl (by simp only [List.size_toArray]; omega) ⟨H, I.tok _, by rw [isEmpty_of r]; exact q⟩
    · subst e'
      obtain ⟨hz, hS, vs, r, m⟩ : kvs.length ≤ sizeLine ∧ (p == sysModules) = false ∧ ∃ vs, KV kvs vs ∧ s.heap.DictOf (mixKind X.prog X.w) p vs := I.hok p _ hx
      have hlen : kvs.length = vs.length := Paired.length r
      exact wpAny_truthy_dict hS m (by omega) ⟨H, I.tok _, by rw [isEmpty_kv r]; exact q⟩
  | _ => exact (show False from e).elim
/-- any expression whose test is its value's truth (a name, a call, a subscript, a field ..: he by fun _ => rfl) -/
theorem pt_truth (ha : PE X a ta) (he : ∀ whole, isTrue a X.env whole = (do let v ← whole; standAt a.pos; holding [v] (truthy v))) :
    PT X a (fun σ H Q => ta σ H fun x H' => ∃ k, TruV X.K x H' k ∧ Q k H') := by
  intro pins s σ H Q I h
  exact isTrue_plain (thn (ha pins s σ H _ I h) fun v s1 ⟨x, H1, I1, r1, q1⟩ => tru_ok pins s1 σ H1 x v Q I1 r1 q1) (he _)

/-! ### strs and bytes -/
theorem op_add_str : OpR X (binaryOp .Add) (fun x y H Q => ∃ i j, x = .str i ∧ y = .str j ∧ i.length + j.length ≤ sizeLine ∧ Q (.str (i ++ j)) H) := by
  intro pins s σ H x y v u Q I rx ry h
  obtain ⟨i, j, rfl, rfl, hz, q⟩ := h
  obtain ⟨t, rfl⟩ := rx
  obtain ⟨t', rfl⟩ := ry
  exact add_str (fun t' tk => ⟨.str (i ++ j), H, I.tok _, ⟨_, rfl⟩, q⟩) hz


/-! ### scalar builtins, by CallR -/
theorem vals1 {x : V} {us : List Value} (r : Vals [x] us) : ∃ u, us = [u] ∧ RelV x u := by
  cases r with
  | cons r1 r2 => cases r2; exact ⟨_, rfl, r1⟩
theorem vals2 {x y : V} {us : List Value} (r : Vals [x, y] us) : ∃ u w', us = [u, w'] ∧ RelV x u ∧ RelV y w' := by
  cases r with
  | cons r1 r2 =>
    cases r2 with
    | cons r3 r4 => cases r4; exact ⟨_, _, rfl, r1, r3⟩
theorem call_abs : CallR X (.builtin "abs") (fun xs H Q => ∃ i, xs = [.int i] ∧ Q (.int (if i < 0 then -i else i)) H) := by
  intro pins s σ H xs us Q I r h
  obtain ⟨i, rfl, q⟩ := h
  obtain ⟨u, rfl, t, rfl⟩ := vals1 r
  exact call_abs_int fun u tk => ⟨.int (if i < 0 then -i else i), H, I.tok _, ⟨_, rfl⟩, q⟩
theorem call_int1 : CallR X (.type "int") (fun xs H Q => (∃ i, xs = [.int i] ∧ Q (.int i) H) ∨ ∃ k, xs = [.bl k] ∧ Q (.int (if k then 1 else 0)) H) := by
  intro pins s σ H xs us Q I r h
  rcases h with ⟨i, rfl, q⟩ | ⟨k, rfl, q⟩
  · obtain ⟨u, rfl, t, rfl⟩ := vals1 r
    exact call_int_int ⟨.int i, H, I, ⟨_, rfl⟩, q⟩
  · obtain ⟨u, rfl, r1⟩ := vals1 r
    cases r1
    exact call_int_bool ⟨.int (if k then 1 else 0), H, I.tok _, ⟨_, rfl⟩, q⟩
theorem call_str_int : CallR X (.type "str") (fun xs H Q => ∃ i, xs = [.int i] ∧ i.natAbs.log2 < 1920 ∧ Q (.str (toString i)) H) := by
  intro pins s σ H xs us Q I r h
  obtain ⟨i, rfl, hz, q⟩ := h
  obtain ⟨u, rfl, t, rfl⟩ := vals1 r
  exact PySem.P.str_of_int hz ⟨.str _, H, I.tok _, ⟨_, rfl⟩, q⟩
end
end L2

namespace L2
open PySem PySem.Spec PyProof.Rows

/-! ### an instance, its attributes a map -/
structure ObjM (h : Heap) (x dx C : Addr) (mA : Str → Option Value) : Prop where
  obj : h.get? x = some (PySem.W.instObj C dx)
  ns : h.Ns1 dx mA
  ne : dx ≠ x

theorem lookIn_ns {h : Heap} {dx : Addr} {mA : Str → Option Value} (n : h.Ns1 dx mA) : ∃ od, h.get? dx = some od ∧ ∀ name, PySem.W.lookIn name od = some (mA name) := by
  obtain ⟨o, es, ep, ho, hd, hk, _, hm⟩ := n
  refine ⟨o, ho, fun name => ?_⟩
  have e := hm name
  unfold nsFind findBy at e
  rw [← Array.find?_toList] at e
  unfold PySem.W.lookIn
  rw [hd]
  dsimp only
  split
  · rename_i y q
    rw [q] at e
    exact congrArg some e
  · rename_i q
    rw [q] at e
    have a : es.toList.any (·.refKey) = false := by
      rw [List.any_eq_false]
      intro y hy
      obtain ⟨z, t, hkey⟩ := hk y (Array.mem_toList_iff.mp hy)
      simp [DictEntry.refKey, hkey]
    have a' : ¬ es.toList.any (·.refKey) = true := by rw [a]; exact Bool.false_ne_true
    rw [if_neg a']
    exact congrArg some e

theorem ObjM.look {h : Heap} {x dx C : Addr} {mA : Str → Option Value} (I : ObjM h x dx C mA) : ∃ od, PySem.W.InstAt h x (PySem.W.instObj C dx) C (some od) ∧ ∀ name, PySem.W.lookIn name od = some (mA name) :=
  let ⟨od, ho, hl⟩ := lookIn_ns I.ns
  ⟨od, ⟨I.obj, rfl, rfl, ho⟩, hl⟩

section
variable {prog : Program} {w : World} {A : Around} {E : Value → Shared → Prop} {s : Shared} {K : PySem.W.Frag} {x dx C f : Addr} {mA : Str → Option Value} {name : Str} {v : Value}

theorem get_map {expr : Bool} {Q : Value → Shared → Prop} (X : K.In s.heap) (I : ObjM s.heap x dx C mA) (hg : PySem.W.plainGet K C name = true) (hh : PySem.W.hasDictIn K C = true)
    (ha : PySem.W.findIn K (.ref C) name = some none) (hv : mA name = some v) (hv' : PySem.W.handedIn v = true) (h : Q v { s with toks := s.toks + 1 }) :
    wpAny (model prog w) A (getAttr (.ref x) name expr) Q E s := by
  obtain ⟨od, J, hl⟩ := I.look
  exact PySem.W.get_value X J (PySem.W.plainGet_of hg).1 (PySem.W.findObj_own hh ha rfl (by rw [hl, hv])) hv' h


theorem get_meth {pl : Sem Bool} {Q : Value × List Value → Shared → Prop} (X : K.In s.heap) (I : ObjM s.heap x dx C mA) (hg : PySem.W.plainGet K C name = true)
    (hf : PySem.W.findIn K (.ref C) name = some (some (.ref f))) (ht : PySem.W.isFn K (.ref f) = true) (hv : mA name = none) (h : Q (.ref f, [.ref x]) s) :
    wpAny (model prog w) A (getMethod (.ref x) name pl) Q E s := by
  obtain ⟨od, J, hl⟩ := I.look
  exact PySem.W.method_fn X J (PySem.W.plainGet_of hg).1 (PySem.W.plainGet_of hg).2 hf (beq_iff_eq.mp ht) (by show (PySem.W.lookIn name od).map (·.isSome) = some false; rw [hl, hv]; rfl) h

theorem set_map {ns : List Str} {Q : Unit → Shared → Prop} (X : K.In s.heap) (I : ObjM s.heap x dx C mA)
    (hs : PySem.W.findIn K (.ref C) "__setattr__" = some (some (.builtin "object.__setattr__"))) (hp : PySem.W.plainOver K C = true) (ht : PySem.W.takerIn K C name = some none) (hh : PySem.W.hasDictIn K C = true)
    (hw : PySem.Within mA ns) (hsz : ns.length ≤ sizeLine)
    (h : ∀ h', ObjM h' x dx C (fun y => if y = name then some v else mA y) → Heap.SameBut dx s.heap h' → Q () { s with heap := h', toks := s.toks + 2 }) :
    wpAny (model prog w) A (setAttr (.ref x) name v) Q E s := by
  obtain ⟨od, J, hl⟩ := I.look
  refine PySem.W.set_plain X J hs (PySem.W.osa_open (s := { s with toks := s.toks + 1 }) (r := none) X J hp ht fun b => ?_)
  obtain ⟨cd, hc, hd'⟩ := PySem.W.any_some hh
  have hx : s.heap.get? x = some ⟨.ref C, some dx, .plain, #[]⟩ := I.obj
  refine wpAny_bind (wpAny_pure (wpAny_bind (wpAny_bind (wpAny_loadPart hx (wpAny_bind (PySem.W.Looks.here (s := { s with toks := s.toks + 1 }) (PySem.W.looks_clsIn X hc) ?_))))))
  rw [hd']
  refine wpAny_pure (a := some dx) (wpAny_bind (wpAny_pure (wpAny_bind ?_)))
  refine wpAny_nsSet1 (s := { s with toks := s.toks + 1 }) I.ns fun h' hn2 hs2 => ?_
  obtain ⟨oD, esD, epD, hoD, hdD, hcD⟩ := hn2.count (PySem.Within.cons name v hw)
  refine wpAny_bind (wpAny_lookBehind hoD (by rw [hdD]; exact pastItsLine_dict (Nat.le_trans hcD (by rw [List.length_cons]; omega))) ?_)
  exact wpAny_pure (h _ ⟨(hs2.2 _ (Ne.symm I.ne)).trans I.obj, hn2, I.ne⟩ hs2)

/-- C(..): the dict at the heap's end, the instance behind it; then its __init__ -/
theorem make_map {R : Result → Shared → Prop} {vs : List Value} {kw : List (Str × Value)} (X : K.In s.heap) (hm : PySem.W.makesIn K C = true)
    (hi : PySem.W.findIn K (.ref C) "__init__" = some (some (.ref f))) (hf : PySem.W.typeIn K (.ref f) = some (.type "function"))
    (h : codeAny (model prog w) (A.under (.builtin "type.__call__" ⟨.ref C :: vs, kw⟩)) (.call (.ref f) ⟨.ref (s.heap.objs.size + 1) :: vs, kw⟩) (PySem.W.InitBack (s.heap.objs.size + 1) R)
      { s with heap := (s.heap.push PySem.W.emptyDict).push (PySem.W.instObj C s.heap.objs.size) }) :
    codeAny (model prog w) A (.call (.ref C) ⟨vs, kw⟩) R s := by
  obtain ⟨hh, g, d, t, os⟩ := s
  exact PySem.W.make_core (PySem.W.makes_of X hm) (PySem.W.looks_findIn X hi) (fun self => PySem.W.bind_fn X self hf) (.inl rfl) h
end

/-! ### the attributes as a list of pairs -/
def putF (f : Str) (v : V) : List (Str × V) → List (Str × V)
  | [] => [(f, v)]
  | (g, x) :: r => if g = f then (g, v) :: r else (g, x) :: putF f v r
theorem lookup_putF (f g : Str) (v : V) : ∀ fs : List (Str × V), (putF f v fs).lookup g = if g = f then some v else fs.lookup g
  | [] => by
    show List.lookup g [(f, v)] = _
    by_cases h : g = f
    · have hb : (g == f) = true := beq_iff_eq.mpr h
      simp only [List.lookup, hb, if_pos h]
    · have hb : (g == f) = false := beq_eq_false_iff_ne.mpr h
      simp only [List.lookup, hb, if_neg h]
  | (k, x) :: r => by
    have ih := lookup_putF f g v r
    rw [show putF f v ((k, x) :: r) = (if k = f then (k, v) :: r else (k, x) :: putF f v r) from rfl]
    by_cases hk : k = f
    · rw [if_pos hk]
      by_cases h : g = k
      · have hb : (g == k) = true := beq_iff_eq.mpr h
        simp only [List.lookup, hb, if_pos (h.trans hk)]
      · have hb : (g == k) = false := beq_eq_false_iff_ne.mpr h
        simp only [List.lookup, hb, if_neg (fun e : g = f => h (e.trans hk.symm))]
    · rw [if_neg hk]
      by_cases h : g = k
      · have hb : (g == k) = true := beq_iff_eq.mpr h
        simp only [List.lookup, hb, if_neg (fun e : g = f => hk (h.symm.trans e))]
      · have hb : (g == k) = false := beq_eq_false_iff_ne.mpr h
        simp only [List.lookup, hb]
        exact ih
theorem keys_putF (f : Str) (v : V) : ∀ fs : List (Str × V), f ∈ (putF f v fs).map (·.1) ∧ ∀ g, g ∈ fs.map (·.1) → g ∈ (putF f v fs).map (·.1)
  | [] => ⟨by simp [putF], fun g h => by simp at h⟩
  | (k, x) :: r => by
    obtain ⟨i1, i2⟩ := keys_putF f v r
    rw [show putF f v ((k, x) :: r) = (if k = f then (k, v) :: r else (k, x) :: putF f v r) from rfl]
    by_cases hk : k = f
    · rw [if_pos hk]
      subst hk
      exact ⟨by simp, fun g h => by simpa using h⟩
    · rw [if_neg hk]
      refine ⟨?_, fun g h => ?_⟩
      · rw [List.map_cons]
        exact List.mem_cons_of_mem _ i1
      · rw [List.map_cons] at h ⊢
        rcases List.mem_cons.mp h with e | e
        · exact List.mem_cons.mpr (.inl e)
        · exact List.mem_cons_of_mem _ (i2 g e)
theorem length_putF (f : Str) (v : V) : ∀ fs : List (Str × V), (putF f v fs).length ≤ fs.length + 1
  | [] => by simp [putF]
  | (k, x) :: r => by
    have ih := length_putF f v r
    rw [show putF f v ((k, x) :: r) = (if k = f then (k, v) :: r else (k, x) :: putF f v r) from rfl]
    by_cases hk : k = f
    · rw [if_pos hk, List.length_cons, List.length_cons]; omega
    · rw [if_neg hk, List.length_cons, List.length_cons]; omega

theorem RelO.some_of {v : V} {o : Option Value} (r : RelO (some v) o) : ∃ u, o = some u ∧ RelV v u := by
  cases o with
  | none => exact (show False from r).elim
  | some u => exact ⟨u, rfl, r⟩
theorem RelO.none_of {o : Option Value} (r : RelO none o) : o = none := by
  cases o with
  | none => rfl
  | some u => exact (show False from r).elim
theorem handed_of {v : V} {u : Value} (r : RelV v u) : PySem.W.handedIn u = true := by
  cases v with
  | non => cases (show u = Value.none from r); rfl
  | bl b => cases (show u = Value.bool b from r); rfl
  | int i => obtain ⟨t, e⟩ := (show ∃ t, u = Value.int i t from r); cases e; rfl
  | str x => obtain ⟨t, e⟩ := (show ∃ t, u = Value.str x t from r); cases e; rfl
  | byt b => obtain ⟨t, e⟩ := (show ∃ t, u = Value.bytes b t from r); cases e; rfl
  | flt b => obtain ⟨t, e⟩ := (show ∃ t, u = Value.float b t from r); cases e; rfl
  | ref a => cases (show u = Value.ref a from r); rfl
  | ty n => cases (show u = Value.type n from r); rfl

section
variable {P : Program} {w : World} {H H' : Hp} {h h' : Heap} {a C dx : Addr} {fs fs' : List (Str × V)}
theorem ins_get (hok : HOk P w H h) (e : H a = some (.ins C dx fs)) : ∃ mA, ObjM h a dx C mA ∧ (∀ f, RelO (fs.lookup f) (mA f)) ∧ PySem.Within mA (fs.map (·.1)) ∧ fs.length ≤ 1000 ∧ H dx = some (.own a) := by
  obtain ⟨d, z, ne, ob, mA, n, r, q⟩ := (show ObjOk P w H h a (.ins C dx fs) from hok a _ e)
  exact ⟨mA, ⟨ob, n, ne⟩, r, q, z, d⟩
end

/-! ### what of the text a class must have -/
structure Cls (K : PySem.W.Frag) (C : Addr) : Prop where
  pg : PySem.W.plainGet K C Str.empty = true
  hd : PySem.W.hasDictIn K C = true
  po : PySem.W.plainOver K C = true
  sa : PySem.W.findIn K (.ref C) "__setattr__" = some (some (.builtin "object.__setattr__"))
theorem Cls.get {K : PySem.W.Frag} {C : Addr} (c : Cls K C) (f : Str) : PySem.W.plainGet K C f = true := c.pg
/-- no class of it has the name -/
def NoAttr (K : PySem.W.Frag) (C : Addr) (f : Str) : Prop := PySem.W.findIn K (.ref C) f = some none
theorem NoAttr.taker {K : PySem.W.Frag} {C : Addr} {f : Str} (n : NoAttr K C f) : PySem.W.takerIn K C f = some none := by
  unfold PySem.W.takerIn
  rw [show PySem.W.findIn K (.ref C) f = some none from n]
  rfl
/-- a method: a plain def of the class or of one above it -/
structure Meth (K : PySem.W.Frag) (C : Addr) (m : Str) (f : Addr) : Prop where
  at_ : PySem.W.findIn K (.ref C) m = some (some (.ref f))
  fn : PySem.W.isFn K (.ref f) = true
  kp : PySem.W.keepIn K (.ref f) = true

section
variable {X : Cx} {pins : List (Addr × Obj)} {σ : St} {H : Hp} {s : Shared} {a C dx : Addr} {fs : List (Str × V)} {f : Str} {v : V} {A : Around} {E : Value → Shared → Prop}

theorem getattr_ok {b : Bool} {Q : Value → Shared → Prop} (I : Inv X pins σ H s) (e : H a = some (.ins C dx fs)) (c : Cls X.K C) (n : NoAttr X.K C f) (l : fs.lookup f = some v)
    (h : ∀ u s', Inv X pins σ H s' → RelV v u → Q u s') : wpAny (model X.prog X.w) A (getAttr (.ref a) f b) Q E s := by
  obtain ⟨mA, O, r, _, _, _⟩ := ins_get I.hok e
  obtain ⟨u, hu, ru⟩ := RelO.some_of (v := v) (o := mA f) (by rw [← l]; exact r f)
  exact get_map I.kIn O (c.get f) c.hd n hu (handed_of ru) (h u _ (I.tok _) ru)


theorem getmeth_ok {m : Str} {g : Addr} {pl : Sem Bool} {Q : Value × List Value → Shared → Prop} (I : Inv X pins σ H s) (e : H a = some (.ins C dx fs)) (c : Cls X.K C) (k : Meth X.K C m g) (l : fs.lookup m = none)
    (h : Q (.ref g, [.ref a]) s) : wpAny (model X.prog X.w) A (getMethod (.ref a) m pl) Q E s := by
  obtain ⟨mA, O, r, _, _, _⟩ := ins_get I.hok e
  have hn : mA m = none := RelO.none_of (by rw [← l]; exact r m)
  exact get_meth I.kIn O (c.get m) k.at_ k.fn hn h

theorem setattr_ok {y : V} {u : Value} {Q : Unit → Shared → Prop} (I : Inv X pins σ H s) (e : H a = some (.ins C dx fs)) (c : Cls X.K C) (n : NoAttr X.K C f) (hl : fs.length < 1000) (ry : RelV y u)
    (h : ∀ s', Inv X pins σ (upd H a (.ins C dx (putF f y fs))) s' → Q () s') : wpAny (model X.prog X.w) A (setAttr (.ref a) f u) Q E s := by
  obtain ⟨mA, O, r, wi, _, ho⟩ := ins_get I.hok e
  have hz : (fs.map (·.1)).length ≤ sizeLine := by rw [List.length_map, sizeLine_eq]; omega
  refine set_map I.kIn O c.sa c.po n.taker c.hd wi hz fun h' O' sb => h _ ?_
  have hd : ∃ o, h'.get? dx = some o := let ⟨o, _, _, e', _⟩ := O'.ns; ⟨o, e'⟩
  refine I.write (x := a) (e := dx) (by rw [e]; exact True.intro) (.inr ho) (fun b q hb z => (sb.2 b hb).trans z) hd ?_
  refine ⟨by rw [upd_ne O.ne]; exact ho, ?_, O.ne, O'.obj, _, O'.ns, fun g => ?_, fun g hg => ?_⟩
  · have := length_putF f y fs; omega
  · show RelO ((putF f y fs).lookup g) (if g = f then some u else mA g)
    rw [lookup_putF]
    by_cases q : g = f
    · rw [if_pos q, if_pos q]; exact ry
    · rw [if_neg q, if_neg q]; exact r g
  · by_cases q : g = f
    · rw [q]; exact (keys_putF f y fs).1
    · refine (keys_putF f y fs).2 g (wi g fun z => hg ?_)
      show (if g = f then some u else mA g) = none
      rw [if_neg q]; exact z

/-- a new instance, tracked, without attributes -/
theorem Inv.made (I : Inv X pins σ H s) : Inv X pins σ (upd (upd H s.heap.objs.size (.own (s.heap.objs.size + 1))) (s.heap.objs.size + 1) (.ins C s.heap.objs.size []))
    { s with heap := (s.heap.push PySem.W.emptyDict).push (PySem.W.instObj C s.heap.objs.size) } := by
  have e1 : (s.heap.push PySem.W.emptyDict).get? s.heap.objs.size = some PySem.W.emptyDict := Heap.get?_push_size s.heap rfl
  have e2 : ((s.heap.push PySem.W.emptyDict).push (PySem.W.instObj C s.heap.objs.size)).get? (s.heap.objs.size + 1) = some (PySem.W.instObj C s.heap.objs.size) := by
    have := Heap.get?_push_size (s.heap.push PySem.W.emptyDict) (o := PySem.W.instObj C s.heap.objs.size) rfl
    rwa [Heap.size_push] at this
  have e3 : (s.heap.push PySem.W.emptyDict).Ns s.heap.objs.size (fun _ => none) := ⟨PySem.W.emptyDict, #[], _, e1, rfl, (fun e he => absurd he (by simp)), fun _ => rfl⟩
  have I1 := I.laid (a := s.heap.objs.size) (o := .own (s.heap.objs.size + 1)) (h' := s.heap.push PySem.W.emptyDict) (t' := s.toks) (fun b u q => Heap.get?_push_of_some _ q) (Nat.le_refl _) ⟨_, e1⟩
  refine I1.laid (a := s.heap.objs.size + 1) (o := .ins C s.heap.objs.size []) (t' := s.toks) (fun b u q => Heap.get?_push_of_some _ q) (Nat.le_of_eq (Heap.size_push _ _)) ?_
  have ne : s.heap.objs.size ≠ s.heap.objs.size + 1 := Nat.ne_of_lt (Nat.lt_succ_self _)
  refine ⟨by rw [upd_ne ne, upd_same], Nat.zero_le _, ne, e2, fun _ => none, (Heap.Ns1.of_empty e3).at fun o q => Heap.get?_push_of_some _ q, fun _ => True.intro, fun y hy => absurd rfl hy⟩

/-- e.f where nothing but the object is asked: through attributeBase (super) and the last hold -/
theorem attr_of {prog : Program} {w : World} {env : Env} {e : Expr} {f : Str} {pos : Pos} {s : Shared} {Q : Value → Shared → Prop} (hb : attributeBase e f env (eval e env) = eval e env)
    (h : wpAny (model prog w) A (eval e env) (fun o s₁ => wpAny (model prog w) A (getAttr o f true) Q E s₁) E s) : wpAny (model prog w) A (eval (.Attribute e f pos) env) Q E s :=
  Attribute_any_ h (by rw [arm_eval_Attribute, hb])
end

/-! ### readings and rules -/
/-- e.f, an attribute of the instance -/
def tFld (K : PySem.W.Frag) (ta : TE) (f : Str) : TE := fun σ H Q => ta σ H fun x H1 => ∃ a C dx fs v, x = .ref a ∧ H1 a = some (.ins C dx fs) ∧ Cls K C ∧ NoAttr K C f ∧ fs.lookup f = some v ∧ Q v H1
/-- e.f = value -/
def sFld (K : PySem.W.Frag) (ta tv : TE) (f : Str) : TS := fun D σ H => tv σ H fun y H1 => ta σ H1 fun x H2 => ∃ a C dx fs, x = .ref a ∧ H2 a = some (.ins C dx fs) ∧ Cls K C ∧ NoAttr K C f ∧ fs.length < 1000 ∧
  D.nx σ (upd H2 a (.ins C dx (putF f y fs)))
/-- an augmented operator on two values -/
def InOp (X : Cx) (op : Operator) (rd : V → V → Hp → VK → Prop) : Prop :=
  ∀ (pins : List (Addr × Obj)) (s : Shared) (σ : St) (H : Hp) (x y : V) (u v : Value) (Q : VK), Inv X pins σ H s → RelV x u → RelV y v → rd x y H Q → wpAny (model X.prog X.w) X.A (inplaceOp op u v) (EP X pins σ Q) X.xe s
/-- e.f op= value -/
def sFldAug (K : PySem.W.Frag) (ta tv : TE) (rd : V → V → Hp → VK → Prop) (f : Str) : TS := fun D σ H => ta σ H fun x H1 => ∃ a C dx fs v, x = .ref a ∧ H1 a = some (.ins C dx fs) ∧ Cls K C ∧ NoAttr K C f ∧ fs.lookup f = some v ∧
  tv σ H1 fun y H2 => rd v y H2 fun z H3 => ∃ dx' fs', H3 a = some (.ins C dx' fs') ∧ fs'.length < 1000 ∧ D.nx σ (upd H3 a (.ins C dx' (putF f z fs')))

section
variable {X : Cx} {o e value : Expr} {f : Str} {pos pos' tpos : Pos} {ta tv : TE}
theorem pe_fld (he : PE X e ta) (hb : attributeBase e f X.env (eval e X.env) = eval e X.env) : PE X (.Attribute e f pos) (tFld X.K ta f) := by
  intro pins s σ H Q I h
  refine attr_of hb (thn (he pins s σ H _ I h) fun u s1 ⟨x, H1, I1, rx, a, C, dx, fs, v, ex, ea, c, n, l, q⟩ => ?_)
  subst ex
  obtain rfl : u = Value.ref a := rx
  exact getattr_ok I1 ea c n l fun u' s2 I2 ru => ⟨v, H1, I2, ru, q⟩
theorem ps_fld (ha : PE X o ta) (hv : PE X value tv) (hs : swapsWith value (some (.Attribute o f pos')) pos.line X.env = pure false) : PS X (.Assign [.Attribute o f pos'] value pos) (sFld X.K ta tv f) := by
  intro pins s σ H D I h
  refine plainObj_wpAny_Assign_Attribute (thn (hv pins s σ H _ I h) fun u s1 ⟨y, H1, I1, ry, q⟩ => thn (ha pins s1 σ H1 _ I1 q) fun ov s2 ⟨x, H2, I2, rx, a, C, dx, fs, ex, ea, c, n, l, q2⟩ => ?_) hs
  subst ex
  obtain rfl : ov = Value.ref a := rx
  exact setattr_ok I2 ea c n l ry fun s3 I3 => ⟨σ, _, I3, q2⟩
theorem ps_fldaug {op : Operator} {rd : V → V → Hp → VK → Prop} (ha : PE X o ta) (hv : PE X value tv) (hop : InOp X op rd) : PS X (.AugAssign (.Attribute o f tpos) op value pos) (sFldAug X.K ta tv rd f) := by
  intro pins s σ H D I h
  refine wpAny_AugAssign_AttributeAny (thn (ha pins s σ H _ I h) fun ov s1 ⟨x, H1, I1, rx, a, C, dx, fs, v, ex, ea, c, n, l, q⟩ => ?_)
  subst ex
  obtain rfl : ov = Value.ref a := rx
  refine getattr_ok I1 ea c n l fun u s2 I2 ru => thn (hv pins s2 σ H1 _ I2 q) fun w3 s3 ⟨y, H2, I3, ry, q3⟩ => thn (hop pins s3 σ H2 v y u w3 _ I3 ru ry q3) fun w4 s4 ⟨z, H3, I4, rz, dx', fs', ea', l', q4⟩ => ?_
  exact setattr_ok I4 ea' c n l' rz fun s5 I5 => ⟨σ, _, I5, q4⟩
def rAdd : V → V → Hp → VK → Prop := fun x y H Q => ∃ i j, x = .int i ∧ y = .int j ∧ Q (.int (i + j)) H
theorem in_add : InOp X .Add rAdd := by
  rintro pins s σ H x y u v Q I rx ry ⟨i, j, rfl, rfl, q⟩
  obtain ⟨t, rfl⟩ := (show ∃ t, u = Value.int i t from rx)
  obtain ⟨t', rfl⟩ := (show ∃ t', v = Value.int j t' from ry)
  exact PyProof.Rows.iadd_int ⟨.int (i + j), H, I.tok _, ⟨_, rfl⟩, q⟩

/-- what is between an instance and its method: the tree of a method call -/
theorem methcall_of {pl : Sem Bool} {m : Str} {apos : Pos} {args : List Expr} {pins : List (Addr × Obj)} {s : Shared} {σ : St} {H : Hp} {Q : Value → Shared → Prop} {te : TE} (he : PE X e te) (I : Inv X pins σ H s)
    (h : te σ H fun x H1 => ∃ a C dx fs g, x = .ref a ∧ H1 a = some (.ins C dx fs) ∧ Cls X.K C ∧ Meth X.K C m g ∧ fs.lookup m = none ∧
      ∀ s1, Inv X pins σ H1 s1 → wpAny (model X.prog X.w) X.A (callWith pos (.ref g) [.ref a] (backTo pos (starEach args X.env)) (backToKw pos (keywordEach [] X.env))) Q X.xe s1)
    (ht : eval (.Call (.Attribute e m apos) args [] pos) X.env = (do
      let ov ← eval e X.env
      standAt apos.atName
      let (f, first) ← holding [ov] (getMethod ov m pl)
      callWith pos f first (backTo pos (starEach args X.env)) (backToKw pos (keywordEach [] X.env)))) :
    wpAny (model X.prog X.w) X.A (eval (.Call (.Attribute e m apos) args [] pos) X.env) Q X.xe s := by
  refine PySem.W.methodCall_KW (pl := pl) (thn (he pins s σ H _ I h) fun u s1 ⟨x, H1, I1, rx, a, C, dx, fs, g, ex, ea, c, k, l, q⟩ => ?_) ht
  subst ex
  obtain rfl : u = Value.ref a := rx
  exact getmeth_ok I1 ea c k l (q s1 I1)
end

/-! ### isinstance -/
section
variable {X : Cx} {pins : List (Addr × Obj)} {σ : St} {H : Hp} {s : Shared} {A : Around} {E : Value → Shared → Prop} {Q : Value → Shared → Prop} {c : Value} {b : Bool}
/-- the type of a value, as the fragment's deciders take it; for an instance its class -/
inductive TyOf (K : PySem.W.Frag) (H : Hp) : V → Value → Prop where
  | non : TyOf K H .non (.type "NoneType")
  | bl (x : Bool) : TyOf K H (.bl x) (.type "bool")
  | int (i : Int) : TyOf K H (.int i) (.type "int")
  | str (x : Str) : TyOf K H (.str x) (.type "str")
  | flt (x : UInt64) : TyOf K H (.flt x) (.type "float")
  | lst {a : Addr} {xs : List V} (e : H a = some (.lst xs)) : TyOf K H (.ref a) (.type "list")
  | frz {a : Addr} {o : Obj} {xs : List V} (e : H a = some (.frz o (.lst xs))) : TyOf K H (.ref a) (.type "list")
  | tup {a : Addr} {xs : List V} (e : H a = some (.tup xs)) : TyOf K H (.ref a) (.type "tuple")
  | dK {a : Addr} {kvs : List (Key × V)} (e : H a = some (.dK kvs)) : TyOf K H (.ref a) (.type "dict")
  | dT {a : Addr} {kvs : List (List Key × V)} (e : H a = some (.dT kvs)) : TyOf K H (.ref a) (.type "dict")
  | ins {a C dx : Addr} {fs : List (Str × V)} (e : H a = some (.ins C dx fs)) (cl : Cls K C) (ha : PySem.W.findIn K (.ref C) "__class__" = some (some (.builtin "object.__class__")))
      (hn : PySem.W.specialIn K (.builtin "object.__class__") "__get__" = some (some (.builtin "getset_descriptor.__get__"))) (htk : PySem.W.takesIn K (.builtin "object.__class__") = some true)
      (hm : PySem.W.mroIn K C (.type "object") = some true) : TyOf K H (.ref a) (.ref C)
/-- isinstance(x, c) for one class c, a built-in or an own one: kitOne's answer -/
theorem isinst_ok {x : V} {u t : Value} (I : Inv X pins σ H s) (rx : RelV x u) (ty : TyOf X.K H x t) (e : PySem.W.kitOne X.K t c = some b) (h : ∀ tk, Q (.bool b) { s with toks := tk }) :
    wpAny (model X.prog X.w) A (call (.builtin "isinstance") [u, c]) Q E s := by
  cases ty with
  | non => cases (show u = Value.none from rx); exact PySem.W.kia_one PySem.W.kitx_none I.kIn True.intro e (fun z => nomatch z) h
  | bl y => cases (show u = Value.bool y from rx); exact PySem.W.kia_one PySem.W.kitx_bool I.kIn True.intro e (fun z => nomatch z) h
  | int i => obtain ⟨t, q⟩ := (show ∃ t, u = Value.int i t from rx); cases q; exact PySem.W.kia_one PySem.W.kitx_int I.kIn True.intro e (fun z => nomatch z) h
  | str y => obtain ⟨t, q⟩ := (show ∃ t, u = Value.str y t from rx); cases q; exact PySem.W.kia_one PySem.W.kitx_str I.kIn True.intro e (fun z => nomatch z) h
  | flt y => obtain ⟨t, q⟩ := (show ∃ t, u = Value.float y t from rx); cases q; exact PySem.W.kia_one PySem.W.kitx_float I.kIn True.intro e (fun z => nomatch z) h
  | @lst a xs ea =>
    cases (show u = Value.ref a from rx)
    obtain ⟨_, _, n, _, h1⟩ := (show ObjOk X.prog X.w H s.heap a (.lst xs) from I.hok a _ ea)
    exact PySem.W.kia_one PySem.W.kitx_list I.kIn ⟨_, h1, rfl⟩ e (fun z => nomatch z) h
  | @frz a ob xs ea =>
    cases (show u = Value.ref a from rx)
    obtain ⟨_, _, _, n, _, h1⟩ := (show ObjOk X.prog X.w H s.heap a (.frz ob (.lst xs)) from I.hok a _ ea)
    exact PySem.W.kia_one PySem.W.kitx_list I.kIn ⟨_, h1, rfl⟩ e (fun z => nomatch z) h
  | @tup a xs ea =>
    cases (show u = Value.ref a from rx)
    obtain ⟨_, _, _, p⟩ := (show ObjOk X.prog X.w H s.heap a (.tup xs) from I.hok a _ ea)
    obtain ⟨o, h1, h2, _⟩ := p
    exact PySem.W.kia_one PySem.W.kitx_tuple I.kIn ⟨o, h1, h2⟩ e (fun z => nomatch z) h
  | @dK a kvs ea =>
    cases (show u = Value.ref a from rx)
    obtain ⟨_, _, vs, _, p⟩ := (show ObjOk X.prog X.w H s.heap a (.dK kvs) from I.hok a _ ea)
    obtain ⟨o, es, ep, h1, h2, _⟩ := p
    exact PySem.W.kia_one PySem.W.kitx_dict I.kIn ⟨o, h1, h2.1⟩ e (fun z => nomatch z) h
  | @dT a kvs ea =>
    cases (show u = Value.ref a from rx)
    obtain ⟨_, _, xs, _, o, es, ep, h1, h2, _⟩ := (show ObjOk X.prog X.w H s.heap a (.dT kvs) from I.hok a _ ea)
    exact PySem.W.kia_one PySem.W.kitx_dict I.kIn ⟨o, h1, h2.1⟩ e (fun z => nomatch z) h
  | @ins a C dx fs ea cl ha hn htk hm =>
    cases (show u = Value.ref a from rx)
    obtain ⟨mA, O, _⟩ := ins_get I.hok ea
    obtain ⟨od, J, _⟩ := O.look
    exact PySem.W.kia_one (PySem.W.kitx_own (cl.get _) cl.hd ha hn htk hm) I.kIn J e (fun z => nomatch z) h
end
end L2

namespace L2
open PySem PySem.Spec PyProof.Rows

/-! ### room -/
structure Room (k : Nat) (A : Around) : Prop where
  hd : A.handled = none
  dp : A.depth + 3 * k + 5 < recursionLimit
  un : A.units + 16 * k + 200 < cLine
theorem Room.mono {j k : Nat} {A : Around} (r : Room k A) (h : j ≤ k) : Room j A := ⟨r.hd, by have := r.dp; omega, by have := r.un; omega⟩
theorem Room.deeper {k : Nat} {A : Around} (r : Room (k + 1) A) (env : Env) : Room k (A.deeper env) :=
  ⟨r.hd, by have := r.dp; show A.depth + 1 + 3 * k + 5 < _; omega, by have := r.un; show A.units + 3 + 16 * k + 200 < _; omega⟩
theorem make_depth {A : Around} {C : Addr} {us : List Value} {kw : List (Str × Value)} : (A.under (.builtin "type.__call__" ⟨.ref C :: us, kw⟩)).depth = A.depth + 1 := by
  first | rfl | simp [Around.under, Code.weight, Code.isCreation, Code.isGuard, Code.isCaller, Code.frames, Code.isFrame, guardIds]
theorem make_units {A : Around} {C : Addr} {us : List Value} {kw : List (Str × Value)} : (A.under (.builtin "type.__call__" ⟨.ref C :: us, kw⟩)).units = A.units + 1 := by
  first | rfl | simp [Around.under, Code.cUnits, Code.frames, Code.isFrame]
theorem Room.make {k : Nat} {A : Around} (r : Room (k + 1) A) (C : Addr) (us : List Value) (kw : List (Str × Value)) : Room k (A.under (.builtin "type.__call__" ⟨.ref C :: us, kw⟩)) :=
  ⟨r.hd, by have := r.dp; rw [make_depth]; omega, by have := r.un; rw [make_units]; omega⟩
theorem Room.depth {k : Nat} {A : Around} (r : Room k A) : A.depth < recursionLimit := by have := r.dp; omega
theorem Room.units0 {k : Nat} {A : Around} (r : Room k A) : A.units < cLine := by have := r.un; omega

/-! ### argument lists and displays -/
def tNil : TA := fun _ H Q => Q [] H
def tCons (ta : TE) (tr : TA) : TA := fun σ H Q => ta σ H fun x H1 => tr σ H1 fun xs H2 => Q (x :: xs) H2
section
variable {X : Cx} {e : Expr} {es : List Expr} {te : TE} {t : TA} {pos : Pos}
theorem pa_nil : PA X [] tNil := fun _ _ _ _ H Q I h => Calls.spliced_nil ⟨[], H, I, .nil, h⟩
theorem pa_cons (ha : PE X e te) (hr : PA X es t) (hs : starEach (e :: es) X.env = (false, eval e X.env) :: starEach es X.env := by rfl) : PA X (e :: es) (tCons te t) := by
  intro pos pins s σ H Q I h
  rw [hs]
  show wpAny _ _ (spliced ((false, eval e X.env) :: backTo pos (starEach es X.env))) _ _ s
  refine Calls.spliced_cons (thn (ha pins s σ H _ I h) fun u s1 ⟨x, H1, I1, r1, q1⟩ => ?_)
  exact thn (hr pos pins s1 σ H1 _ I1 q1) fun us s2 ⟨xs, H2, I2, r2, q2⟩ => ⟨x :: xs, H2, I2, .cons r1 r2, q2⟩

/-- a tuple, a list of written items -/
def tTup (t : TA) : TE := fun σ H Q => t σ H fun xs H1 => xs.length ≤ sizeLine ∧ ∀ p, H1 p = none → Q (.ref p) (upd H1 p (.tup xs))
def tLst (t : TA) : TE := fun σ H Q => t σ H fun xs H1 => xs.length ≤ sizeLine ∧ ∀ p, H1 p = none → Q (.ref p) (upd H1 p (.lst xs))
theorem pe_tup {x1} (h : PA X es t) : PE X (.Tuple es x1 pos) (tTup t) := by
  intro pins s σ H Q I hq
  refine wpAny_Tuple_spliced (thn (h pos pins s σ H _ I hq) fun us s1 ⟨xs, H1, I1, r, z, q⟩ => ⟨by rw [← r.length]; exact z, ?_⟩)
  have hf : H1 s1.heap.objs.size = none := I1.hok.fresh (Nat.le_refl _)
  refine ⟨.ref s1.heap.objs.size, upd H1 s1.heap.objs.size (.tup xs), I1.laid (t' := s1.toks) (fun b u e => Heap.get?_push_of_some _ e) (Nat.le_refl _) ?_, rfl, q _ hf⟩
  exact ⟨z, us, r, ⟨_, Heap.get?_push_size _ rfl, rfl, _, rfl⟩⟩
theorem pe_lst (h : PA X es t) : PE X (.List es pos) (tLst t) := by
  intro pins s σ H Q I hq
  refine wpAny_List_spliced (thn (h pos pins s σ H _ I hq) fun us s1 ⟨xs, H1, I1, r, z, q⟩ => ⟨by rw [← r.length]; exact z, ?_⟩)
  have hf : H1 s1.heap.objs.size = none := I1.hok.fresh (Nat.le_refl _)
  refine ⟨.ref s1.heap.objs.size, upd H1 s1.heap.objs.size (.lst xs), I1.laid (t' := s1.toks) (fun b u e => Heap.get?_push_of_some _ e) (Nat.le_refl _) ?_, rfl, q _ hf⟩
  exact ⟨z, us, 0, r, Heap.get?_push_size _ rfl⟩
end

/-! ### what a def promises -/
/-- a def's promise: the bound arguments in the parameters' order, the heap, the wanted end, the wanted exception -/
abbrev Sp := List V → Hp → VK → XK → Prop
/-- how an exception lies behind a call (file 08 gives it): the callers' frames, abstract heap and state ahead of the call, the wish, the exception, the state -/
abbrev CXT := List Env → Hp → Shared → XK → Value → Shared → Prop

/-- the state at a call -/
structure Env0 (P : Program) (w : World) (K : PySem.W.Frag) (mg : Str → Option Value) (base : Heap) (A : Around) (outer : List Env) (s : Shared) (H : Hp) : Prop where
  frames : A.frames = some outer
  mod : Mod K mg base
  bs : ∀ b o, base.get? b = some o → s.heap.get? b = some o ∧ H b = none
  bsz : base.objs.size ≤ s.heap.objs.size
  funs : s.heap.FunFrames base outer
  frf : ∀ b ∈ frs outer, H b = none
  hok : HOk P w H s.heap
  bare : AllBare s.gens
/-- a call's end -/
def CE (outer : List Env) (P : Program) (w : World) (H : Hp) (s : Shared) (Q : VK) (u : Value) (s' : Shared) : Prop :=
  ∃ v H', s'.os = s.os ∧ AllBare s'.gens ∧ Un (frs outer) [] H H' s.heap s'.heap ∧ HOk P w H' s'.heap ∧ RelV v u ∧ Q v H'
def CR (CX : CXT) (outer : List Env) (P : Program) (w : World) (H : Hp) (s : Shared) (Q : VK) (E : XK) (r : Result) (s' : Shared) : Prop :=
  match r with
  | .ok (.ret u) => CE outer P w H s Q u s'
  | .ok _ => False
  | .error e => CX outer H s E e s'
structure FnOk (P : Program) (w : World) (K : PySem.W.Frag) (mg : Str → Option Value) (base : Heap) (CX : CXT) (k : Nat) (f : Addr) (fd : FuncData) (ps : List Str) (sp : Sp) : Prop where
  len : ∀ vs H Q E, sp vs H Q E → vs.length = ps.length
  run : ∀ (A : Around) (outer : List Env) (s : Shared) (H : Hp) (args : Args) (us : List Value) (vs : List V) (Q : VK) (E : XK), Room k A → Env0 P w K mg base A outer s H → BindsTo s fd args (ps.zip us) → Vals vs us → sp vs H Q E →
    codeAny (model P w) A (.call (.ref f) args) (CR CX outer P w H s Q E) s
theorem FnOk.mono {P : Program} {w : World} {K : PySem.W.Frag} {mg : Str → Option Value} {base : Heap} {CX : CXT} {j k : Nat} {f : Addr} {fd : FuncData} {ps : List Str} {sp : Sp} (F : FnOk P w K mg base CX j f fd ps sp) (h : j ≤ k) :
    FnOk P w K mg base CX k f fd ps sp := ⟨F.len, fun A outer s H args us vs Q E hr => F.run A outer s H args us vs Q E (hr.mono h)⟩

theorem Env0.make {P : Program} {w : World} {K : PySem.W.Frag} {mg : Str → Option Value} {base : Heap} {A : Around} {outer : List Env} {s : Shared} {H : Hp} (e : Env0 P w K mg base A outer s H) (C : Addr) (us : List Value) (kw : List (Str × Value)) :
    Env0 P w K mg base (A.under (.builtin "type.__call__" ⟨.ref C :: us, kw⟩)) outer s H := ⟨by first | exact e.frames | (simpa [Around.under, Code.envs, Code.isFrame, pushEnvs] using e.frames), e.mod, e.bs, e.bsz, e.funs, e.frf, e.hok, e.bare⟩

section
variable {X : Cx} {pins : List (Addr × Obj)} {σ : St} {H : Hp} {s s' : Shared}
/-- from a body: what a callee wants -/
theorem Inv.env0 (I : Inv X pins σ H s) : Env0 X.prog X.w X.K X.mg X.base X.A X.stack s H :=
  ⟨I.ok.frames, I.ok.mod, I.bs, Nat.le_trans I.ok.bsz I.sz, I.stack, I.stkFree, I.hok, I.bare⟩
/-- behind a call -/
theorem Inv.after {Q : VK} {u : Value} (I : Inv X pins σ H s) (h : CE X.stack X.prog X.w H s Q u s') : EP X pins σ Q u s' := by
  obtain ⟨v, H', os, bare, un, hok, r, q⟩ := h
  obtain ⟨hh, g, d, t, os'⟩ := s'
  obtain rfl : os' = s.os := os
  exact ⟨v, H', I.call (h' := hh) (g' := g) (d' := d) (t' := t) (ch := []) un hok bare (fun b z => absurd z (by simp)), r, q⟩
end

/-! ### calls -/
/-- f(..): the written arguments, then the defaults dvs; E: what is wanted of an exception -/
def tCall (sp : Sp) (dvs : List V) (E : XK) (t : TA) : TE := fun σ H Q => t σ H fun vs H1 => sp (vs ++ dvs) H1 Q E
/-- o.m(..) of an instance of the class at C -/
def tMeth (C : Addr) (m : Str) (sp : Sp) (dvs : List V) (E : XK) (ta : TE) (t : TA) : TE := fun σ H Q => ta σ H fun x H1 => ∃ a dx fs, x = .ref a ∧ H1 a = some (.ins C dx fs) ∧ fs.lookup m = none ∧
  t σ H1 fun vs H2 => sp (x :: (vs ++ dvs)) H2 Q E
/-- C(..): a new instance and its dict, then __init__ -/
def tMake (C : Addr) (sp : Sp) (dvs : List V) (E : XK) (t : TA) : TE := fun σ H Q => t σ H fun vs H1 => ∀ x dx, H1 x = none → H1 dx = none → dx ≠ x →
  sp (.ref x :: (vs ++ dvs)) (upd (upd H1 dx (.own x)) x (.ins C dx [])) (fun v H2 => v = .non ∧ Q (.ref x) H2) E

/-- how the parameters are bound: us the positional arguments, kw the keywords' values by name, ds the defaults that fill up -/
def Binds (K : PySem.W.Frag) (fd : FuncData) (ps : List Str) (ds : List Value) : Prop :=
  ∀ (s : Shared) (us : List Value), K.In s.heap → (us ++ ds).length = ps.length → BindsTo s fd ⟨us, []⟩ (ps.zip (us ++ ds))
/-- every parameter is given -/
theorem Binds.all {K : PySem.W.Frag} {fd : FuncData} {ps : List Str} (h : ∀ us : List Value, us.length = ps.length → bindArgs fd ⟨us, []⟩ = pure (ps.zip us)) : Binds K fd ps [] := fun s us _ hl => by
  rw [List.append_nil] at hl ⊢
  exact .of_eq (h us hl)

/-- an exception of a callee reaches what this body wants of exceptions -/
def Passes (CX : CXT) (X : Cx) (E : XK) : Prop := ∀ (pins : List (Addr × Obj)) (σ : St) (H : Hp) (s : Shared) (e : Value) (s' : Shared), Inv X pins σ H s → CX X.stack H s E e s' → X.xe e s'

section
variable {X : Cx} {CX : CXT} {k : Nat} {f C : Addr} {fd : FuncData} {ps : List Str} {sp : Sp} {dvs : List V} {ds : List Value} {E : XK} {x m : Str} {p pos apos : Pos} {e o : Expr} {es : List Expr} {ta : TE} {t : TA}

/-- the callee runs -/
theorem run_fn {pins : List (Addr × Obj)} {σ : St} {H : Hp} {s : Shared} {Q : VK} {us : List Value} {vs : List V} (F : FnOk X.prog X.w X.K X.mg X.base CX k f fd ps sp) (hr : Room k X.A) (hb : Binds X.K fd ps ds) (hd : Vals dvs ds) (hx : Passes CX X E)
    (I : Inv X pins σ H s) (r : Vals vs us) (h : sp (vs ++ dvs) H Q E) : wpAny (model X.prog X.w) X.A (call (.ref f) us) (EP X pins σ Q) X.xe s := by
  have r2 : Vals (vs ++ dvs) (us ++ ds) := r.append hd
  have hl : (us ++ ds).length = ps.length := by rw [← r2.length]; exact F.len _ _ _ _ h
  refine wpAny_call (codeAny_mono (F.run X.A X.stack s H ⟨us, []⟩ (us ++ ds) (vs ++ dvs) Q E hr I.env0 (hb s us I.kIn hl) r2 h) fun r s' hq => ?_)
  cases r with
  | error e => exact hx pins σ H s e s' I hq
  | ok fl =>
    cases fl with
    | ret u => exact I.after hq
    | next => exact False.elim hq
    | brk => exact False.elim hq
    | cont => exact False.elim hq

theorem pe_call (F : FnOk X.prog X.w X.K X.mg X.base CX k f fd ps sp) (hr : Room k X.A) (hg : Gl X x) (hm : X.mg x = some (.ref f)) (hk : PySem.W.keepIn X.K (.ref f) = true) (hb : Binds X.K fd ps ds) (hd : Vals dvs ds) (hx : Passes CX X E)
    (ha : PA X (e :: es) t) (hdb : (x == ("__debug__" : Str)) = false := by decide) (he : starEach (e :: es) X.env = (false, eval e X.env) :: starEach es X.env := by rfl) (hpl : (backTo pos (starEach es X.env)).any (·.1) = false := by rfl) :
    PE X (.Call (.Name x p) (e :: es) [] pos) (tCall sp dvs E t) := by
  intro pins s σ H Q I h
  refine wpAny_Call_Name_kw (ld_glob I hg hm ?_ hdb)
  refine PySem.W.callWith_K (h₀ := X.base) I.ok.mod.kin hk (thn (ha pos pins s σ H _ I h) fun us s1 ⟨vs, H1, I1, r, q⟩ => ⟨I1.kIn, ?_⟩) he hpl
  exact run_fn F hr hb hd hx I1 r q

/-- o.m(e, ..) -/
theorem pe_meth {pl : Sem Bool} (he : PE X o ta) (c : Cls X.K C) (hm : Meth X.K C m f) (F : FnOk X.prog X.w X.K X.mg X.base CX k f fd ps sp) (hr : Room k X.A) (hb : Binds X.K fd ps ds) (hd : Vals dvs ds) (hx : Passes CX X E) (ha : PA X (e :: es) t)
    (hst : starEach (e :: es) X.env = (false, eval e X.env) :: starEach es X.env := by rfl) (hpl : (backTo pos (starEach es X.env)).any (·.1) = false := by rfl)
    (ht : eval (.Call (.Attribute o m apos) (e :: es) [] pos) X.env = (do
      let ov ← eval o X.env
      standAt apos.atName
      let (f, first) ← holding [ov] (getMethod ov m pl)
      callWith pos f first (backTo pos (starEach (e :: es) X.env)) (backToKw pos (keywordEach [] X.env))) := by rfl) :
    PE X (.Call (.Attribute o m apos) (e :: es) [] pos) (tMeth C m sp dvs E ta t) := by
  intro pins s σ H Q I h
  refine PySem.W.methodCall_KW (pl := pl) (thn (he pins s σ H _ I h) fun u s1 ⟨x, H1, I1, rx, a, dx, fs, ex, ea, l, q⟩ => ?_) ht
  subst ex
  obtain rfl : u = Value.ref a := rx
  refine getmeth_ok I1 ea c hm l ?_
  refine PySem.W.callWith_K (first := [.ref a]) (h₀ := X.base) I.ok.mod.kin hm.kp (thn (ha pos pins s1 σ H1 _ I1 q) fun us s2 ⟨vs, H2, I2, r, q2⟩ => ⟨I2.kIn, ?_⟩) hst hpl
  exact run_fn (us := .ref a :: us) (vs := .ref a :: vs) F hr hb hd hx I2 (.cons rfl r) q2
/-- o.m() -/
theorem pe_meth0 {pl : Sem Bool} (he : PE X o ta) (c : Cls X.K C) (hm : Meth X.K C m f) (F : FnOk X.prog X.w X.K X.mg X.base CX k f fd ps sp) (hr : Room k X.A) (hb : Binds X.K fd ps ds) (hd : Vals dvs ds) (hx : Passes CX X E)
    (ht : eval (.Call (.Attribute o m apos) [] [] pos) X.env = (do
      let ov ← eval o X.env
      standAt apos.atName
      let (f, first) ← holding [ov] (getMethod ov m pl)
      callWith pos f first (backTo pos (starEach [] X.env)) (backToKw pos (keywordEach [] X.env))) := by rfl) :
    PE X (.Call (.Attribute o m apos) [] [] pos) (tMeth C m sp dvs E ta tNil) := by
  intro pins s σ H Q I h
  refine PySem.W.methodCall_KW (pl := pl) (thn (he pins s σ H _ I h) fun u s1 ⟨x, H1, I1, rx, a, dx, fs, ex, ea, l, q⟩ => ?_) ht
  subst ex
  obtain rfl : u = Value.ref a := rx
  refine getmeth_ok I1 ea c hm l ?_
  exact PySem.W.callWith_K0 (first := [.ref a]) I1.kIn hm.kp (run_fn (us := [.ref a]) (vs := [.ref a]) F hr hb hd hx I1 (.cons rfl .nil) q)

/-- what a class must have to be made -/
structure Mk (K : PySem.W.Frag) (C f : Addr) : Prop where
  makes : PySem.W.makesIn K C = true
  init : PySem.W.findIn K (.ref C) "__init__" = some (some (.ref f))
  fn : PySem.W.isFn K (.ref f) = true
  kp : PySem.W.keepIn K (.ref C) = true

theorem run_make {pins : List (Addr × Obj)} {σ : St} {H : Hp} {s : Shared} {Q : VK} {us : List Value} {vs : List V} (M : Mk X.K C f) (F : FnOk X.prog X.w X.K X.mg X.base CX k f fd ps sp) (hr : Room (k + 1) X.A) (hb : Binds X.K fd ps ds) (hd : Vals dvs ds)
    (hx : Passes CX X E) (I : Inv X pins σ H s) (r : Vals vs us)
    (h : ∀ x dx, H x = none → H dx = none → dx ≠ x → sp (.ref x :: (vs ++ dvs)) (upd (upd H dx (.own x)) x (.ins C dx [])) (fun v H2 => v = .non ∧ Q (.ref x) H2) E) :
    wpAny (model X.prog X.w) X.A (call (.ref C) us) (EP X pins σ Q) X.xe s := by
  have hq := h (s.heap.objs.size + 1) s.heap.objs.size (I.hok.fresh (Nat.le_succ _)) (I.hok.fresh (Nat.le_refl _)) (Nat.ne_of_lt (Nat.lt_succ_self _))
  have I2 := Inv.made (C := C) I
  have r2 : Vals (V.ref (s.heap.objs.size + 1) :: (vs ++ dvs)) (Value.ref (s.heap.objs.size + 1) :: (us ++ ds)) := .cons rfl (r.append hd)
  have hl : (Value.ref (s.heap.objs.size + 1) :: us ++ ds).length = ps.length := by
    have e := r2.length
    rw [F.len _ _ _ _ hq] at e
    exact e.symm
  refine wpAny_call (make_map (f := f) I.kIn M.makes M.init (beq_iff_eq.mp M.fn) (codeAny_mono (F.run _ X.stack _ _ ⟨Value.ref (s.heap.objs.size + 1) :: us, []⟩ (Value.ref (s.heap.objs.size + 1) :: (us ++ ds)) _ _ E (hr.make C us [])
    (I2.env0.make C us []) (hb _ (Value.ref (s.heap.objs.size + 1) :: us) I2.kIn hl) r2 hq) fun r s' hq' => ?_))
  cases r with
  | error e => exact hx pins σ _ _ e s' I2 hq'
  | ok fl =>
    cases fl with
    | ret u =>
      obtain ⟨v, H', I3, rv, ev, q3⟩ := I2.after hq'
      subst ev
      exact ⟨rv, ⟨V.ref (s.heap.objs.size + 1), H', I3, rfl, q3⟩⟩
    | next => exact False.elim hq'
    | brk => exact False.elim hq'
    | cont => exact False.elim hq'
theorem pe_make (M : Mk X.K C f) (F : FnOk X.prog X.w X.K X.mg X.base CX k f fd ps sp) (hr : Room (k + 1) X.A) (hg : Gl X x) (hm : X.mg x = some (.ref C)) (hb : Binds X.K fd ps ds) (hd : Vals dvs ds) (hx : Passes CX X E)
    (ha : PA X (e :: es) t) (hdb : (x == ("__debug__" : Str)) = false := by decide) (he : starEach (e :: es) X.env = (false, eval e X.env) :: starEach es X.env := by rfl) (hpl : (backTo pos (starEach es X.env)).any (·.1) = false := by rfl) :
    PE X (.Call (.Name x p) (e :: es) [] pos) (tMake C sp dvs E t) := by
  intro pins s σ H Q I h
  refine wpAny_Call_Name_kw (ld_glob I hg hm ?_ hdb)
  refine PySem.W.callWith_K (h₀ := X.base) I.ok.mod.kin M.kp (thn (ha pos pins s σ H _ I h) fun us s1 ⟨vs, H1, I1, r, q⟩ => ⟨I1.kIn, ?_⟩) he hpl
  exact run_make M F hr hb hd hx I1 r q
end

/-! ### keywords -/
section
variable {X : Cx} {CX : CXT} {k : Nat} {f C : Addr} {fd : FuncData} {ps ks : List Str} {sp : Sp} {E : XK} {x m : Str} {p pos apos kpos : Pos} {e o : Expr} {es : List Expr} {kws : List Keyword} {te ta : TE} {t tk : TA} {nm : Option Str}

variable {g : List Value → List Value → List Value} {gV : List V → List V → List V}
end

/-! ### a def's body keeps its promise -/
/-- names: the parameters first -/
structure FnScope (N P : List Str) (sc : Scope) : Prop where
  kind : sc.kind = .function
  co : sc.isCoroutine = false
  gen : sc.isGenerator = false
  nd : N.Nodup
  pre : N.take P.length = P
  par : ∀ x ∈ P, sc.names.lookup x = some .local ∨ sc.names.lookup x = some .cell
  nofree : ∀ y ∈ sc.names, y.2 ≠ .free

theorem bindL_out {kindOf : Str → Option NameKind} {x : Str} : ∀ {binds : List (Str × Value)} {m : Str → Option Value}, (∀ v, (x, v) ∉ binds) → bindL kindOf binds m x = m x
  | [], _, _ => rfl
  | (n, v) :: r, m, h => by
    unfold bindL
    rw [bindL_out fun w hw => h w (List.mem_cons_of_mem _ hw)]
    split
    · have : x ≠ n := by rintro rfl; exact h v List.mem_cons_self
      simp [this]
    · rfl
theorem bindC_out {kindOf : Str → Option NameKind} {x : Str} : ∀ {binds : List (Str × Value)} {m : Str → Option Value}, (∀ v, (x, v) ∉ binds) → bindC kindOf binds m x = m x
  | [], _, _ => rfl
  | (n, v) :: r, m, h => by
    unfold bindC
    rw [bindC_out fun w hw => h w (List.mem_cons_of_mem _ hw)]
    split
    · rfl
    · have : x ≠ n := by rintro rfl; exact h v List.mem_cons_self
      simp [this]
theorem bindL_get {kindOf : Str → Option NameKind} {x : Str} {v : Value} : ∀ {P : List Str} {vs : List Value} {i : Nat} {m : Str → Option Value}, P.Nodup → P[i]? = some x → vs[i]? = some v → kindOf x = some .local →
    bindL kindOf (P.zip vs) m x = some v
  | [], _, _, _, _, h, _, _ => by simp at h
  | _ :: _, [], _, _, _, _, h, _ => by simp at h
  | p :: P, w :: vs, 0, m, nd, h1, h2, hk => by
    simp at h1 h2; subst h1; subst h2
    show bindL kindOf ((p, w) :: P.zip vs) m p = _
    unfold bindL
    rw [bindL_out fun v hv => (List.nodup_cons.mp nd).1 (List.of_mem_zip hv).1, if_pos hk]
    simp
  | p :: P, w :: vs, i + 1, m, nd, h1, h2, hk => by
    show bindL kindOf ((p, w) :: P.zip vs) m x = _
    unfold bindL
    exact bindL_get (i := i) (List.nodup_cons.mp nd).2 (by simpa using h1) (by simpa using h2) hk
theorem bindC_get {kindOf : Str → Option NameKind} {x : Str} {v : Value} : ∀ {P : List Str} {vs : List Value} {i : Nat} {m : Str → Option Value}, P.Nodup → P[i]? = some x → vs[i]? = some v → kindOf x ≠ some .local →
    bindC kindOf (P.zip vs) m x = some v
  | [], _, _, _, _, h, _, _ => by simp at h
  | _ :: _, [], _, _, _, _, h, _ => by simp at h
  | p :: P, w :: vs, 0, m, nd, h1, h2, hk => by
    simp at h1 h2; subst h1; subst h2
    show bindC kindOf ((p, w) :: P.zip vs) m p = _
    unfold bindC
    rw [bindC_out fun v hv => (List.nodup_cons.mp nd).1 (List.of_mem_zip hv).1, if_neg hk]
    simp
  | p :: P, w :: vs, i + 1, m, nd, h1, h2, hk => by
    show bindC kindOf ((p, w) :: P.zip vs) m x = _
    unfold bindC
    exact bindC_get (i := i) (List.nodup_cons.mp nd).2 (by simpa using h1) (by simpa using h2) hk

/-- the names' values at the entry -/
def start (N : List Str) (vs : List V) : St := vs.map some ++ List.replicate (N.length - vs.length) none

/-- the context of a def's body, at its entry; an exception leaves the frame, then lies as CX says -/
def cxOf (CX : CXT) (P : Program) (w : World) (K : PySem.W.Frag) (mg : Str → Option Value) (base : Heap) (N : List Str) (qual : Str) (scope : Scope) (f : Addr) (cd : Value) (A : Around) (outer : List Env) (s : Shared) (H : Hp) (E : XK) : Cx where
  prog := P
  w := w
  K := K
  mg := mg
  base := base
  A := A.deeper (envOfC qual scope s.heap.objs.size f cd)
  N := N
  s₀ := s
  H₀ := H
  env := envOfC qual scope s.heap.objs.size f cd
  outer := outer
  stack := envOfC qual scope s.heap.objs.size f cd :: outer
  ex := []
  calm := true
  fn := fun _ => true
  pn := []
  xe := fun e s' => wpAny (model P w) (A.deeper (envOfC qual scope s.heap.objs.size f cd)) (leaving (envOfC qual scope s.heap.objs.size f cd) e) (fun _ s'' => CX outer H s E e s'') (fun e' s'' => CX outer H s E e' s'') s'

theorem cell_has {sc : Scope} {n : Nat} {x : Str} (h : sc.names.lookup x = some .cell) : ∃ c, (cellsFrom n sc.names []).lookup x = some c := by
  have q := PySem.W.cellsFrom_some sc.names n [] (.inl h)
  exact Option.isSome_iff_exists.mp q

theorem inv_start {CX : CXT} {P : Program} {w : World} {K : PySem.W.Frag} {mg : Str → Option Value} {base : Heap} {N ps : List Str} {qual : Str} {scope : Scope} {f : Addr} {cd : Value} {A : Around} {outer : List Env} {s s1 : Shared} {H : Hp} {E : XK} {us : List Value} {vs : List V}
    (S : FnScope N ps scope) (hd : A.handled = none) (e0 : Env0 P w K mg base A outer s H) (hl : vs.length = ps.length) (r : Vals vs us)
    (x : InCallC s s.heap.objs.size (bindL (envOfC qual scope s.heap.objs.size f cd).kindOf (ps.zip us) fun _ => none) (cellsFrom (s.heap.objs.size + 1) scope.names []) (bindC (envOfC qual scope s.heap.objs.size f cd).kindOf (ps.zip us) fun _ => none) s1) :
    Inv (cxOf CX P w K mg base N qual scope f cd A outer s H E) [] (start N vs) H s1 := by
  have hpl : ps.length ≤ N.length := by have := congrArg List.length S.pre; rw [List.length_take] at this; omega
  obtain ⟨h1, tk, rfl, hk⟩ := x.done
  have noA : ∀ b : Addr, b ∉ (cxOf CX P w K mg base N qual scope f cd A outer s H E).ex := fun b z => absurd (show b ∈ ([] : List Addr) from z) (by simp)
  refine ⟨⟨e0.mod, S.kind, rfl, rfl, Nat.le_refl _, fun y z c h1 h2 => ?_, fun y hy => ?_, fun y c _ h => ?_, fun _ => hd, Around.frames_deeper e0.frames, .inr ⟨rfl, rfl⟩, fun b z => absurd z (noA b), e0.bs, e0.bsz, fun b _ _ => noA b, fun b z => absurd z (noA b), e0.funs, e0.frf⟩,
    rfl, e0.bare, Un.kept hk, ⟨_, x.toInCall.ns, fun i y v h1 h2 h3 => ?_⟩, fun y c h => ⟨_, x.cell y c h⟩, e0.hok.fresh (Nat.le_refl _), fun y c h => ?_, fun p hp => absurd (show p ∈ ([] : List (Addr × Obj)) from hp) (by simp), e0.hok.kept hk, ?_⟩
  · exact name_of_addr x.apart (PySem.mem_of_lookup h1) (PySem.mem_of_lookup h2)
  · have hy : scope.names.lookup y = some .cell ∨ scope.names.lookup y = some .free := hy
    rcases hy with hy | hy
    · exact cell_has hy
    · exact absurd rfl (S.nofree _ (PySem.mem_of_lookup hy))
  · exact Nat.le_of_lt (x.above y c (PySem.mem_of_lookup h))
  · have hi : i < vs.length := by
      unfold start at h2
      by_cases hi : i < vs.length
      · exact hi
      · rw [List.getElem?_append_right (by simpa using hi)] at h2
        rw [List.getElem?_replicate] at h2
        split at h2 <;> cases h2
    have ha : vs[i]? = some v := by
      unfold start at h2
      rw [List.getElem?_append_left (by simpa using hi), List.getElem?_map] at h2
      cases e : vs[i]? with
      | none => rw [e] at h2; cases h2
      | some a => rw [e] at h2; cases h2; rfl
    obtain ⟨u, hu, rv⟩ := r.get ha
    have hp : ps[i]? = some y := by
      rw [← S.pre, List.getElem?_take_of_lt (by omega)]; exact h1
    have ndP : ps.Nodup := by rw [← S.pre]; exact S.nd.sublist (List.take_sublist _ _)
    refine ⟨u, rv, ?_⟩
    rcases S.par y (List.mem_of_getElem? hp) with k | k
    · exact .inl ⟨k, bindL_get ndP hp hu k⟩
    · obtain ⟨c, e⟩ := cell_has (n := s.heap.objs.size + 1) k
      refine .inr ⟨.inl k, c, e, ?_⟩
      have q := x.cell y c e
      rw [bindC_get ndP hp hu (by show scope.names.lookup y ≠ _; rw [k]; decide)] at q
      exact q
  · exact e0.hok.fresh (Nat.le_of_lt (x.above y c (PySem.mem_of_lookup h)))
  · unfold start
    show _ = N.length
    rw [List.length_append, List.length_map, List.length_replicate]
    omega

/-- THE RULE: a def (or a method) of the text, by its body. The body's reading t is chosen for each entry; it is run at the parameters' values -/
theorem fn_of {CX : CXT} {P : Program} {w : World} {K : PySem.W.Frag} {mg : Str → Option Value} {base : Heap} {k : Nat} {f : Addr} {name qual : Str} {params : Arguments} {body : List Stmt} {scope : Scope} {dV kV doc pm cdv ct oc : Value} {an od : Option Addr}
    {osl : Array (Option Value)} {N ps : List Str} {sp : Sp} (lk : K.lookup f = some ⟨oc, od, .func (PySem.W.fnOf name qual params body scope dV kV doc pm an cdv ct), osl⟩) (hcd : PySem.W.codeIn K cdv qual = true) (S : FnScope N ps scope)
    (len : ∀ vs H Q E, sp vs H Q E → vs.length = ps.length)
    (hbody : ∀ (A : Around) (outer : List Env) (s : Shared) (H : Hp) (vs : List V) (Q : VK) (E : XK), Room k (A.deeper (envOfC qual scope s.heap.objs.size f cdv)) → sp vs H Q E →
      ∃ t, PSs (cxOf CX P w K mg base N qual scope f cdv A outer s H E) body t ∧ t { nx := fun _ H' => Q .non H', rt := Q } (start N vs) H) :
    FnOk P w K mg base CX (k + 1) f (PySem.W.fnOf name qual params body scope dV kV doc pm an cdv ct) ps sp := by
  refine ⟨len, fun A outer s H args us vs Q E hr e0 hb r hsp => ?_⟩
  have hl := len _ _ _ _ hsp
  have KX : K.In s.heap := e0.mod.kin.keeps fun b o e => (e0.bs b o e).1
  have lim : s.heap.NoLimit := e0.mod.nolimit.keeps fun b o e => (e0.bs b o e).1
  have hkind : ∀ y ∈ ps.zip us, scope.names.lookup y.1 = some .local ∨ (scope.names.lookup y.1 = some .cell ∧ ((cellsFrom (s.heap.objs.size + 1) scope.names []).lookup y.1).isSome = true) := fun ⟨n, v⟩ hy => by
    rcases S.par n (List.of_mem_zip hy).1 with q | q
    · exact .inl q
    · exact .inr ⟨q, PySem.W.cellsFrom_some _ _ _ (.inl q)⟩
  refine codeAny_call_function hr.depth (KX _ _ lk) rfl S.co S.gen rfl (PySem.W.codeRec_of KX hcd) (hb _ _ _ _ ?_)
  refine wpAny_newFunctionEnv_cells S.kind hkind fun env he s1 x => ?_
  subst he
  refine ⟨lim.keeps x.toInCall.keep, codeAny_func ?_⟩
  obtain ⟨t, ht, hq⟩ := hbody A outer s H vs Q E (hr.deeper _) hsp
  have I : Inv (cxOf CX P w K mg base N qual scope f cdv A outer s H E) [] (start N vs) H s1 := inv_start S hr.hd e0 hl r x
  refine wpAny_mono (ht [] s1 (start N vs) H _ I hq) (fun fl s' hs => ?_) fun e s' hs => hs
  have fin : ∀ {σ' : St} {H' : Hp} {v : V} {u : Value}, Inv (cxOf CX P w K mg base N qual scope f cdv A outer s H E) [] σ' H' s' → RelV v u → Q v H' → CE outer P w H s Q u s' :=
    fun {σ' H' v u} J rv q => ⟨v, H', J.os, J.bare, J.base, J.hok, rv, q⟩
  cases fl with
  | ret u =>
    obtain ⟨v, σ', H', J, rv, q⟩ := hs
    exact fin J rv q
  | next =>
    obtain ⟨σ', H', J, q⟩ := hs
    exact fin (v := V.non) (u := Value.none) J rfl q
  | brk =>
    obtain ⟨_, _, _, q⟩ := hs
    exact False.elim q
  | cont =>
    obtain ⟨_, _, _, q⟩ := hs
    exact False.elim q
end L2

namespace L2
open PySem PySem.Spec PyProof.Rows
section
variable {X : Cx} {x : Str} {p pos : Pos} {e : Expr} {es : List Expr} {t : TA} {id T : String} {r : List V → Hp → VK → Prop}

def tCB (r : List V → Hp → VK → Prop) (t : TA) : TE := fun σ H Q => t σ H fun vs H1 => r vs H1 Q
/-- f(e, ..), f a built-in function -/
theorem pe_callB (hc : CallR X (.builtin id) r) (hg : Gl X x) (hm : X.mg x = none) (hv : bootBuiltins x = some (.builtin id)) (ha : PA X (e :: es) t) (hn : x ≠ "__name__" := by decide) (hdb : (x == ("__debug__" : Str)) = false := by decide)
    (he : starEach (e :: es) X.env = (false, eval e X.env) :: starEach es X.env := by rfl) (hpl : (backTo pos (starEach es X.env)).any (·.1) = false := by rfl) : PE X (.Call (.Name x p) (e :: es) [] pos) (tCB r t) := by
  intro pins s σ H Q I h
  refine wpAny_Call_Name_kw (ld_blt I hg hm hv ?_ hn hdb)
  exact PyProof.Rows.callWith_builtin1 (thn (ha pos pins s σ H _ I h) fun us s1 ⟨vs, H1, I1, r1, q1⟩ => hc pins s1 σ H1 vs us Q I1 r1 q1) he hpl
/-- T(e, ..), T a built-in type -/
theorem pe_callTy (hc : CallR X (.type T) r) (hg : Gl X x) (hm : X.mg x = none) (hv : bootBuiltins x = some (.type T)) (ha : PA X (e :: es) t) (hn : x ≠ "__name__" := by decide) (hdb : (x == ("__debug__" : Str)) = false := by decide)
    (he : starEach (e :: es) X.env = (false, eval e X.env) :: starEach es X.env := by rfl) (hpl : (backTo pos (starEach es X.env)).any (·.1) = false := by rfl) : PE X (.Call (.Name x p) (e :: es) [] pos) (tCB r t) := by
  intro pins s σ H Q I h
  refine wpAny_Call_Name_kw (ld_blt I hg hm hv ?_ hn hdb)
  exact PyProof.Rows.callWith_type1 (thn (ha pos pins s σ H _ I h) fun us s1 ⟨vs, H1, I1, r1, q1⟩ => hc pins s1 σ H1 vs us Q I1 r1 q1) he hpl
end
end L2

namespace HT
open PySem PyProof.Rows



section
open PySem.SeqAt
open PySem.AutoSeq1 (wpAny_loadPart')
open PySem.MeetsSeq PySem.MeetsSeq2 PySem.MeetsSeq3

end

section
variable {prog : Program} {w : World} {A : Around} {E : Value → Shared → Prop} {s : Shared}



/-! ### t[a:b], not the whole -/
/-- a slice's bound as a place among n (d where it is left out) -/
def sIx (n d : Nat) : Option Int → Nat
  | none => d
  | some v => if v < 0 then (v + (n : Int)).toNat else min v.toNat n
theorem sIx_le (n d : Nat) (hd : d ≤ n) (o : Option Int) : sIx n d o ≤ n := by
  cases o with
  | none => exact hd
  | some v =>
    show (if v < 0 then (v + (n : Int)).toNat else min v.toNat n) ≤ n
    by_cases hv : v < 0
    · rw [if_pos hv]; omega
    · rw [if_neg hv]; exact Nat.min_le_right _ _
theorem clip_eq (v : Int) (n d : Nat) : (if v < 0 then max (v + (n : Int)) 0 else min v (n : Int)) = ((sIx n d (some v) : Nat) : Int) := by
  show (if v < 0 then max (v + (n : Int)) 0 else min v (n : Int)) = (((if v < 0 then (v + (n : Int)).toNat else min v.toNat n) : Nat) : Int)
  by_cases hv : v < 0
  · simp only [if_pos hv]; omega
  · simp only [if_neg hv]; omega
theorem adjust_gen (lo hi : Option Int) (n : Nat) : Builtin.Slice.sliceAdjust lo hi 1 (n : Int) = (((sIx n 0 lo : Nat) : Int), ((sIx n n hi : Nat) : Int)) := by
  have h1 : ¬ ((1 : Int) < 0) := by omega
  unfold Builtin.Slice.sliceAdjust
  simp only [h1, if_false]
  refine Prod.ext ?_ ?_
  · cases lo with
    | none => rfl
    | some v => exact clip_eq v n 0
  · cases hi with
    | none => rfl
    | some v => exact clip_eq v n n
theorem places_gen (i j : Nat) : Builtin.Slice.slicePlaces (i : Int) (j : Int) 1 = j - i := by
  unfold Builtin.Slice.slicePlaces
  have h1 : (1 : Int) > 0 := by omega
  simp only [h1, if_true, Int.ediv_one]
  split <;> omega
theorem slicePart_ {v : Value} {o : Option Int} {Q : Option Int → Shared → Prop} (p : IsPart v o) (h : Q o s) : wpAny (model prog w) A (Builtin.Slice.slicePartIndex v) Q E s := by
  cases p with
  | none => exact slicePart_none h
  | int i t => exact slicePart_int h
theorem sliceApplied_gen {sl : Addr} {vl vu : Value} {lo hi : Option Int} {n : Nat} {Q : Int × Int × Nat → Shared → Prop} (hs : s.heap.IsSliceOf sl vl vu .none) (pl : IsPart vl lo) (pu : IsPart vu hi)
    (h : Q (((sIx n 0 lo : Nat) : Int), 1, sIx n n hi - sIx n 0 lo) s) : wpAny (model prog w) A (Builtin.Slice.sliceApplied (.ref sl) (pure (n : Int))) Q E s := by
  obtain ⟨os, hos, hcs, hds⟩ := id hs
  unfold Builtin.Slice.sliceApplied Builtin.Slice.sliceFields
  refine wpAny_bind (wpAny_bind (wpAny_field hos hds (x := vl) rfl (wpAny_bind (wpAny_field hos hds (x := vu) rfl (wpAny_bind (wpAny_field hos hds (x := .none) rfl (wpAny_pure ?_)))))))
  refine wpAny_bind (slicePart_none ?_)
  show wpAny _ _ (if ((1 : Int) == 0) = true then _ else _) _ _ s
  rw [if_neg (by decide)]
  refine wpAny_bind (slicePart_ pl (wpAny_bind (slicePart_ pu (wpAny_bind (wpAny_pure ?_)))))
  show wpAny _ _ (match Builtin.Slice.sliceAdjust lo hi 1 (n : Int) with | (lo, hi) => pure (lo, (1 : Int), Builtin.Slice.slicePlaces lo hi 1)) _ _ s
  rw [adjust_gen lo hi n]
  show wpAny _ _ (pure (((sIx n 0 lo : Nat) : Int), (1 : Int), Builtin.Slice.slicePlaces ((sIx n 0 lo : Nat) : Int) ((sIx n n hi : Nat) : Int) 1)) _ _ s
  rw [places_gen]
  exact wpAny_pure h
theorem pick_gen (xs : Array Value) (i k : Nat) : ((List.range k).filterMap fun (m : Nat) => xs[((i : Int) + (m : Int) * 1).toNat]?).toArray = ((xs.toList.drop i).take k).toArray := by
  have e : (fun (m : Nat) => xs[((i : Int) + (m : Int) * 1).toNat]?) = fun m => xs[i + m]? := by
    funext m
    have : ((i : Int) + (m : Int) * 1).toNat = i + m := by omega
    rw [this]
  rw [e]
  have := pick_run xs i k
  rw [List.filterMap_map] at this
  have e2 : ((fun x => xs[x]?) ∘ fun x => i + x) = fun m => xs[i + m]? := rfl
  rw [e2] at this
  rw [this]

theorem getItem_tuple_cut {t sl : Addr} {items : Array Value} {vl vu : Value} {lo hi : Option Int} {Q : Value → Shared → Prop} (ht : IsTup s.heap t items) (hs : s.heap.IsSliceOf sl vl vu .none) (pl : IsPart vl lo) (pu : IsPart vu hi)
    (hw : ¬ (sIx items.size 0 lo = 0 ∧ sIx items.size items.size hi = items.size))
    (h : Q (.ref s.heap.objs.size) { s with heap := s.heap.push { cls := .type "tuple", data := .seq ((items.toList.drop (sIx items.size 0 lo)).take (sIx items.size items.size hi - sIx items.size 0 lo)).toArray } })
    (hsz : items.size ≤ sizeLine) : wpAny (model prog w) A (getItem (.ref t) (.ref sl)) Q E s := by
  have htake : sizeOk (.seq ((items.toList.drop (sIx items.size 0 lo)).take (sIx items.size items.size hi - sIx items.size 0 lo)).toArray) := by
    show ((items.toList.drop (sIx items.size 0 lo)).take (sIx items.size items.size hi - sIx items.size 0 lo)).toArray.size ≤ sizeLine
    rw [List.size_toArray, List.length_take, List.length_drop, Array.length_toList]
    omega
  have hj : sIx items.size items.size hi ≤ items.size := sIx_le _ _ (Nat.le_refl _) hi
  obtain ⟨os, hos, hcs, hds⟩ := id hs
  have hTs : s.TypeIs (.ref sl) "slice" := ⟨os, hos, hcs⟩
  unfold getItem
  try with_reducible refine wpAny_holding ?_
  first | refine wpAny_bind (wpAny_pure ?_) | skip
  refine wpAny_bind (wpAny_sequenceKey ht.typeIs (by decide) ?_)
  refine wpAny_bind (wpAny_callSpecial?_slot (name := Str.ofString "__getitem__") ht.typeIs PyProof.Rows.slot_tuple_getitem
    (wpAny_call_entry PyProof.Rows.slot_tuple_getitem ht.typeIs entry_tuple_getitem ?_ (args_tuple_getitem _ _)))
  show wpAny _ _ (Builtin.Tuple.tupleItemsOf (.ref t) >>= _) _ _ s
  refine wpAny_bind (tupleItemsOf_ ht ?_)
  refine wpAny_bind (wpAny_typeOf hTs ?_)
  rw [if_pos (by decide)]
  refine wpAny_bind (sliceApplied_gen hs pl pu ?_)
  have hno : ¬ ((((sIx items.size 0 lo : Nat) : Int) == 0 && (1 : Int) == 1 && (sIx items.size items.size hi - sIx items.size 0 lo) == items.size) = true) := by
    intro q
    rw [Bool.and_eq_true, Bool.and_eq_true] at q
    have q1 : ((sIx items.size 0 lo : Nat) : Int) = 0 := eq_of_beq q.1.1
    have q2 : sIx items.size items.size hi - sIx items.size 0 lo = items.size := eq_of_beq q.2
    exact hw ⟨by omega, by omega⟩
  show wpAny _ _ (if (((sIx items.size 0 lo : Nat) : Int) == 0 && (1 : Int) == 1 && (sIx items.size items.size hi - sIx items.size 0 lo) == items.size) = true then _ else _) _ _ s
  rw [if_neg hno, pick_gen]
  first
    | exact wpAny_bind (m := Builtin.Tuple.tupleExact _) (wpAny_newObj_type (wpAny_pure ⟨_, rfl, wpAny_pure h⟩) htake)
    | exact wpAny_bind (m := Builtin.Tuple.tupleExact _) (wpAny_newObj_type (wpAny_bind (wpAny_pure (wpAny_pure ⟨_, rfl, wpAny_pure h⟩))) htake)
    | exact wpAny_bind (wpAny_bind (m := Builtin.Tuple.tupleExact _) (wpAny_newObj_type (wpAny_pure (wpAny_pure ⟨_, rfl, wpAny_pure h⟩)) htake))
    | exact wpAny_bind (wpAny_bind (m := Builtin.Tuple.tupleExact _) (wpAny_newObj_type (wpAny_pure ⟨_, rfl, wpAny_pure h⟩) htake))
end
end HT

namespace L2
open PySem PySem.Spec PyProof.Rows

/-! ### the parts of a slice -/
abbrev TO := St → Hp → (Option Int → Hp → Prop) → Prop
/-- a slice's part (left out, or an int) -/
def PO (X : Cx) (e : Option Expr) (t : TO) : Prop :=
  ∀ (pins : List (Addr × Obj)) (s : Shared) (σ : St) (H : Hp) (Q : Option Int → Hp → Prop), Inv X pins σ H s → t σ H Q →
    wpAny (model X.prog X.w) X.A (evalPart e X.env) (fun u s' => ∃ o H', Inv X pins σ H' s' ∧ IsPart u o ∧ Q o H') X.xe s
def tNoPart : TO := fun _ H Q => Q none H
def tPart (t : TE) : TO := fun σ H Q => t σ H fun x H1 => ∃ i, x = .int i ∧ Q (some i) H1


section
variable {X : Cx} {e : Expr} {te : TE} {lo hi : Option Expr} {tl th : TO} {pos p2 : Pos}

theorem po_none : PO X none tNoPart := by
  intro pins s σ H Q I h
  rw [evalPart_none]
  exact wpAny_pure ⟨none, H, I, .none, h⟩
theorem po_some (h : PE X e te) : PO X (some e) (tPart te) := by
  intro pins s σ H Q I hw
  rw [evalPart_some]
  refine thn (h pins s σ H _ I hw) fun u s1 ⟨x, H1, I1, r1, q1⟩ => ?_
  obtain ⟨i, rfl, q⟩ := q1
  obtain ⟨t, rfl⟩ := r1
  exact ⟨some i, H1, I1, .int i t, q⟩

/-- what a slice of a value is, by values: the slice object stands at sl -/
def SlR (X : Cx) (r : V → Option Int → Option Int → Hp → VK → Prop) : Prop :=
  ∀ (pins : List (Addr × Obj)) (s : Shared) (σ : St) (H : Hp) (x : V) (v vl vu : Value) (lo hi : Option Int) (sl : Addr) (Q : VK), Inv X pins σ H s → RelV x v → s.heap.IsSliceOf sl vl vu .none → IsPart vl lo → IsPart vu hi → r x lo hi H Q →
    ∃ T id, typeLookup (.type T) "__getitem__" = pure (some (.builtin id)) ∧ s.TypeIs v T ∧ wpAny (model X.prog X.w) X.A (getItem v (.ref sl)) (EP X pins σ Q) X.xe s
def tSl (r : V → Option Int → Option Int → Hp → VK → Prop) (te : TE) (tl th : TO) : TE := fun σ H Q => te σ H fun x H1 => tl σ H1 fun l H2 => th σ H2 fun u H3 => r x l u H3 Q
/-- a[lo:hi], any a -/
theorem pe_slice {r : V → Option Int → Option Int → Hp → VK → Prop} (hr : SlR X r) (he : PE X e te) (hl : PO X lo tl) (hu : PO X hi th) : PE X (.Subscript e (.Slice lo hi none p2) pos) (tSl r te tl th) := by
  intro pins s σ H Q I h
  refine Subscript_ (thn (he pins s σ H _ I h) fun v s1 ⟨x, H1, I1, r1, q1⟩ => ?_)
  refine wpAny_Slice (thn (hl pins s1 σ H1 _ I1 q1) fun vl s2 ⟨l, H2, I2, pl, q2⟩ => thn (hu pins s2 σ H2 _ I2 q2) fun vu s3 ⟨u, H3, I3, pu, q3⟩ => ?_)
  rw [evalPart_none]
  refine wpAny_pure ?_
  have I4 : Inv X pins σ H3 { s3 with heap := s3.heap.push { cls := .type "slice", data := .fields #[vl, vu, .none] } } := I3.kept (t' := s3.toks) fun b ob q => Heap.get?_push_of_some _ q
  obtain ⟨T, id, hT, ht, hg⟩ := hr pins { s3 with heap := s3.heap.push { cls := .type "slice", data := .fields #[vl, vu, .none] } } σ H3 x v vl vu l u s3.heap.objs.size Q I4 r1 (Heap.IsSliceOf.new ..) pl pu q3
  show wpAny (model X.prog X.w) X.A (subscriptTail e (.Slice lo hi none p2) v (.ref s3.heap.objs.size)) (EP X pins σ Q) X.xe { s3 with heap := s3.heap.push { cls := .type "slice", data := .fields #[vl, vu, .none] } }
  exact tail_any (ops := [.ref s3.heap.objs.size, v]) ht hT hg (by with_unfolding_all rfl)

/-- the items of xs[lo:hi] -/
def cutV (xs : List V) (lo hi : Option Int) : List V := (xs.drop (HT.sIx xs.length 0 lo)).take (HT.sIx xs.length xs.length hi - HT.sIx xs.length 0 lo)
theorem cutV_length (xs : List V) (lo hi : Option Int) : (cutV xs lo hi).length ≤ xs.length := by
  unfold cutV
  rw [List.length_take, List.length_drop]
  omega
/-- t[lo:hi], not the whole of it (the whole would be t itself) -/
def rSlT (K : PySem.W.Frag) : V → Option Int → Option Int → Hp → VK → Prop := fun x lo hi H Q => ∃ a xs, x = .ref a ∧ SqT K H a xs ∧
  ¬ (HT.sIx xs.length 0 lo = 0 ∧ HT.sIx xs.length xs.length hi = xs.length) ∧ ∀ p, H p = none → Q (.ref p) (upd H p (.tup (cutV xs lo hi)))
theorem sl_tup : SlR X (rSlT X.K) := by
  intro pins s σ H x v vl vu lo hi sl Q I rx hs pl pu h
  obtain ⟨a, xs, rfl, hx, hw, q⟩ := h
  cases rx
  obtain ⟨its, r, ht, hz⟩ := I.tuple hx
  have hlen : its.toArray.size = xs.length := by rw [List.size_toArray]; exact r.length.symm
  refine ⟨"tuple", _, PyProof.Rows.slot_tuple_getitem.lookup, ht.typeIs, ?_⟩
  refine HT.getItem_tuple_cut ht hs pl pu (by rw [hlen]; exact hw) ?_ (by rw [hlen]; exact hz)
  rw [hlen]
  refine ⟨.ref s.heap.objs.size, _, I.laid (t' := s.toks) (o := .tup (cutV xs lo hi)) (fun b ob q => Heap.get?_push_of_some _ q) (Nat.le_refl _) ?_, rfl, q _ (I.hok.fresh (Nat.le_refl _))⟩
  exact ⟨Nat.le_trans (cutV_length xs lo hi) hz, _, (r.drop (HT.sIx xs.length 0 lo)).take (HT.sIx xs.length xs.length hi - HT.sIx xs.length 0 lo), IsTup.new _ _⟩

/-! ### t < u, t + u -/
end
end L2

namespace L2
open PySem PySem.Spec PyProof.Rows

/-! ### places -/
/-- the place that an index of any sign means -/
def ixN (n : Nat) (i : Int) : Option Nat := if 0 ≤ i then (if i < n then some i.toNat else none) else if -(n : Int) ≤ i then some (i + n).toNat else none
def atI {α : Type} (xs : List α) (i : Int) : Option α := (ixN xs.length i).bind fun j => xs[j]?
theorem ixN_seq {n : Nat} {i : Int} {j : Nat} (h : ixN n i = some j) : seqIndex? i n = some j ∧ j < n ∧ -(n : Int) ≤ i ∧ i < n := by
  unfold ixN at h
  by_cases h0 : 0 ≤ i
  · rw [if_pos h0] at h
    by_cases h1 : i < n
    · rw [if_pos h1] at h
      have e : i.toNat = j := Option.some.inj h
      exact ⟨by rw [seqIndex_of h0 h1, e], by omega, by omega, h1⟩
    · rw [if_neg h1] at h; cases h
  · rw [if_neg h0] at h
    by_cases h1 : -(n : Int) ≤ i
    · rw [if_pos h1] at h
      have e : (i + n).toNat = j := Option.some.inj h
      exact ⟨by rw [seqIndex_neg (by omega) h1, e], by omega, h1, by omega⟩
    · rw [if_neg h1] at h; cases h
theorem atI_get {α : Type} {xs : List α} {i : Int} {v : α} (h : atI xs i = some v) : ∃ j, seqIndex? i xs.length = some j ∧ xs[j]? = some v ∧ j < xs.length ∧ -(xs.length : Int) ≤ i ∧ i < xs.length := by
  unfold atI at h
  cases e : ixN xs.length i with
  | none => rw [e] at h; cases h
  | some j =>
    rw [e] at h
    obtain ⟨h1, h2, h3, h4⟩ := ixN_seq e
    exact ⟨j, h1, h, h2, h3, h4⟩
theorem atI_nat {α : Type} {xs : List α} {j : Nat} {v : α} (h : xs[j]? = some v) : atI xs (j : Int) = some v := by
  have hj : j < xs.length := (List.getElem?_eq_some_iff.mp h).1
  have e : ixN xs.length (j : Int) = some j := by
    unfold ixN
    rw [if_pos (by omega), if_pos (by omega)]; simp
  unfold atI; rw [e]; exact h
theorem atI_last {α : Type} (xs : List α) (v : α) : atI (xs ++ [v]) (-1) = some v := by
  have hl : (xs ++ [v]).length = xs.length + 1 := by simp
  have e : ixN (xs ++ [v]).length (-1) = some xs.length := by
    unfold ixN
    rw [hl, if_neg (by decide), if_pos (by omega)]
    congr 1
    omega
  unfold atI
  rw [e]
  show (xs ++ [v])[xs.length]? = some v
  simp

/-! ### what may be subscripted -/
/-- what stands as an index of a plain subscript -/
def PlainIx (b : Expr) : Prop := ∀ o i, subscripted b false o i = operate [o, i] (getItem o i)
/-- a subscript by values -/
def IxR (X : Cx) (r : R2) : Prop :=
  ∀ (value slice : Expr) (pins : List (Addr × Obj)) (s : Shared) (σ : St) (H : Hp) (x y : V) (v u : Value) (Q : VK), Inv X pins σ H s → RelV x v → RelV y u → r x y H Q →
    subscripted slice false v u = operate [v, u] (getItem v u) → wpAny (model X.prog X.w) X.A (subscriptTail value slice v u) (EP X pins σ Q) X.xe s
/-- a call of a builtin's method by values: the receiver, the arguments -/
def MtR (X : Cx) (id : String) (r : V → List V → Hp → VK → Prop) : Prop :=
  ∀ (pins : List (Addr × Obj)) (s : Shared) (σ : St) (H : Hp) (x : V) (xs : List V) (v : Value) (us : List Value) (Q : VK), Inv X pins σ H s → RelV x v → Vals xs us → r x xs H Q →
    wpAny (model X.prog X.w) X.A (call (.builtin id) (v :: us)) (EP X pins σ Q) X.xe s
section
variable {X : Cx} {a b : Expr} {ta tb : TE} {pos : Pos}
/-- a[b] -/
theorem pe_ix {r : R2} (hr : IxR X r) (ha : PE X a ta) (hb : PE X b tb) (hs : PlainIx b) : PE X (.Subscript a b pos) (tOp r ta tb) := by
  intro pins s σ H Q I h
  exact Subscript_ (binT ha hb I h fun v u s2 x y H2 I2 rx ry q => hr a b pins s2 σ H2 x y v u Q I2 rx ry q (hs _ _))

def rIxL (K : PySem.W.Frag) : R2 := fun x y H Q => ∃ p xs i v, x = .ref p ∧ y = .int i ∧ SqL K H p xs ∧ atI xs i = some v ∧ Q v H
def rIxT (K : PySem.W.Frag) : R2 := fun x y H Q => ∃ p xs i v, x = .ref p ∧ y = .int i ∧ SqT K H p xs ∧ atI xs i = some v ∧ Q v H
def rIxS : R2 := fun x y H Q => ∃ z i c, x = .str z ∧ y = .int i ∧ z.length ≤ sizeLine ∧ atI z.cps.toList i = some c ∧ Q (.str ⟨#[c]⟩) H
theorem ix_list : IxR X (rIxL X.K) := by
  intro value slice pins s σ H x y v u Q I rx ry h hs
  obtain ⟨p, xs, i, z, rfl, rfl, hq, he, q⟩ := h
  cases rx
  obtain ⟨t, rfl⟩ := ry
  obtain ⟨its, r, pl, hz⟩ := I.list hq
  obtain ⟨j, h1, h2, h3, h4, h5⟩ := atI_get he
  obtain ⟨w, ew, rw'⟩ := r.get h2
  have hl := r.length
  have hn := line63
  have fin : EP X pins σ Q w s := ⟨z, H, I, rw', q⟩
  by_cases h0 : 0 ≤ i
  · have hj : i.toNat = j := by
      rw [seqIndex_of h0 h5] at h1
      exact Option.some.inj h1
    exact item_listR pl.isList h0 (by omega) (by rw [hj]; simpa using ew) fin hs
  · have hj : (i + (its.toArray.size : Int)).toNat = j := by
      rw [seqIndex_neg (by omega) h4] at h1
      rw [List.size_toArray, ← hl]
      exact Option.some.inj h1
    exact subscriptTail_builtinR (x := w) pl.isList.typeIs slot_list_getitem.lookup
      (wpAny_getItem_list_neg (Q := fun r s' => r = w ∧ EP X pins σ Q r s') pl.isList (by omega) (by rw [List.size_toArray] <;> omega) (by omega) (by rw [hj]; simpa using ew) ⟨rfl, fin⟩) hs
theorem ix_tup : IxR X (rIxT X.K) := by
  intro value slice pins s σ H x y v u Q I rx ry h hs
  obtain ⟨p, xs, i, z, rfl, rfl, hq, he, q⟩ := h
  cases rx
  obtain ⟨t, rfl⟩ := ry
  obtain ⟨its, r, pl, hz⟩ := I.tuple hq
  obtain ⟨j, h1, h2, h3, h4, h5⟩ := atI_get he
  obtain ⟨w, ew, rw'⟩ := r.get h2
  have hl := r.length
  have hn := line63
  have fin : EP X pins σ Q w s := ⟨z, H, I, rw', q⟩
  exact subscriptTail_builtinR (x := w) pl.typeIs slot_tuple_getitem.lookup
    (getItem_tuple (j := j) (Q := fun r s' => r = w ∧ EP X pins σ Q r s') pl (by omega) (by omega) (by rw [List.size_toArray, ← hl]; exact h1) (by simpa using ew) ⟨rfl, fin⟩) hs
theorem ix_str : IxR X rIxS := by
  intro value slice pins s σ H x y v u Q I rx ry h hs
  obtain ⟨z, i, c, rfl, rfl, hz, he, q⟩ := h
  obtain ⟨t, rfl⟩ := rx
  obtain ⟨t', rfl⟩ := ry
  obtain ⟨j, h1, h2, h3, h4, h5⟩ := atI_get he
  have hl : z.cps.toList.length = z.length := by simp [Str.length]
  rw [hl] at h1 h4 h5
  have hn := line63
  exact tail_any (typeIs_str s z t) slot_str_getitem.lookup (getItem_str (c := c) (by
    have e1 : decide (i < -(2 ^ 63 : Int)) = false := decide_eq_false (by omega)
    have e2 : decide (i ≥ 2 ^ 63) = false := decide_eq_false (by omega)
    rw [e1, e2, Bool.or_false]) (by rw [h1]; simpa using h2) ⟨.str ⟨#[c]⟩, H, I.tok _, ⟨_, rfl⟩, q⟩) hs

/-! ### xs[i] = v, any sign -/
/-- the list's object behind a store -/
theorem mapSeq_set (its : List Value) (n j : Nat) (u : Value) : Obj.mapSeq (·.setIfInBounds j u) { cls := .type "list", data := .seq its.toArray n } = { cls := .type "list", data := .seq (its.set j u).toArray n } := by
  simp [Obj.mapSeq]
theorem Inv.lst {pins : List (Addr × Obj)} {σ : St} {H : Hp} {s : Shared} {p : Addr} {xs : List V} (I : Inv X pins σ H s) (h : H p = some (.lst xs)) :
    ∃ (its : List Value) (n : Nat), Vals xs its ∧ s.heap.get? p = some { cls := .type "list", data := .seq its.toArray n } ∧ xs.length ≤ sizeLine := by
  obtain ⟨z, its, n, r, e⟩ := I.hok p _ h
  exact ⟨its, n, r, e, z⟩
/-- the list at p is written by an update of its object -/
theorem Inv.lstUpd {pins : List (Addr × Obj)} {σ : St} {H : Hp} {s : Shared} {p : Addr} {xs ys : List V} {its its' : List Value} {n n' : Nat} {f : Obj → Obj} (I : Inv X pins σ H s) (h : H p = some (.lst xs))
    (ho : s.heap.get? p = some { cls := .type "list", data := .seq its.toArray n }) (hf : f { cls := .type "list", data := .seq its.toArray n } = { cls := .type "list", data := .seq its'.toArray n' }) (r : Vals ys its') (hz : ys.length ≤ sizeLine) (t : Nat) :
    Inv X pins σ (upd H p (.lst ys)) { s with heap := s.heap.update p f, toks := t } := by
  have e : (s.heap.update p f).get? p = some { cls := .type "list", data := .seq its'.toArray n' } := by
    rw [Heap.get?_update_self f ho (by rw [hf] <;> rfl), hf]
  refine I.write (x := p) (e := p) (by rw [h]; trivial) (.inl rfl) (fun b u hb q => (Heap.get?_update_other _ _ (Ne.symm hb)).trans q) ⟨_, e⟩ ?_
  exact ⟨hz, its', n', r, e⟩
def rSetL : V → V → V → Hp → (Hp → Prop) → Prop := fun o i v H Q => ∃ p xs k j, o = .ref p ∧ i = .int k ∧ H p = some (.lst xs) ∧ ixN xs.length k = some j ∧ Q (upd H p (.lst (xs.set j v)))
theorem set_list : PSet X rSetL := by
  intro pins s σ H o i v ov iv u Q I ro ri rv h
  obtain ⟨p, xs, k, j, rfl, rfl, hp, hj, q⟩ := h
  cases ro
  obtain ⟨t, rfl⟩ := ri
  obtain ⟨its, n, r, ho, hz⟩ := I.lst hp
  obtain ⟨h1, h2, h3, h4⟩ := ixN_seq hj
  have hl := r.length
  have hn := line63
  have I' : Inv X pins σ (upd H p (.lst (xs.set j v))) { s with heap := s.heap.update p (Obj.mapSeq (·.setIfInBounds j u)) } :=
    I.lstUpd hp ho (mapSeq_set its n j u) (r.set rv j) (by rw [List.length_set]; exact hz) s.toks
  by_cases h0 : 0 ≤ k
  · have hk : k.toNat = j := by
      rw [seqIndex_of h0 h4] at h1
      exact Option.some.inj h1
    exact PySem.W.ki_setAt ho h0 (by omega) (by rw [List.size_toArray, ← hl]; exact h4) (by rw [hk]; exact ⟨_, I', q⟩)
  · have hk : (k + (its.toArray.size : Int)).toNat = j := by
      rw [seqIndex_neg (by omega) h3] at h1
      rw [List.size_toArray, ← hl]
      exact Option.some.inj h1
    exact PySem.W.ki_setBack ho (by omega) (by rw [List.size_toArray, ← hl]; exact h3) (by omega) (by rw [hk]; exact ⟨_, I', q⟩)

/-! ### slices -/
theorem slice_bounds (lo hi : Option Int) (n : Nat) : (sliceBounds lo hi none n).1 = ((HT.sIx n 0 lo : Nat) : Int) ∧ (sliceBounds lo hi none n).2.1 = ((HT.sIx n n hi : Nat) : Int) ∧ (sliceBounds lo hi none n).2.2 = 1 := by
  refine ⟨?_, ?_, rfl⟩
  · cases lo with
    | none => simp [sliceBounds, HT.sIx]
    | some i =>
      simp only [sliceBounds, HT.sIx, Option.getD_none, show (1 : Int) > 0 by decide, if_true]
      by_cases h : i < 0
      · simp only [h, if_true] <;> omega
      · simp only [h, if_false] <;> omega
  · cases hi with
    | none => simp [sliceBounds, HT.sIx]
    | some i =>
      simp only [sliceBounds, HT.sIx, Option.getD_none, show (1 : Int) > 0 by decide, if_true]
      by_cases h : i < 0
      · simp only [h, if_true] <;> omega
      · simp only [h, if_false] <;> omega
theorem slicePick_cut (its : List Value) (lo hi : Option Int) : slicePick its.toArray lo hi none = ((its.drop (HT.sIx its.length 0 lo)).take (HT.sIx its.length its.length hi - HT.sIx its.length 0 lo)).toArray := by
  obtain ⟨h1, h2, h3⟩ := slice_bounds lo hi its.toArray.size
  unfold slicePick
  rw [h1, h2, h3]
  simp only [sliceRange_one, pick_run, List.size_toArray] <;> rfl
/-- xs[lo:hi] of a list: a new list -/
def rSlL (K : PySem.W.Frag) : V → Option Int → Option Int → Hp → VK → Prop := fun x lo hi H Q => ∃ a xs, x = .ref a ∧ SqL K H a xs ∧ ∀ p, H p = none → Q (.ref p) (upd H p (.lst (cutV xs lo hi)))
theorem sl_list : SlR X (rSlL X.K) := by
  intro pins s σ H x v vl vu lo hi sl Q I rx hs pl pu h
  obtain ⟨a, xs, rfl, hx, q⟩ := h
  cases rx
  obtain ⟨its, r, ht, hz⟩ := I.list hx
  have hlen := r.length
  refine ⟨"list", _, slot_list_getitem.lookup, ht.isList.typeIs, ?_⟩
  refine wpAny_getItem_list_slice ht.isList hs pl pu .none (by simp) ?_ (by rw [List.size_toArray] <;> omega)
  rw [slicePick_cut, ← hlen]
  refine ⟨.ref s.heap.objs.size, _, I.laid (t' := s.toks) (o := .lst (cutV xs lo hi)) (fun b ob q => Heap.get?_push_of_some _ q) (Nat.le_refl _) ?_, rfl, q _ (I.hok.fresh (Nat.le_refl _))⟩
  exact ⟨Nat.le_trans (cutV_length xs lo hi) hz, _, 0, (r.drop (HT.sIx xs.length 0 lo)).take (HT.sIx xs.length xs.length hi - HT.sIx xs.length 0 lo), Heap.get?_push_size _ rfl⟩

/-! ### in, not in: flat items -/
def flatV : V → Bool
  | .non => true
  | .bl _ => true
  | .int _ => true
  | .str _ => true
  | _ => false
/-- == of flat values -/
def eqV : V → V → Bool
  | .non, .non => true
  | .bl a, .bl b => a == b
  | .bl a, .int b => (if a then 1 else 0) == b
  | .int a, .bl b => a == (if b then 1 else 0)
  | .int a, .int b => a == b
  | .str a, .str b => a == b
  | _, _ => false
theorem eqAt_V {A : Around} {s : Shared} {y x : V} {u v : Value} (ry : RelV y u) (rx : RelV x v) (fy : flatV y = true) (fx : flatV x = true) : SeqAt.EqAt A s u v (eqV y x) := by
  cases y with
  | non =>
    cases ry
    cases x with
    | non => cases rx; exact SeqAt.EqAt.same _
    | bl b => cases rx; exact SeqAt.EqAt.none_bool b
    | int b => obtain ⟨t, rfl⟩ := rx; exact SeqAt.EqAt.none_int b t
    | str b => obtain ⟨t, rfl⟩ := rx; exact SeqAt.EqAt.none_str b t
    | _ => exact absurd (show false = true from fx) Bool.false_ne_true
  | bl a =>
    cases ry
    cases x with
    | non => cases rx; exact SeqAt.EqAt.bool_none a
    | bl b => cases rx; exact SeqAt.EqAt.bool_bool a b
    | int b => obtain ⟨t, rfl⟩ := rx; exact SeqAt.EqAt.bool_int a b t
    | str b => obtain ⟨t, rfl⟩ := rx; exact SeqAt.EqAt.bool_str a b t
    | _ => exact absurd (show false = true from fx) Bool.false_ne_true
  | int a =>
    obtain ⟨t', rfl⟩ := ry
    cases x with
    | non => cases rx; exact SeqAt.EqAt.int_none a t'
    | bl b => cases rx; exact SeqAt.EqAt.int_bool a t' b
    | int b => obtain ⟨t, rfl⟩ := rx; exact SeqAt.EqAt.int_int a t' b t
    | str b => obtain ⟨t, rfl⟩ := rx; exact SeqAt.EqAt.int_str a t' b t
    | _ => exact absurd (show false = true from fx) Bool.false_ne_true
  | str a =>
    obtain ⟨t', rfl⟩ := ry
    cases x with
    | non => cases rx; exact SeqAt.EqAt.str_none a t'
    | bl b => cases rx; exact SeqAt.EqAt.str_bool a t' b
    | int b => obtain ⟨t, rfl⟩ := rx; exact SeqAt.EqAt.str_int a t' b t
    | str b => obtain ⟨t, rfl⟩ := rx; exact SeqAt.EqAt.str_str a t' b t
    | _ => exact absurd (show false = true from fx) Bool.false_ne_true
  | _ => exact absurd (show false = true from fy) Bool.false_ne_true
/-- the items' answers, read off the values (a value's own answer does not lean on its token) -/
def eqU (x : V) (u : Value) : Bool := match u with
  | .none => eqV .non x
  | .bool b => eqV (.bl b) x
  | .int i _ => eqV (.int i) x
  | .str z _ => eqV (.str z) x
  | _ => false
theorem eqU_of {x y : V} {u : Value} (r : RelV y u) (f : flatV y = true) : eqU x u = eqV y x := by
  cases y with
  | non => cases r; rfl
  | bl b => cases r; rfl
  | int i => obtain ⟨t, rfl⟩ := r; rfl
  | str z => obtain ⟨t, rfl⟩ := r; rfl
  | _ => exact absurd (show false = true from f) Bool.false_ne_true
theorem any_eqU {x : V} : ∀ {xs : List V} {us : List Value}, Vals xs us → xs.all flatV = true → us.any (eqU x) = xs.any fun y => eqV y x
  | _, _, .nil, _ => rfl
  | y :: xs, u :: us, .cons r t, f => by
    rw [List.all_cons, Bool.and_eq_true] at f
    rw [List.any_cons, List.any_cons, eqU_of r f.1, any_eqU t f.2]
theorem mem_eqAt {A : Around} {s : Shared} {x : V} {v : Value} (rx : RelV x v) (fx : flatV x = true) : ∀ {xs : List V} {us : List Value}, Vals xs us → xs.all flatV = true → ∀ u ∈ us, SeqAt.EqAt A s u v (eqU x u)
  | _, _, .nil, _ => fun u hu => by cases hu
  | y :: xs, u :: us, .cons r t, f => fun u' hu => by
    rw [List.all_cons, Bool.and_eq_true] at f
    rcases List.mem_cons.mp hu with rfl | hu
    · rw [eqU_of r f.1]; exact eqAt_V r rx f.1 fx
    · exact mem_eqAt rx fx t f.2 u' hu
def inV (x : V) (xs : List V) : Bool := xs.any fun y => eqV y x
/-- x in a list or tuple of flat items -/
def rIn (K : PySem.W.Frag) (neg : Bool) : R2 := fun x y H Q => ∃ p xs, y = .ref p ∧ (SqL K H p xs ∨ SqT K H p xs) ∧ flatV x = true ∧ xs.all flatV = true ∧ Q (.bl (if neg then !inV x xs else inV x xs)) H
theorem op_in_seq : OpR X (compareOp .In) (rIn X.K false) := by
  intro pins s σ H x y v u Q I rx ry h
  obtain ⟨p, xs, rfl, hq, fx, fs, q⟩ := h
  cases ry
  rcases hq with hq | hq
  · obtain ⟨its, r, pl, hz⟩ := I.list hq
    refine SeqAt.in_listAt (eqU x) pl.isList (fun w hw => mem_eqAt rx fx r fs w (by simpa using hw)) ⟨.bl _, H, I, rfl, ?_⟩
    rw [show its.toArray.any (eqU x) = its.any (eqU x) by simp, any_eqU r fs]
    exact q
  · obtain ⟨its, r, pl, hz⟩ := I.tuple hq
    refine SeqAt.in_tupleAt (eqU x) pl (fun w hw => mem_eqAt rx fx r fs w (by simpa using hw)) ⟨.bl _, H, I, rfl, ?_⟩
    rw [show its.toArray.any (eqU x) = its.any (eqU x) by simp, any_eqU r fs]
    exact q
theorem op_notIn_seq : OpR X (compareOp .NotIn) (rIn X.K true) := by
  intro pins s σ H x y v u Q I rx ry h
  obtain ⟨p, xs, rfl, hq, fx, fs, q⟩ := h
  cases ry
  rcases hq with hq | hq
  · obtain ⟨its, r, pl, hz⟩ := I.list hq
    refine SeqAt.notIn_listAt (eqU x) pl.isList (fun w hw => mem_eqAt rx fx r fs w (by simpa using hw)) ⟨.bl _, H, I, rfl, ?_⟩
    rw [show its.toArray.any (eqU x) = its.any (eqU x) by simp, any_eqU r fs]
    exact q
  · obtain ⟨its, r, pl, hz⟩ := I.tuple hq
    refine SeqAt.notIn_tupleAt (eqU x) pl (fun w hw => mem_eqAt rx fx r fs w (by simpa using hw)) ⟨.bl _, H, I, rfl, ?_⟩
    rw [show its.toArray.any (eqU x) = its.any (eqU x) by simp, any_eqU r fs]
    exact q
theorem op_notIn_str : OpR X (compareOp .NotIn) (fun x y H Q => ∃ i j, x = .str i ∧ y = .str j ∧ Q (.bl (!(!(Builtin.Str.occurrences j i 0 j.length 1).isEmpty))) H) := by
  intro pins s σ H x y v u Q I rx ry h
  obtain ⟨i, j, rfl, rfl, q⟩ := h
  obtain ⟨t, rfl⟩ := rx
  obtain ⟨t', rfl⟩ := ry
  exact notIn_str ⟨.bl _, H, I, rfl, q⟩

/-! ### len, list(x), tuple(x) of any list or tuple that is read -/
theorem call_len_seq : CallR X (.builtin "len") (fun xs H Q => ∃ p ys, xs = [.ref p] ∧ (SqL X.K H p ys ∨ SqT X.K H p ys) ∧ Q (.int ys.length) H) := by
  intro pins s σ H xs us Q I r h
  obtain ⟨p, ys, rfl, hq, q⟩ := h
  obtain ⟨u, rfl, rx⟩ := vals1 r
  cases rx
  have hn := line63
  rcases hq with hq | hq
  · obtain ⟨its, r', pl, hz⟩ := I.list hq
    have hlen := r'.length
    exact Calls.call_len_list pl.isList (by simp only [List.size_toArray] <;> omega) ⟨.int ys.length, H, I.tok _, ⟨s.toks + 1, by rw [List.size_toArray, hlen]⟩, q⟩
  · obtain ⟨its, r', pl, hz⟩ := I.tuple hq
    have hlen := r'.length
    exact len_tuple pl (by simp only [List.size_toArray] <;> omega) ⟨.int ys.length, H, I.tok _, ⟨s.toks + 1, by rw [List.size_toArray, hlen]⟩, q⟩
theorem call_list_of : CallR X (.type "list") (fun xs H Q => ∃ p ys, xs = [.ref p] ∧ (SqL X.K H p ys ∨ SqT X.K H p ys) ∧ ∀ l, H l = none → Q (.ref l) (upd H l (.lst ys))) := by
  intro pins s σ H xs us Q I r h
  obtain ⟨p, ys, rfl, hq, q⟩ := h
  obtain ⟨u, rfl, rx⟩ := vals1 r
  cases rx
  have fin : ∀ (its : List Value), Vals ys its → ys.length ≤ sizeLine → ∀ (h' : Heap) (c' : Nat), (∀ b o', s.heap.get? b = some o' → h'.get? b = some o') →
      h'.get? s.heap.objs.size = some { cls := .type "list", dict := none, data := .seq its.toArray c', slots := #[] } → EP X pins σ Q (.ref s.heap.objs.size) { s with heap := h' } := fun its r' hz h' c' kp e =>
    ⟨.ref s.heap.objs.size, _, I.laid (t' := s.toks) kp (Nat.le_refl _) (show ObjOk X.prog X.w _ h' _ (.lst ys) from ⟨hz, its, c', r', e⟩), rfl, q _ (I.hok.fresh (Nat.le_refl _))⟩
  rcases hq with hq | hq
  · obtain ⟨its, r', pl, hz⟩ := I.list hq
    have hlen := r'.length
    obtain ⟨o, ho, hc, n, hd⟩ := pl.isList
    exact call_list_seq p (.inl rfl) ho hc hd (fun h' c' kp e => fin its r' hz h' c' kp e) (by simp only [List.size_toArray] <;> omega)
  · obtain ⟨its, r', pl, hz⟩ := I.tuple hq
    have hlen := r'.length
    obtain ⟨o, ho, hc, n, hd⟩ := pl
    exact call_list_seq p (.inr rfl) ho hc hd (fun h' c' kp e => fin its r' hz h' c' kp e) (by simp only [List.size_toArray] <;> omega)

/-! ### the call of a builtin's method: o.m(..) -/
/-- the value is of that builtin type -/
def tyV (K : PySem.W.Frag) (T : String) (x : V) (H : Hp) : Prop := match x with
  | .str _ => T = "str"
  | .int _ => T = "int"
  | .ref p => (T = "list" ∧ ∃ xs, SqL K H p xs) ∨ (T = "tuple" ∧ ∃ o, K.lookup p = some o ∧ o.cls = .type "tuple" ∧ o.dict = none) ∨
      (T = "dict" ∧ ((∃ kvs, H p = some (.dK kvs)) ∨ ∃ kvs, H p = some (.dT kvs))) ∨ (T = "set" ∧ ∃ S n, H p = some (.set S n))
  | _ => False
theorem tyV_is {pins : List (Addr × Obj)} {σ : St} {H : Hp} {s : Shared} {T : String} {x : V} {v : Value} (I : Inv X pins σ H s) (r : RelV x v) (ty : tyV X.K T x H) :
    s.TypeIs v T ∧ ∀ a, v = .ref a → ∃ ob, s.heap.get? a = some ob ∧ ob.dict = none := by
  cases x with
  | str z =>
    obtain ⟨t, rfl⟩ := r
    cases (show T = "str" from ty)
    exact ⟨typeIs_str s z t, fun _ e => nomatch e⟩
  | int i =>
    obtain ⟨t, rfl⟩ := r
    cases (show T = "int" from ty)
    exact ⟨typeIs_int s i t, fun _ e => nomatch e⟩
  | ref p =>
    cases r
    rcases ty with ⟨rfl, xs, hq⟩ | ⟨rfl, o, hk, hc, hd⟩ | ⟨rfl, hk⟩ | ⟨rfl, S, n, hk⟩
    · obtain ⟨its, _, pl, _⟩ := I.list hq
      refine ⟨pl.isList.typeIs, fun a e => ?_⟩
      cases e
      obtain ⟨o, n, e, c, hd, _⟩ := pl
      exact ⟨o, e, hd⟩
    · refine ⟨⟨o, I.kIn p o hk, hc⟩, fun a e => ?_⟩
      cases e
      exact ⟨o, I.kIn _ o hk, hd⟩
    · have z : ∃ o, s.heap.get? p = some o ∧ o.ExactDict := by
        rcases hk with ⟨kvs, hk⟩ | ⟨kvs, hk⟩
        · obtain ⟨_, _, _, _, o, _, _, e, ex, _⟩ := I.hok p _ hk
          exact ⟨o, e, ex⟩
        · obtain ⟨_, _, _, _, o, _, _, e, ex, _⟩ := I.hok p _ hk
          exact ⟨o, e, ex⟩
      obtain ⟨o, e, ex⟩ := z
      refine ⟨⟨o, e, ex.1⟩, fun a e2 => ?_⟩
      cases e2
      exact ⟨o, e, ex.2.1⟩
    · obtain ⟨o, _, _, _, e, ex, _⟩ := I.hok p _ hk
      refine ⟨⟨o, e, ex.1⟩, fun a e2 => ?_⟩
      cases e2
      exact ⟨o, e, ex.2.1⟩
  | _ => exact False.elim ty
def tBM0 (K : PySem.W.Frag) (T : String) (r : V → List V → Hp → VK → Prop) (to : TE) : TE := fun σ H Q => to σ H fun x H1 => tyV K T x H1 ∧ r x [] H1 Q
def tBM (K : PySem.W.Frag) (T : String) (r : V → List V → Hp → VK → Prop) (to : TE) (t : TA) : TE := fun σ H Q => to σ H fun x H1 => tyV K T x H1 ∧ t σ H1 fun xs H2 => r x xs H2 Q
variable {o e : Expr} {es : List Expr} {to : TE} {t : TA} {name : Str} {apos cpos : Pos} {T id : String} {r : V → List V → Hp → VK → Prop}
theorem pe_bm0 (pa : PlainAttrs T) (slot : Slot T name id) (hty : typeOf (.builtin id) = pure (.type "method_descriptor")) (hm : MtR X id r) (ho : PE X o to)
    (hbase : attributeBase o name X.env (eval o X.env) = eval o X.env := by rfl) (hline : (apos.endLine == cpos.line) = true := by rfl) : PE X (.Call (.Attribute o name apos) [] [] cpos) (tBM0 X.K T r to) := by
  intro pins s σ H Q I h
  refine wpAny_Call_method0_late hbase hline (thn (ho pins s σ H _ I h) fun v s1 ⟨x, H1, I1, r1, ty, q1⟩ => ?_)
  obtain ⟨h1, h2⟩ := tyV_is I1 r1 ty
  exact ⟨T, id, pa, slot, hty, h1, h2, Calls.callWith_builtin rfl (PySem.evalArgs_none (hm pins s1 σ H1 x [] v [] Q I1 r1 .nil q1))⟩
theorem pe_bm (pa : PlainAttrs T) (slot : Slot T name id) (hty : typeOf (.builtin id) = pure (.type "method_descriptor")) (hm : MtR X id r) (ho : PE X o to) (ha : PA X (e :: es) t)
    (hbase : attributeBase o name X.env (eval o X.env) = eval o X.env := by rfl)
    (hfew : ((backTo cpos (starEach (e :: es) X.env)).all (fun x => !x.1) && (backToKw cpos (keywordEach [] X.env)).all (fun x => x.1.isSome)
      && decide ((e :: es).length + ([] : List Keyword).length + (if ([] : List Keyword).isEmpty then 0 else 1) < 30)) = true := by rfl)
    (hline : (apos.endLine == cpos.line) = true := by rfl) (hs : starEach (e :: es) X.env = (false, eval e X.env) :: starEach es X.env := by rfl) (hplain : (backTo cpos (starEach es X.env)).any (·.1) = false := by rfl) :
    PE X (.Call (.Attribute o name apos) (e :: es) [] cpos) (tBM X.K T r to t) := by
  intro pins s σ H Q I h
  refine wpAny_Call_method_late hbase hfew hline rfl (thn (ho pins s σ H _ I h) fun v s1 ⟨x, H1, I1, r1, ty, q1⟩ => ?_)
  obtain ⟨h1, h2⟩ := tyV_is I1 r1 ty
  refine ⟨T, id, pa, slot, hty, h1, h2, ?_⟩
  have hA := ha cpos pins s1 σ H1 _ I1 q1
  rw [hs] at hA ⊢
  refine Calls.callWith_builtin (by show (false || (backTo cpos (starEach es X.env)).any (·.1)) = false; rw [hplain] <;> rfl) (Calls.evalArgs_plain ?_)
  exact thn hA fun us s2 ⟨vs, H2, I2, r2, q2⟩ => hm pins s2 σ H2 x vs v us Q I2 r1 r2 q2
/- xs.append(e), list.index on a module's tuple .. are MtR facts of 06m -/
end
end L2

namespace L2
open PySem PySem.Spec PyProof.Rows

def MtM (X : Cx) (id : String) (r : V → List V → Hp → VK → Prop) : Prop :=
  ∀ (pins : List (Addr × Obj)) (s : Shared) (σ : St) (H : Hp) (x : V) (xs : List V) (v : Value) (us : List Value) (Q : VK), Inv X pins σ H s → RelV x v → Vals xs us → r x xs H Q →
    wpAny (model X.prog X.w) X.A (call (.builtin id) (v :: us)) (EP X pins σ Q) X.xe s

/-! ### lists of values -/
theorem Vals.one : ∀ {x : V} {us : List Value}, Vals [x] us → ∃ u, us = [u] ∧ RelV x u
  | _, _, .cons r .nil => ⟨_, rfl, r⟩
theorem Vals.zero : ∀ {us : List Value}, Vals [] us → us = []
  | _, .nil => rfl
theorem Vals.dropLast {xs : List V} {us : List Value} (h : Vals xs us) : Vals xs.dropLast us.dropLast := by
  induction h with
  | nil => exact .nil
  | cons r t ih =>
    cases t with
    | nil => exact .nil
    | cons q t' => exact .cons r ih
theorem erase_last {α : Type} (l : List α) : l.eraseIdx (l.length - 1) = l.dropLast := by
  induction l with
  | nil => rfl
  | cons a r ih =>
    cases r with
    | nil => rfl
    | cons b r =>
      have e : (a :: b :: r).length - 1 = ((b :: r).length - 1) + 1 := by
        have h1 : (a :: b :: r).length = r.length + 2 := rfl
        have h2 : (b :: r).length = r.length + 1 := rfl
        omega
      rw [e, List.eraseIdx_cons_succ, ih]
      all_goals rfl

section
variable {X : Cx} {pins : List (Addr × Obj)} {σ : St} {H : Hp} {s : Shared} {l b : Addr} {xs ys zs : List V}

/-! ### the two steps: a tracked list is rewritten, a new list is laid -/
theorem Inv.lset {its its' : List Value} {n : Nat} {f : Array Value → Array Value} {t' : Nat} (I : Inv X pins σ H s) (hH : H l = some (.lst xs))
    (e : s.heap.get? l = some { cls := .type "list", data := .seq its.toArray n }) (hf : f its.toArray = its'.toArray) (hv : Vals ys its') (hz : ys.length ≤ sizeLine) :
    Inv X pins σ (upd H l (.lst ys)) { s with heap := s.heap.update l (Obj.mapSeq f), toks := t' } := by
  have q := PySem.IsL.update e f
  rw [hf] at q
  refine I.write (x := l) (e := l) (by rw [hH]; exact trivial) (.inl rfl) (fun b' u hb hu => (Heap.get?_update_other s.heap (Obj.mapSeq f) (Ne.symm hb)).trans hu) ⟨_, q⟩ ?_
  exact ⟨hz, its', _, hv, q⟩
theorem Inv.lnew {its : List Value} {t' : Nat} (I : Inv X pins σ H s) (hv : Vals ys its) (hz : ys.length ≤ sizeLine) :
    Inv X pins σ (upd H s.heap.objs.size (.lst ys)) { s with heap := s.heap.push { cls := .type "list", data := .seq its.toArray }, toks := t' } :=
  I.laid (fun _ _ q => Heap.get?_push_of_some _ q) (Nat.le_refl _) ⟨hz, its, 0, hv, Heap.get?_push_size _ rfl⟩
theorem Inv.fresh (I : Inv X pins σ H s) : H s.heap.objs.size = none := I.hok.fresh (Nat.le_refl _)
theorem Inv.lstM (I : Inv X pins σ H s) (hH : H l = some (.lst xs)) : xs.length ≤ sizeLine ∧ ∃ (its : List Value) (n : Nat), Vals xs its ∧ xs.length = its.length ∧ s.heap.get? l = some { cls := .type "list", data := .seq its.toArray n } := by
  obtain ⟨z, its, n, r, e⟩ := I.hok l _ hH
  exact ⟨z, its, n, r, r.length, e⟩

theorem notLongL {n : Nat} (h : n ≤ sizeLine) : Builtin.List.listTooLong n = false := by
  unfold Builtin.List.listTooLong
  exact decide_eq_false (by omega)
end

section
variable {X : Cx}

/-! ### methods -/
def rAppend : V → List V → Hp → VK → Prop := fun x vs H Q => ∃ l xs y, x = .ref l ∧ vs = [y] ∧ H l = some (.lst xs) ∧ xs.length < sizeLine ∧ Q .non (upd H l (.lst (xs ++ [y])))
theorem mt_append : MtM X "list.append" rAppend := by
  intro pins s σ H x vs v us Q I rx rv h
  obtain ⟨l, xs, y, rfl, rfl, hH, hz, q⟩ := h
  cases rx
  obtain ⟨u, rfl, ru⟩ := rv.one
  obtain ⟨z, its, n, r, hl, e⟩ := I.lstM hH
  refine call_meets F.slot_list_append ⟨_, e, rfl⟩ F.entry_list_append (F.args_list_append_2 _ _) (PySem.list_append l its.toArray n u (by rw [List.size_toArray]; omega)) ⟨e, ?_⟩
  refine ⟨.non, _, I.lset (its' := its ++ [u]) hH e (by simp) (r.append (.cons ru .nil)) ?_, rfl, q⟩
  rw [List.length_append, List.length_singleton]
  omega

def rExtend : V → List V → Hp → VK → Prop := fun x vs H Q => ∃ l b xs zs, x = .ref l ∧ vs = [.ref b] ∧ H l = some (.lst xs) ∧ H b = some (.lst zs) ∧ xs.length + zs.length ≤ sizeLine ∧ Q .non (upd H l (.lst (xs ++ zs)))
theorem mt_extend : MtM X "list.extend" rExtend := by
  intro pins s σ H x vs v us Q I rx rv h
  obtain ⟨l, b, xs, zs, rfl, rfl, hH, hB, hz, q⟩ := h
  cases rx
  obtain ⟨u, rfl, ru⟩ := rv.one
  cases ru
  obtain ⟨z, its, n, r, hl, e⟩ := I.lstM hH
  obtain ⟨z2, its2, n2, r2, hl2, e2⟩ := I.lstM hB
  have hsz : its.toArray.size + its2.toArray.size ≤ sizeLine := by rw [List.size_toArray, List.size_toArray]; omega
  have hlong : ¬ (!its.toArray.isEmpty && Builtin.List.listTooLong (its.toArray.size + its2.toArray.size)) = true := by
    rw [notLongL hsz, Bool.and_false]
    exact Bool.false_ne_true
  refine call_meets F.slot_list_extend ⟨_, e, rfl⟩ F.entry_list_extend (F.args_list_extend_2 _ _)
    (AutoSeq1.list_extend_list_list_0 l its.toArray n b its2.toArray n2 hlong (by rw [List.size_toArray]; omega) (by omega)) ⟨e, e2, ?_⟩
  refine ⟨.non, _, I.lset (its' := its ++ its2) hH e (by simp) (r.append r2) ?_, rfl, q⟩
  rw [List.length_append]
  omega

def rPop : V → List V → Hp → VK → Prop := fun x vs H Q => ∃ l xs y, x = .ref l ∧ vs = [] ∧ H l = some (.lst xs) ∧ xs[xs.length - 1]? = some y ∧ Q y (upd H l (.lst xs.dropLast))
theorem mt_pop : MtM X "list.pop" rPop := by
  intro pins s σ H x vs v us Q I rx rv h
  obtain ⟨l, xs, y, rfl, rfl, hH, hy, q⟩ := h
  cases rx
  have hus := rv.zero
  subst hus
  obtain ⟨z, its, n, r, hl, e⟩ := I.lstM hH
  obtain ⟨u, hu, ru⟩ := r.get hy
  have hy' : its.toArray[its.toArray.size - 1]? = some u := by
    show its.toArray[its.length - 1]? = some u
    rw [← Array.getElem?_toList, ← hl]
    exact hu
  refine call_meets F.slot_list_pop ⟨_, e, rfl⟩ F.entry_list_pop (F.args_list_pop_1 _) (MeetsSeq.list_pop_last l its.toArray n u hy' (by rw [List.size_toArray]; omega)) ⟨e, ?_⟩
  refine ⟨y, _, I.lset (its' := its.dropLast) hH e ?_ r.dropLast ?_, ru, q⟩
  · show its.toArray.eraseIdxIfInBounds (its.toArray.size - 1) = its.dropLast.toArray
    rw [List.size_toArray, List.eraseIdxIfInBounds_toArray, erase_last]
  · rw [List.length_dropLast]
    omega




/-! ### list + list, list += list, list * int -/
def rCat : R2 := fun x y H Q => ∃ l b xs zs, x = .ref l ∧ y = .ref b ∧ H l = some (.lst xs) ∧ H b = some (.lst zs) ∧ xs.length + zs.length ≤ sizeLine ∧ ∀ p, H p = none → Q (.ref p) (upd H p (.lst (xs ++ zs)))
theorem op_cat : OpR X (binaryOp .Add) rCat := by
  intro pins s σ H x y v u Q I rx ry h
  obtain ⟨l, b, xs, zs, rfl, rfl, hH, hB, hz, q⟩ := h
  cases rx
  cases ry
  obtain ⟨z, its, n, r, hl, e⟩ := I.lstM hH
  obtain ⟨z2, its2, n2, r2, hl2, e2⟩ := I.lstM hB
  refine PySem.P.add_list e e2 ?_ (by rw [List.size_toArray, List.size_toArray]; omega)
  have ea : its.toArray ++ its2.toArray = (its ++ its2).toArray := by simp
  rw [ea]
  exact ⟨.ref _, _, I.lnew (t' := s.toks) (r.append r2) (by rw [List.length_append]; omega), rfl, q _ I.fresh⟩

/-! ### del xs[i] -/
end

/-! ### xs[a:b] = ys -/
section
variable {prog : Program} {w : World} {A : Around} {E : Value → Shared → Prop} {s : Shared}
set_option maxRecDepth 100000 in
end

section
variable {X : Cx}
end
end L2

namespace Att
open PySem PySem.W PySem.Calls PyProof.Rows

/-! ### the script -/
theorem ints_of_wellAll {P : Params} {h : Heap} : ∀ (ns : List Int) (vs : List Value), WellAll P h vs (ns.map WData.int) → IntsAre vs ns := by
  intro ns
  induction ns with
  | nil =>
    intro vs w
    rw [List.map_nil] at w
    cases w
    exact .nil
  | cons n ns ih =>
    intro vs w
    rw [List.map_cons] at w
    cases w with
    | cons a b =>
      cases a
      exact .cons _ _ (ih _ b)

theorem script_of {l : OpenLaw} {n : Nat} (hn : l.most = some n) {P : Params} {h : Heap} {args : List WData} {vals : List Value}
    (hpre : l.row.toRowW.claim.pre args = true) (hwl : WellAll P h vals args) :
    ∃ a vs ns, vals = [Value.ref a] ∧ args = [WData.list (ns.map WData.int)] ∧ h.get? a = some { cls := .type "list", data := .seq vs.toArray } ∧ IntsAre vs ns ∧ ns.length ≤ n := by
  have hsh : WShape.hasAll [] args [.list .int] = true := (pre_splitW hpre).1
  have hc : l.pre.holds [] { args := args } = true := (pre_splitW hpre).2
  obtain ⟨d, r, rfl, h1, h2⟩ := hasAllW_cons hsh
  obtain rfl := hasAllW_nil h2
  obtain ⟨xs, rfl, h3⟩ := hasW_list h1
  obtain ⟨ns, rfl⟩ := items_int h3
  have hlen : ns.length ≤ n := by
    unfold OpenLaw.pre at hc
    have h4 : (WTm.not (.lt (.lit (.int (n : Int))) (.len (.arg 0)))).holds [] { args := [.list (ns.map .int)] } = true := by
      have h4 := (holds_andW hc).1
      rw [hn] at h4
      exact h4
    have h5 := condW_of h4 (w_not (w_lt w_lit (w_len_list (w_arg rfl))))
    rw [List.length_map] at h5
    refine Nat.le_of_not_lt fun q => ?_
    have q' : (n : Int) < ((ns.length : Nat) : Int) := by omega
    first
      | (rw [decide_eq_true q'] at h5; exact absurd h5 (by decide))
      | (simp at h5; omega)
  cases hwl with
  | cons w1 w2 =>
    cases w2
    cases w1 with
    | list ho hall => exact ⟨_, _, ns, rfl, rfl, ho, ints_of_wellAll ns _ hall, hlen⟩

theorem post_true (l : OpenLaw) (args : List WData) : l.row.toRowW.claim.post args (.bool true) args = true :=
  postW_of (r := l.row.toRowW) (X := (true == true))
    (show WShape.has [] (.bool true) .bool = true by first | rfl | decide | simp [WShape.has, WShape.arms, WShape.armsAll])
    (show (WTm.eq .res (.lit (.bool true))).value [] { args := args, res := some (.bool true), after := args } = some (.bool (true == true)) from w_eq_bool (w_res rfl) w_lit) rfl

/-! ### the attachment: holds_open's last premise (the goal 'hc' behind k_head) from a wpAny of the law's body -/

/-- the same from a codeAny of the CALL (for a layer whose function contracts speak of calls) -/
theorem attach_call {l : OpenLaw} {n : Nat} {q : Program} {loose : List Str} {XP : (Str → Option Value) → Heap → Prop} {YP : World → Heap → Prop} {d : DefRec}
    (hn : l.most = some n) (hdf : d.params.defaults = [])
    (call : ∀ (w : World) (s₀ s₁ : Shared) (mg mb : Str → Option Value) (fa : Addr) (o : Obj) (pm cd doc : Value) (a : Addr) (vs : List Value) (ns : List Int),
      Ground q loose [] XP w s₀ mg mb s₁.heap → YP w s₁.heap →
      s₁.heap.get? fa = some o → o.data = .func (docDef d.name d.params d.body d.scope pm cd doc) → s₁.heap.CodeRec cd d.name → mg d.name = some (.ref fa) →
      s₁.heap.get? a = some { cls := .type "list", data := .seq vs.toArray } → IntsAre vs ns → ns.length ≤ n → s₁.gens = #[] →
      codeAny (model l.prog w) callerA (.call (.ref fa) ⟨[.ref a], []⟩) (fun r s' => r = .ok (.ret (.bool true)) ∧ OldK s₁.heap s'.heap ∧ s'.os = s₁.os ∧ AllBare s'.gens) s₁) :
    WalkO q loose XP YP l.row.toRowW d [] (fun f vs => PySem.call f vs) := by
  intro w s₀ s₁ mg mb G Y fa o pm cd doc dV kV ho hd hcd hD hmg hg args vals as hpre hlay hrd hwl hlo
  obtain rfl : dV = .none := Dflts.none hD hdf
  obtain rfl : kV = .none := Dflts.noKw hD
  obtain ⟨a, vs, ns, rfl, rfl, hobj, hints, hlen⟩ := script_of hn hpre hwl
  refine enter_call (codeAny_mono (call w s₀ s₁ mg mb fa o pm cd doc a vs ns G Y ho (fd_plain hd) hcd hmg hobj hints hlen hg) fun r s' hq => ?_)
  obtain ⟨rfl, h2, h3, h4⟩ := hq
  exact ⟨.inl ⟨.bool true, .bool true, [], rfl, fun _ => rfl, .bool true, post_true l _, fun _ => ⟨List.Pairwise.nil, fun _ hm => (nomatch hm)⟩⟩, h2, h3, h4⟩


/-! ### rules over ANY heap (no ledger) from facts about the written part K: the library's own take a ledger (News) for what they write -/
section
variable {prog : Program} {w : World} {A : Around} {E : Value → Shared → Prop} {s : Shared} {K : Frag}


/-- C(..): dict at size, instance at size + 1, then __init__ -/
theorem make_obj {R : Result → Shared → Prop} {C fI : Addr} {rest : List Value} {kw : List (Str × Value)}
    (X : K.In s.heap) (hm : makesIn K C = true) (hi : findIn K (.ref C) "__init__" = some (some (.ref fI))) (hf : isFn K (.ref fI) = true)
    (h : codeAny (model prog w) (A.under (.builtin "type.__call__" ⟨.ref C :: rest, kw⟩)) (.call (.ref fI) ⟨.ref (s.heap.objs.size + 1) :: rest, kw⟩) (InitBack (s.heap.objs.size + 1) R)
      { s with heap := (s.heap.push emptyDict).push (instObj C s.heap.objs.size) }) : codeAny (model prog w) A (.call (.ref C) ⟨rest, kw⟩) R s := by
  obtain ⟨hh, g, d, t, os⟩ := s
  exact make_core (makes_of X hm) (looks_findIn X hi) (fun self => bind_fn X self (beq_iff_eq.mp hf)) (.inl rfl) h

/-- x.name where the instance's dict holds the name and the class does not -/
theorem get_field {x C : Addr} {ox : Obj} {es : List DictEntry} {n : Nat} {name : Str} {expr : Bool} {v : Value} {Q : Value → Shared → Prop}
    (X : K.In s.heap) (I : PySem.W.InstAt s.heap x ox C (some (dictOf es n))) (hg : plainGet K C name = true) (hh : hasDictIn K C = true) (ha : findIn K (.ref C) name = some none)
    (hl : getL name es = some (some v)) (hv : handedIn v = true) (h : Q v { s with toks := s.toks + 1 }) : wpAny (model prog w) A (getAttr (.ref x) name expr) Q E s :=
  get_value X I (plainGet_of hg).1 (findObj_own hh ha rfl hl) hv h


/-! the whole heap as the ledger: makes every rule that writes through a ledger a rule over any heap -/

end
end Att

namespace L2
open PySem PySem.Spec PyProof.Rows

theorem vals_ints : ∀ {vs : List Value} {ns : List Int}, IntsAre vs ns → Vals (ns.map V.int) vs
  | _, _, .nil => .nil
  | _, _, .cons n t h => .cons ⟨t, rfl⟩ (vals_ints h)

/-- nothing is tracked but the script, known to the object (or it is an object of the module) -/
def Only (H : Hp) : Prop := ∀ b, H b = none ∨ ∃ o xs, H b = some (.frz o (.lst xs))

/-- THE HEAD: the law's promise, at the heap behind the top. F, the promise of the law's def, may use that base is part of the heap (so K.In base, base.Ns mainGlobals mg stand in Mod) -/
theorem law_call {P : Program} {w : World} {K : PySem.W.Frag} {mg mb : Str → Option Value} {CX : CXT} {k : Nat} {fa a : Addr} {fd : FuncData} {x : Str} {sp : Sp} {s₁ : Shared} {vs : List Value} {ns : List Int}
    (KX : K.In s₁.heap) (hns : s₁.heap.Ns mainGlobals mg) (hb : s₁.heap.Ns builtinsNs mb) (hbb : ∀ x : Str, x ≠ "__name__" → mb x = bootBuiltins x) (hlim : s₁.heap.NoLimit) (hg : s₁.gens = #[])
    (ha : s₁.heap.get? a = some { cls := .type "list", data := .seq vs.toArray }) (hi : IntsAre vs ns) (hl : ns.length ≤ sizeLine) (hr : Room k callerA)
    (F : ∀ base : Heap, K.In base → base.Ns mainGlobals mg → FnOk P w K mg base CX k fa fd [x] sp) (hbind : ∀ (s : Shared) (u : Value), BindsTo s fd ⟨[u], []⟩ [(x, u)])
    (hsp : ∀ H : Hp, Only H → SqL K H a (ns.map V.int) → sp [.ref a] H (fun v _ => v = .bl true) fun _ _ _ => False)
    (hCX : ∀ H e s', CX [] H s₁ (fun _ _ _ => False) e s' → False) :
    codeAny (model P w) callerA (.call (.ref fa) ⟨[.ref a], []⟩) (fun r s' => r = .ok (.ret (.bool true)) ∧ OldK s₁.heap s'.heap ∧ s'.os = s₁.os ∧ AllBare s'.gens) s₁ := by
  have rv := vals_ints hi
  have lenV := hi.length
  -- from an abstract heap in which nothing but the script may be tracked
  have core : ∀ H : Hp, Only H → SqL K H a (ns.map V.int) → HOk P w H s₁.heap → (∀ b, H b ≠ none → b = a) → (H a ≠ none → K.lookup a = none) →
      codeAny (model P w) callerA (.call (.ref fa) ⟨[.ref a], []⟩) (fun r s' => r = .ok (.ret (.bool true)) ∧ OldK s₁.heap s'.heap ∧ s'.os = s₁.os ∧ AllBare s'.gens) s₁ := by
    intro H hO hS hok hA hK
    have base_of : ∀ {b : Addr} {o : Obj}, s₁.heap.get? b = some o → H b = none → (hidT s₁.heap H).get? b = some o := fun e n => hidT_get e n
    have noA : ∀ {b : Addr} {o : Obj} {es : Array DictEntry} {ep : Nat}, s₁.heap.get? b = some o → o.data = .dict es ep → H b = none := fun {b o es ep} e d => by
      cases q : H b with
      | none => rfl
      | some u =>
        have e' : b = a := hA b (by rw [q]; simp)
        subst e'
        rw [ha] at e; cases e
        have d' : Data.seq vs.toArray _ = Data.dict es ep := d
        cases d'
    have nsK : ∀ {b : Addr} {m : Str → Option Value}, s₁.heap.Ns b m → (hidT s₁.heap H).Ns b m := fun {b m} ⟨o, es, ep, e, d, r⟩ => ⟨o, es, ep, base_of e (noA e d), d, r⟩
    have hKb : K.In (hidT s₁.heap H) := fun b o e => base_of (KX b o e) (by
      cases q : H b with
      | none => rfl
      | some u =>
        have e' : b = a := hA b (by rw [q]; simp)
        subst e'
        rw [hK (by rw [q]; simp)] at e; cases e)
    have hM : Mod K mg (hidT s₁.heap H) := ⟨hKb, nsK hns, ⟨mb, nsK hb, hbb⟩, let ⟨mc, h1, h2⟩ := hlim; ⟨mc, nsK h1, h2⟩⟩
    have e0 : Env0 P w K mg (hidT s₁.heap H) callerA [] s₁ H := ⟨rfl, hM, fun b o e => of_hidT e, Nat.le_of_eq (hidT_size _ _), trivial, fun b hb => absurd (show b ∈ ([] : List Addr) from hb) (by simp), hok, .of_eq hg⟩
    refine codeAny_mono ((F _ hKb (nsK hns)).run callerA [] s₁ H ⟨[.ref a], []⟩ [.ref a] [.ref a] _ _ hr e0 (hbind s₁ (.ref a)) (.cons rfl .nil) (hsp H hO hS)) fun r s' h => ?_
    cases r with
    | error e => exact (hCX H e s' h).elim
    | ok fl =>
      cases fl with
      | next => exact False.elim h
      | brk => exact False.elim h
      | cont => exact False.elim h
      | ret u =>
        obtain ⟨v, H', os, bare, un, hok', r', q⟩ := h
        have q' : v = .bl true := q
        subst q'
        obtain rfl : u = Value.bool true := r'
        refine ⟨rfl, OldK.of_keep fun b o e => ?_, os, bare⟩
        cases q : H b with
        | none => exact un.keep b o e q (by intro z; exact absurd (show b ∈ ([] : List Addr) from z) (by simp)) (by simp)
        | some u =>
          rcases hO b with z | ⟨ob, xs, z⟩
          · rw [q] at z; cases z
          · have z2 := un.frzs b ob _ z
            obtain ⟨e1, _⟩ := hok b _ z
            obtain ⟨e2, _⟩ := hok' b _ z2
            rw [e] at e1; cases e1
            exact e2
  cases hk : K.lookup a with
  | some o =>
    -- the script is one of the module's own objects
    have e := KX a o hk
    rw [ha] at e
    cases e
    refine core (fun _ => none) (fun _ => .inl rfl) (.inr ⟨_, vs.toArray, _, hk, rfl, rfl, rfl, by rw [List.size_toArray, lenV]; exact hl, by simpa using rv⟩) (fun b u z => by have z' : (none : Option HO) = some u := z; cases z') (fun b z => absurd rfl z) fun z => absurd rfl z
  | none =>
    refine core (fun b => if b = a then some (.frz { cls := .type "list", data := .seq vs.toArray } (.lst (ns.map V.int))) else none) (fun b => ?_) (.inl (.inr ⟨{ cls := .type "list", data := .seq vs.toArray }, if_pos rfl⟩)) (fun b u z => ?_) (fun b z => ?_) fun _ => hk
    · by_cases hb : b = a
      · exact .inr ⟨_, _, if_pos hb⟩
      · exact .inl (if_neg hb)
    · by_cases hb : b = a
      · have z' := (if_pos hb).symm.trans z
        cases z'
        subst hb
        exact ⟨ha, by rw [List.length_map]; exact hl, vs, _, rv, ha⟩
      · have z' := (if_neg hb).symm.trans z
        cases z'
    · by_cases hb : b = a
      · exact hb
      · exact absurd (if_neg hb) z
end L2

namespace L2
open PySem PySem.Spec PyProof.Rows


/-- the goal that k_head leaves (case hc), from the law's promise. F gives the function object fd (K's own) once, then the promise over every base -/
theorem walk_of {l : PySem.W.OpenLaw} {n k : Nat} {q : Program} {loose : List Str} {XP : (Str → Option Value) → Heap → Prop} {YP : World → Heap → Prop} {d : DefRec} {K : Params → PySem.W.Frag} {CX : World → CXT} {sp : World → Sp} {x : Str}
    (hn : l.most = some n) (hn2 : n ≤ sizeLine) (hdf : d.params.defaults = []) (hr : Room k callerA)
    (hY : ∀ (w : World) (h : Heap), YP w h → (K w.params).In h)
    (F : ∀ (w : World) (mg : Str → Option Value) (fa : Addr) (h : Heap), (K w.params).In h → h.Ns mainGlobals mg → mg d.name = some (.ref fa) →
      ∃ fd : FuncData, (∀ (s : Shared) (u : Value), BindsTo s fd ⟨[u], []⟩ [(x, u)]) ∧
        ∀ base : Heap, (K w.params).In base → base.Ns mainGlobals mg → FnOk l.prog w (K w.params) mg base (CX w) k fa fd [x] (sp w))
    (hsp : ∀ (w : World) (H : Hp) (a : Addr) (ns : List Int), ns.length ≤ n → Only H → SqL (K w.params) H a (ns.map V.int) → sp w [.ref a] H (fun v _ => v = .bl true) fun _ _ _ => False)
    (hCX : ∀ (w : World) (H : Hp) (s : Shared) (e : Value) (s' : Shared), CX w [] H s (fun _ _ _ => False) e s' → False) :
    PySem.W.WalkO q loose XP YP l.row.toRowW d [] (fun f vs => PySem.call f vs) := by
  refine Att.attach_call hn hdf fun w s₀ s₁ mg mb fa o pm cd doc a vs ns G Y ho hd hcd hmg hobj hints hlen hg => ?_
  have KX := hY w _ Y
  obtain ⟨fd, hb, hF⟩ := F w mg fa _ KX G.T.g hmg
  exact law_call KX G.T.g G.T.b G.T.builtins G.T.nolimit hg hobj hints (Nat.le_trans hlen hn2) hr hF hb (fun H hO hS => hsp w H a ns hlen hO hS) fun H e s' => hCX w H s₁ e s'
end L2

/- THE LAST THEOREM (shape; LID, My.* are yours):
   My.Adr: a structure of the addresses that your layer names (classes, functions); My.Txt K t: a structure (Prop) of the equations over K;
   My.txt_mk : {K} {implicit addresses ..} (e1 : nsIn K mainGlobals "law" = some (some (.ref f))) (e2 : K.lookup f = some ⟨oc, od, .func (fnOf "law" "law" params body scope dV kV doc pm an cdv ct), sl⟩) (e3 : codeIn K cdv "law" = true) .. : ∃ t, My.Txt K t

set_option maxRecDepth 100000 in
set_option maxHeartbeats 0 in
theorem PySem.Challenge.cw_LID_holds : PySem.Challenge.rw_LID.Holds := by
  w_on; o_law; k_head; (case hw => w_witness2)
  k_fill
  refine L2.walk_of (l := PySem.Challenge.rw_LID) (n := 63) (k := 40) (x := "script") (CX := fun w => ..) (sp := fun _ => My.sp_law) rfl (by decide) rfl ⟨rfl, by decide, by decide⟩ (fun w h Y => PySem.W.kIn_of Y) ?F ?S ?C
  case F =>
    intro w mg fa h KX G hmg
    have T : ∃ t, My.Txt (L2.KOf KX) t := by
      dsimp only [L2.KOf]                          -- K must stand as «<heap const> w.params» for k_is
      refine' My.txt_mk ?e1 ?e2 ?e3 ..
      (case e1 => PySem.W.k_is)                    -- in the order: a name -> its address -> its object -> its parts
      (case e2 => PySem.W.k_is)
      ..
    obtain ⟨t, T⟩ := T
    have e0 := hmg.symm.trans (PySem.W.mg_of KX G T.law)
    cases e0                                       -- fa is the law's own address
    exact ⟨_, fun s u => .of_eq rfl, fun base kb nb => My.law_fn T kb nb⟩     -- if «.of_eq rfl» comes too early: refine' ⟨_, ?b, fun base kb nb => My.law_fn T kb nb⟩; exact fun s u => .of_eq rfl
  case S => exact fun w H a ns hl hO hS => ..
  case C => exact ..
(the tactic k_is has no namespace: write k_is) -/

/-! SHORT WORDS over the layer: a def of the text, its body, what a loop and a test want. -/
namespace L2
open PySem PySem.Spec PyProof.Rows

/-! ### the text by places -/
/-- the j-th statement of a class's body -/
def inClass (s : Stmt) (j : Nat) : Stmt := match s with
  | .ClassDef _ _ _ body _ _ _ _ _ _ _ => body.getD j (.Pass ⟨0, 0, 0, 0⟩)
  | _ => .Pass ⟨0, 0, 0, 0⟩
def defArgs (s : Stmt) : Arguments := match s with
  | .FunctionDef _ a _ _ _ _ _ _ _ _ => a
  | _ => { posonlyargs := [], args := [], vararg := none, kwonlyargs := [], kw_defaults := [], kwarg := none, defaults := [] }
def defBody (s : Stmt) : List Stmt := match s with
  | .FunctionDef _ _ b _ _ _ _ _ _ _ => b
  | _ => []
def defScope (s : Stmt) : Scope := match s with
  | .FunctionDef _ _ _ _ _ _ sc _ _ _ => sc
  | _ => { kind := .function, names := [], isGenerator := false, isCoroutine := false }

/-! ### no exception leaves a def -/
abbrev CX0 : CXT := fun _ _ _ _ _ _ => False
abbrev E0 : XK := fun _ _ _ => False
theorem pass0 {X : Cx} : Passes CX0 X E0 := fun _ _ _ _ _ _ _ h => h.elim

/-! ### a def (or method) of the text as it stands behind the top -/
structure Fun (K : PySem.W.Frag) (x qual : Str) (st : Stmt) (f : Addr) (fd : FuncData) : Prop where
  ex : ∃ (oc : Value) (od : Option Addr) (kV doc pm : Value) (an : Option Addr) (cdv ct : Value) (osl : Array (Option Value)),
    fd = PySem.W.fnOf x qual (defArgs st) (defBody st) (defScope st) .none kV doc pm an cdv ct ∧ K.lookup f = some ⟨oc, od, .func fd, osl⟩ ∧ PySem.W.codeIn K cdv qual = true
  kp : PySem.W.keepIn K (.ref f) = true
section
variable {P : Program} {w : World} {K : PySem.W.Frag} {mg : Str → Option Value} {base : Heap}
/-- THE RULE for a def: its body as a term of rules, and the reading of that term -/
theorem Fun.ok {x qual : Str} {st : Stmt} {f : Addr} {fd : FuncData} {N ps : List Str} {k : Nat} {sp : Sp} (F : Fun K x qual st f fd) (S : FnScope N ps (defScope st)) (len : ∀ vs H Q E, sp vs H Q E → vs.length = ps.length)
    (hbody : ∀ (cdv : Value) (A : Around) (outer : List Env) (s : Shared) (H : Hp) (vs : List V) (Q : VK) (E : XK), Room k (A.deeper (envOfC qual (defScope st) s.heap.objs.size f cdv)) → sp vs H Q E →
      ∃ t, PSs (cxOf CX0 P w K mg base N qual (defScope st) f cdv A outer s H E).nox (defBody st) t ∧ t { nx := fun _ H' => Q .non H', rt := Q } (start N vs) H) : FnOk P w K mg base CX0 (k + 1) f fd ps sp := by
  obtain ⟨oc, od, kV, doc, pm, an, cdv, ct, osl, rfl, lk, hcd⟩ := F.ex
  refine fn_of lk hcd S len fun A outer s H vs Q E hr hsp => ?_
  obtain ⟨t, h, q⟩ := hbody cdv A outer s H vs Q E hr hsp
  exact ⟨t, h.nox, q⟩
/-- how its arguments bind (no defaults): h is «fun _ _ _ _ _ _ us hl => match us, hl with | [_, _], _ => rfl», one _ a parameter -/
theorem Fun.binds {x qual : Str} {st : Stmt} {f : Addr} {fd : FuncData} {ps : List Str} (F : Fun K x qual st f fd)
    (h : ∀ (kV doc pm : Value) (an : Option Addr) (cdv ct : Value) (us : List Value), us.length = ps.length → bindArgs (PySem.W.fnOf x qual (defArgs st) (defBody st) (defScope st) .none kV doc pm an cdv ct) ⟨us, []⟩ = pure (ps.zip us)) : Binds K fd ps [] := by
  obtain ⟨oc, od, kV, doc, pm, an, cdv, ct, osl, rfl, lk, hcd⟩ := F.ex
  exact .all (h kV doc pm an cdv ct)
theorem fun_mk {x qual : Str} {st : Stmt} {f : Addr} {oc : Value} {od an : Option Addr} {osl : Array (Option Value)} {kV doc pm cdv ct : Value} (l : K.lookup f = some ⟨oc, od, .func (PySem.W.fnOf x qual (defArgs st) (defBody st) (defScope st) .none kV doc pm an cdv ct), osl⟩)
    (c : PySem.W.codeIn K cdv qual = true) (k : PySem.W.keepIn K (.ref f) = true) : Fun K x qual st f (PySem.W.fnOf x qual (defArgs st) (defBody st) (defScope st) .none kV doc pm an cdv ct) := ⟨⟨oc, od, kV, doc, pm, an, cdv, ct, osl, rfl, l, c⟩, k⟩
end

/-! ### expressions in short: the name that stands in the i-th slot -/
section
variable {X : Cx}
theorem pv (i : Nat) {x : Str} {pos : Pos} (hN : X.N[i]? = some x := by rfl) (hv : Vis X.env.scope x := by first | exact Or.inl rfl | exact Or.inr (Or.inl rfl) | exact Or.inr (Or.inr rfl)) (hd : (x == ("__debug__" : Str)) = false := by decide)
    (hcd : (x == ("__classdict__" : Str)) = false := by decide) : PE X (.Name x pos) (tVar i) := pe_var hN hv hd hcd
end

/-! ### tests -/
theorem iteF {A B : Prop} (h : B) : if false = true then A else B := by
  rw [if_neg Bool.false_ne_true]
  exact h
theorem iteT {A B : Prop} (h : A) : if true = true then A else B := by
  rw [if_pos rfl]
  exact h
theorem ite2 {c A B : Prop} [Decidable c] (h1 : c → A) (h2 : ¬ c → B) : if c then A else B := by
  by_cases h : c
  · rw [if_pos h]
    exact h1 h
  · rw [if_neg h]
    exact h2 h

/-! ### heaps -/
/-- all that was tracked is as it was -/
def Same (H H' : Hp) : Prop := ∀ b o, H b = some o → H' b = some o
theorem Same.trans {H H1 H2 : Hp} (a : Same H H1) (b : Same H1 H2) : Same H H2 := fun c o h => b c o (a c o h)
theorem Same.free {H H' : Hp} (e : Same H H') {l : Addr} (h : H' l = Option.none) : H l = Option.none := by
  cases q : H l with
  | none => rfl
  | some o =>
    rw [e l o q] at h
    cases h
theorem Same.seq {K : PySem.W.Frag} {H H' : Hp} {a : Addr} {xs : List V} (e : Same H H') (h : SqL K H a xs) : SqL K H' a xs := by
  rcases h with (h | ⟨o, h⟩) | h
  · exact .inl (.inl (e _ _ h))
  · exact .inl (.inr ⟨o, e _ _ h⟩)
  · exact .inr h

end L2

set_option Elab.async false
set_option linter.all false
set_option maxRecDepth 100000
set_option maxHeartbeats 4000000
namespace L2
open PySem PySem.Spec PyProof.Rows

/-! ### comprehensions -/
def closL (cells : List (Str × Addr)) : List (Str × NameKind) → List (Str × Addr) → List (Str × Addr)
  | [], acc => acc
  | (n, k) :: r, acc => closL cells r (if k == .free then (n, (cells.lookup n).getD 0) :: acc else acc)

theorem closureFor_eq {scope : Scope} {env : Env} (h : ∀ y ∈ scope.names, y.2 = .free → ∃ c, env.cells.lookup y.1 = some c) : closureFor scope env = pure (closL env.cells scope.names []) := by
  unfold closureFor
  have go : ∀ (l : List (Str × NameKind)) (acc : List (Str × Addr)), (∀ y ∈ l, y.2 = .free → ∃ c, env.cells.lookup y.1 = some c) →
      (forIn l acc fun (p : Str × NameKind) (cs : List (Str × Addr)) => (if (p.2 == .free) = true then (do let c ← cellOf env p.1; pure (ForInStep.yield ((p.1, c) :: cs))) else pure (ForInStep.yield cs) : Sem _)) = (pure (closL env.cells l acc) : Sem _) := by
    intro l
    induction l with
    | nil => intro acc _; rfl
    | cons p r ih =>
      intro acc hp
      obtain ⟨n, k⟩ := p
      rw [List.forIn_cons]
      have hr := fun a => ih a fun y hy => hp y (List.mem_cons_of_mem _ hy)
      by_cases hk : k = .free
      · subst hk
        obtain ⟨c, hc⟩ := hp (n, .free) List.mem_cons_self rfl
        have e : cellOf env n = pure c := by unfold cellOf; rw [hc]
        simp only [beq_self_eq_true, if_true, e, pure_bind, hr, closL, hc, Option.getD_some]
      · have hb : (k == NameKind.free) = false := by simpa using hk
        simp only [hb, Bool.false_eq_true, if_false, pure_bind, hr, closL]
  have := go scope.names [] h
  exact (congrArg (fun (m : Sem (List (Str × Addr))) => m >>= fun cs => pure cs) this).trans (pure_bind _ _)

theorem closL_lookup {cells : List (Str × Addr)} {y : Str} {c : Addr} : ∀ (l : List (Str × NameKind)) (acc : List (Str × Addr)), (closL cells l acc).lookup y = some c →
    acc.lookup y = some c ∨ ((y, NameKind.free) ∈ l ∧ c = (cells.lookup y).getD 0)
  | [], acc, h => .inl h
  | (n, k) :: r, acc, h => by
    unfold closL at h
    rcases closL_lookup r _ h with h' | ⟨h1, h2⟩
    · by_cases hk : k = .free
      · subst hk
        simp only [beq_self_eq_true, if_true, List.lookup_cons] at h'
        by_cases hy : y = n
        · subst hy
          simp only [beq_self_eq_true] at h'
          cases h'
          exact .inr ⟨List.mem_cons_self, rfl⟩
        · have : (y == n) = false := by simpa using hy
          simp only [this] at h'
          exact .inl h'
      · have hb : (k == NameKind.free) = false := by simpa using hk
        simp only [hb, Bool.false_eq_true, if_false] at h'
        exact .inl h'
    · exact .inr ⟨List.mem_cons_of_mem _ h1, h2⟩
theorem closL_some {cells : List (Str × Addr)} {y : Str} : ∀ (l : List (Str × NameKind)) (acc : List (Str × Addr)), ((y, NameKind.free) ∈ l ∨ ∃ c, acc.lookup y = some c) → ∃ c, (closL cells l acc).lookup y = some c
  | [], acc, h => by
    rcases h with h | h
    · cases h
    · exact h
  | (n, k) :: r, acc, h => by
    unfold closL
    refine closL_some r _ ?_
    by_cases hk : k = .free
    · subst hk
      simp only [beq_self_eq_true, if_true, List.lookup_cons]
      by_cases hy : y = n
      · subst hy; simp
      · have e : (y == n) = false := by simpa using hy
        simp only [e]
        rcases h with h | h
        · rcases List.mem_cons.mp h with h | h
          · cases h; exact absurd rfl hy
          · exact .inl h
        · exact .inr h
    · have hb : (k == NameKind.free) = false := by simpa using hk
      simp only [hb, Bool.false_eq_true, if_false]
      rcases h with h | h
      · rcases List.mem_cons.mp h with h | h
        · cases h; exact absurd rfl hk
        · exact .inl h
      · exact .inr h

/-- the scope of a comprehension over one name x that reads the def's names ys -/
structure CompOk (scope : Scope) (env : Env) (x : Str) (ys : List Str) : Prop where
  kind : scope.kind = .function
  nocell : ∀ y ∈ scope.names, y.2 ≠ .cell
  names : ∀ y ∈ scope.names, y.2 = .local → scope.names.lookup y.1 = some .local
  hx : scope.names.lookup x = some .local
  free : ∀ y ∈ scope.names, y.2 = .free → y.1 ≠ x ∧ env.kindOf y.1 = some .cell
  read : ∀ y ∈ ys, (y, NameKind.free) ∈ scope.names ∧ (relabel scope env).names.lookup y = some .cell

def compB (scope : Scope) (env : Env) (x : Str) (ys : List Str) : Bool :=
  decide (scope.kind = .function) && scope.names.all (fun y => decide (y.2 ≠ .cell)) && scope.names.all (fun y => decide (y.2 ≠ .local) || decide (scope.names.lookup y.1 = some .local)) &&
  decide (scope.names.lookup x = some .local) && scope.names.all (fun y => decide (y.2 ≠ .free) || (decide (y.1 ≠ x) && decide (env.kindOf y.1 = some .cell))) &&
  ys.all (fun y => decide ((y, NameKind.free) ∈ scope.names) && decide ((relabel scope env).names.lookup y = some .cell))
theorem compOk_of {scope : Scope} {env : Env} {x : Str} {ys : List Str} (h : compB scope env x ys = true) : CompOk scope env x ys := by
  unfold compB at h
  simp only [Bool.and_eq_true, decide_eq_true_eq, List.all_eq_true, Bool.or_eq_true] at h
  obtain ⟨⟨⟨⟨⟨h1, h2⟩, h3⟩, h4⟩, h5⟩, h6⟩ := h
  exact ⟨h1, h2, fun y hy e => (h3 y hy).resolve_left (fun z => z e), h4, fun y hy e => (h5 y hy).resolve_left (fun z => z e), h6⟩

def cSt (js : List Nat) (o : Option V) (σ : St) : St := o :: js.map fun j => (σ[j]?).join

def compCx (X : Cx) (scope : Scope) (x : Str) (ys : List Str) (C : Addr) (s₀ : Shared) (H₀ : Hp) (fp : List Addr) : Cx where
  prog := X.prog
  w := X.w
  K := X.K
  mg := X.mg
  base := X.base
  A := X.A
  N := x :: ys
  s₀ := s₀
  H₀ := H₀
  env := compEnvC scope (closL X.env.cells scope.names []) C X.env
  outer := X.stack
  stack := X.stack
  ex := fp
  fn := fun y => decide (y = x)
  calm := true
  pn := []
  xe := fun _ _ => False

section
variable {X : Cx} {pins : List (Addr × Obj)} {σ : St} {H : Hp} {s : Shared} {scope : Scope} {x : Str} {ys : List Str} {js : List Nat}

theorem mem_relabel {scope : Scope} {env : Env} {y : Str} {k : NameKind} (h : (relabel scope env).names.lookup y = some k) : ∃ k0, (y, k0) ∈ scope.names ∧ (k = k0 ∨ (k = .cell ∧ k0 = .free)) := by
  have hm := PySem.mem_of_lookup h
  unfold relabel at hm
  obtain ⟨⟨n, k0⟩, hn, e⟩ := List.mem_map.mp hm
  dsimp only at e
  split at e
  · cases e
    rename_i hc
    simp only [Bool.and_eq_true, beq_iff_eq] at hc
    exact ⟨k0, hn, .inr ⟨rfl, hc.1.1⟩⟩
  · cases e
    exact ⟨k, hn, .inl rfl⟩

theorem clos_cells (ok : X.Ok) (S : CompOk scope X.env x ys) {y : Str} {c : Addr} (h : (closL X.env.cells scope.names []).lookup y = some c) : (y, NameKind.free) ∈ scope.names ∧ X.env.cells.lookup y = some c := by
  rcases closL_lookup _ _ h with h | ⟨h1, h2⟩
  · cases h
  · refine ⟨h1, ?_⟩
    obtain ⟨c', e⟩ := ok.has y (.inl (S.free _ h1 rfl).2)
    rw [e] at h2
    rw [e, h2]
    rfl

/-- the comprehension's block is entered: D its list, C its names -/
theorem comp_in (hc : X.calm = true) (S : CompOk scope X.env x ys) (hjs : js.map (fun j => X.N[j]?) = ys.map some) {fp : List Addr} {h₁ : Heap} {H3 : Hp} {s3 : Shared}
    (I3 : Inv X pins σ H3 s3) (hf : ∀ b ∈ fp, FpOk X pins H3 b ∧ b < s3.heap.objs.size)
    (hn : h₁.Ns s3.heap.objs.size fun _ => none) (k34 : ∀ b o, s3.heap.get? b = some o → h₁.get? b = some o) (tk : Nat) :
    Inv (compCx X scope x ys s3.heap.objs.size s3 H3 fp) [] (cSt js none σ) H3 { s3 with heap := h₁, toks := tk } := by
  have hcells : ∀ y c, (closL X.env.cells scope.names []).lookup y = some c → X.env.cells.lookup y = some c := fun y c h => (clos_cells I3.ok S h).2
  have hcs : ∀ y c, X.env.cells.lookup y = some c → c < s3.heap.objs.size := fun y c h => by
    obtain ⟨v, o, ho, _⟩ := I3.cell y c h
    exact Heap.lt_size ho
  have nofp : ∀ b o, X.base.get? b = some o → b ∉ fp := fun b o e hb => by
    obtain ⟨⟨_, _, _, h4, _, _⟩, _⟩ := hf b hb
    rcases h4 with h4 | h4
    · exact I3.ok.noex b o e h4
    · exact absurd (Nat.lt_of_lt_of_le (Heap.lt_size e) (Nat.le_trans I3.ok.bsz h4)) (Nat.lt_irrefl _)
  refine ⟨⟨I3.ok.mod, S.kind, I3.ok.glob, I3.ok.blt, Nat.le_refl _, fun y z c h1 h2 => I3.ok.inj y z c (hcells y c h1) (hcells z c h2), fun y hy => ?_, fun y c h1 h2 => ?_, fun _ => I3.ok.hd hc, I3.ok.frames, .inl rfl,
      fun b hb => ⟨Nat.ne_of_lt (hf b hb).2, fun y c h => (hf b hb).1.2.2.2.2.1 y c (hcells y c h)⟩, I3.bs, Nat.le_trans I3.ok.bsz I3.sz, nofp, fun b hb z => ?_, I3.stack, I3.stkFree⟩,
    rfl, I3.bare, Un.kept k34, ⟨_, hn, fun i y v e1 e2 e3 => ?_⟩, fun y c h => ?_, I3.hok.fresh (Nat.le_refl _), fun y c h => I3.freeC y c (hcells y c h), fun p hp => absurd (show p ∈ ([] : List (Addr × Obj)) from hp) (by simp), I3.hok.kept k34, ?_⟩
  · have hy : (relabel scope X.env).names.lookup y = some .cell ∨ (relabel scope X.env).names.lookup y = some .free := hy
    have hm : (y, NameKind.free) ∈ scope.names := by
      rcases hy with hy | hy
      · obtain ⟨k0, h1, h2⟩ := mem_relabel hy
        rcases h2 with h2 | ⟨_, h2⟩
        · subst h2; exact absurd rfl (S.nocell _ h1)
        · subst h2; exact h1
      · obtain ⟨k0, h1, h2⟩ := mem_relabel hy
        rcases h2 with h2 | ⟨h2, _⟩
        · subst h2; exact h1
        · cases h2
    exact closL_some _ _ (.inl hm)
  · have e : y = x := of_decide_eq_true h1
    exact absurd e (S.free _ (clos_cells I3.ok S h2).1 rfl).1
  · rcases List.mem_cons.mp (I3.stkSub b z) with e | e
    · exact (hf b hb).1.2.1 e
    · exact (hf b hb).1.2.2.1 e
  · cases i with
    | zero => cases e2
    | succ i =>
      have e1 : ys[i]? = some y := e1
      have e2 : (js.map fun j => (σ[j]?).join)[i]? = some (some v) := e2
      rw [List.getElem?_map] at e2
      cases hj : js[i]? with
      | none => rw [hj] at e2; cases e2
      | some j =>
        rw [hj] at e2
        have e2' : (σ[j]?).join = some v := Option.some.inj e2
        have e4 : σ[j]? = some (some v) := by
          cases q : σ[j]? with
          | none => rw [q] at e2'; cases e2'
          | some o => rw [q] at e2'; rw [show o = some v from e2']
        have e5 : X.N[j]? = some y := by
          have q := congrArg (fun l => l[i]?) hjs
          rw [List.getElem?_map, List.getElem?_map, hj, e1] at q
          exact Option.some.inj q
        have hm := List.mem_of_getElem? e1
        obtain ⟨m1, m2⟩ := S.read y hm
        have hk := (S.free _ m1 rfl).2
        obtain ⟨m, hnm, hl⟩ := I3.loc
        obtain ⟨u, r, l⟩ := hl j y v e5 e4 (.inr (.inl hk))
        refine ⟨u, r, .inr ⟨.inl m2, ?_⟩⟩
        rcases l with ⟨l, _⟩ | ⟨_, c, e, z⟩
        · have : some NameKind.local = some NameKind.cell := l.symm.trans hk
          cases this
        · obtain ⟨c', e'⟩ := closL_some (cells := X.env.cells) scope.names [] (.inl m1)
          have e'' := hcells y c' e'
          rw [e] at e''
          cases e''
          obtain ⟨o, ho, hd⟩ := z
          exact ⟨c, e', o, k34 c o ho, hd⟩
  · obtain ⟨v, o, ho, hd⟩ := I3.cell y c (hcells y c h)
    exact ⟨v, o, k34 c o ho, hd⟩
  · show (cSt js none σ).length = (x :: ys).length
    have q := congrArg List.length hjs
    simp only [List.length_map] at q
    simp [cSt, q]

/-- the comprehension's block is left -/
theorem comp_out {fp : List Addr} {D : Addr} {H2 H3 H' : Hp} {s2 s3 s' : Shared} {σ' : St} {C : Addr} (I2 : Inv X pins σ H2 s2) (hf : ∀ b ∈ fp, FpOk X pins H2 b) (k23 : ∀ b o, s2.heap.get? b = some o → s3.heap.get? b = some o)
    (hos : s3.os = s2.os) (hD : s2.heap.objs.size ≤ D) (h23 : ∀ b, b ≠ D → H3 b = H2 b) (t23 : H2 D = none) (I' : Inv (compCx X scope x ys C s3 H3 fp) [] σ' H' s') : Inv X pins σ H' s' := by
  have neD : ∀ b o, s2.heap.get? b = some o → b ≠ D := fun b o e z => absurd (Nat.lt_of_lt_of_le (Heap.lt_size e) (z ▸ hD)) (Nat.lt_irrefl _)
  have tne : ∀ b o, H2 b = some o → b ≠ D := fun b o e z => by subst z; rw [t23] at e; cases e
  refine I2.call' (ch := fp) (I'.os.trans hos) ⟨fun b o e n hb hx => ?_, fun b o e n hb hx => ?_, fun b o e n hx => ?_, fun b o e hx => ?_, fun b xs e => ?_, fun b o u e => ?_, fun b ps e => ?_⟩ I'.hok I'.bare fun b hb => ?_
  · exact I'.base.keep b o (k23 b o e) ((h23 b (neD b o e)).trans n) hb hx
  · exact I'.base.slot b o (k23 b o e) ((h23 b (neD b o e)).trans n) hb hx
  · exact I'.base.free b o (k23 b o e) ((h23 b (neD b o e)).trans n) hx
  · exact I'.base.there b o (k23 b o e) hx
  · exact I'.base.tups b xs ((h23 b (tne b _ e)).trans e)
  · exact I'.base.frzs b o u ((h23 b (tne b _ e)).trans e)
  · exact I'.base.tbls b ps ((h23 b (tne b _ e)).trans e)
  · obtain ⟨f0, f1, f2, f3, f4, f5⟩ := hf b hb
    exact ⟨f3, f1, f4, f5⟩
end

/-! ### two statements with a word between them -/
def tSeqM (t u : TS) : TS := fun D σ H => ∃ M : St → Hp → Prop, t { D with nx := M } σ H ∧ ∀ σ' H', M σ' H' → u D σ' H'
theorem pss_consM {X : Cx} {st : Stmt} {rest : List Stmt} {t u : TS} (h1 : PS X st t) (h2 : PSs X rest u) : PSs X (st :: rest) (tSeqM t u) := by
  intro pins s σ H D I h
  obtain ⟨M, ht, hu⟩ := h
  have h2' : PSs X rest (fun D' σ' H' => D' = D ∧ M σ' H') := fun pins s σ' H' D' I' ⟨e, m⟩ => by subst e; exact h2 pins s σ' H' D' I' (hu σ' H' m)
  refine pss_cons (u := fun D' σ' H' => D' = D ∧ M σ' H') (t := fun D' σ' H' => ∃ D0, t D0 σ' H' ∧ D0.nx = M ∧ D0.rt = D'.rt ∧ D0.bk = D'.bk ∧ D0.ct = D'.ct ∧ ∀ σ' H', M σ' H' → D'.nx σ' H') (fun pins s σ' H' D' I' ⟨D0, k, e1, e2, e3, e4, e5⟩ => ?_) h2' pins s σ H D I ?_
  · refine thn (h1 pins s σ' H' D0 I' k) fun f s' q => ?_
    cases f with
    | next => obtain ⟨a, b, c, d⟩ := q; exact ⟨a, b, c, e5 _ _ (e1 ▸ d)⟩
    | brk => obtain ⟨a, b, c, d⟩ := q; exact ⟨a, b, c, e3 ▸ d⟩
    | cont => obtain ⟨a, b, c, d⟩ := q; exact ⟨a, b, c, e4 ▸ d⟩
    | ret v => obtain ⟨a, b, c, d, r, e⟩ := q; exact ⟨a, b, c, d, r, e2 ▸ e⟩
  · exact ⟨{ D with nx := M }, ht, rfl, rfl, rfl, rfl, fun σ' H' m => ⟨rfl, m⟩⟩

/-! ### if, with a word for each way -/
def tIfM (c : TT) (t u : TS) : TS := fun D σ H => ∃ Mt Mf : Hp → Prop, (c σ H fun b H1 => if b = true then Mt H1 else Mf H1) ∧ (∀ H1, Mt H1 → t D σ H1) ∧ ∀ H1, Mf H1 → u D σ H1
theorem ps_ifM {X : Cx} {c : Expr} {a b : List Stmt} {pos : Pos} {tc : TT} {t u : TS} (hc : PT X c tc) (ha : PSs X a t) (hb : PSs X b u) : PS X (.If c a b pos) (tIfM tc t u) := by
  intro pins s σ H D I h
  obtain ⟨Mt, Mf, h1, h2, h3⟩ := h
  have ha' : PSs X a (fun D' σ' H' => D' = D ∧ σ' = σ ∧ Mt H') := fun pins s σ' H' D' I' ⟨e1, e2, m⟩ => by subst e1 e2; exact ha pins s σ' H' D' I' (h2 H' m)
  have hb' : PSs X b (fun D' σ' H' => D' = D ∧ σ' = σ ∧ Mf H') := fun pins s σ' H' D' I' ⟨e1, e2, m⟩ => by subst e1 e2; exact hb pins s σ' H' D' I' (h3 H' m)
  have hc' : PT X c (fun σ' H' Q => σ' = σ ∧ H' = H ∧ ∀ b H1, (if b = true then Mt H1 else Mf H1) → Q b H1) := fun pins s σ' H' Q I' ⟨e1, e2, m⟩ => by
    subst e1 e2
    refine thn (hc pins s σ' H' _ I' h1) fun b s1 ⟨H1, I1, q1⟩ => ⟨H1, I1, m b H1 q1⟩
  refine ps_if hc' ha' hb' pins s σ H D I ⟨rfl, rfl, fun b H1 q => ?_⟩
  cases b with
  | true => exact iteT ⟨rfl, rfl, q⟩
  | false => exact iteF ⟨rfl, rfl, q⟩

/-- the tests of a comprehension -/
def PTs (X : Cx) (ifs : List Expr) (t : TT) : Prop :=
  ∀ (pins : List (Addr × Obj)) (s : Shared) (σ : St) (H : Hp) (Q : Bool → Hp → Prop), Inv X pins σ H s → t σ H Q →
    wpAny (model X.prog X.w) X.A (forIn ifs true fun c r => if r = true then do let ok ← isTrue c X.env (eval c X.env); pure (ForInStep.yield ok) else pure (ForInStep.yield r)) (TP X pins σ Q) X.xe s
theorem pts_one {X : Cx} {c : Expr} {t : TT} (h : PT X c t) : PTs X [c] t := fun pins s σ H Q I q => wpAny_tests_one (h pins s σ H Q I q)

section
variable {prog : Program} {w : World} {A : Around} {R : Result → Shared → Prop} {s : Shared}
theorem compLoop_own {elt target iter : Expr} {ifs : List Expr} {scope : Scope} {pos : Pos} {it acc : Value} {env : Env} (I : Nat → Shared → Prop)
    (turn : ∀ n s, I n s → wpAny (model prog w) A (pyNext it) (fun r s₁ => match r with
      | none => R (.ok .next) s₁
      | some v => wpAny (model prog w) A (letOwnedTupleGo target it v) (fun _ s₁' => wpAny (model prog w) A (assign target env v) (fun _ s₂ =>
          wpAny (model prog w) A (forIn ifs true fun c r => if r = true then do let ok ← isTrue c env (eval c env); pure (ForInStep.yield ok) else pure (ForInStep.yield r)) (fun ok s₃ =>
            if ok = true then wpAny (model prog w) A (eval elt env) (fun x s₄ =>
              wpAny (model prog w) A (call (.builtin "list.append") [acc, x]) (fun _ s₅ => ∃ m, m < n ∧ I m s₅) (fun _ _ => False) s₄) (fun _ _ => False) s₃
            else ∃ m, m < n ∧ I m s₃) (fun _ _ => False) s₂) (fun _ _ => False) s₁') (fun _ _ => False) s₁) (fun _ _ => False) s)
    (n : Nat) (h : I n s) :
    codeAny (model prog w) A (.compLoop (.ListComp elt [⟨target, iter, ifs, 0⟩] scope pos) 0 it acc env) R s := by
  refine codeAny_loop rfl I (fun n s hI => ?_) n h
  show wpAny _ A ((compTurn (.ListComp elt [⟨target, iter, ifs, 0⟩] scope pos) 0 it acc env).onRaise (fun x => do noteFrame x env; theTreesLotGoes x)) _ _ s
  refine wpAny_noted ?_
  rw [compTurn_list]
  refine wpAny_bind (wpAny_standAt (wpAny_bind (wpAny_mono (turn n s hI) (fun r s₁ h₁ => ?_) fun _ _ h' => h'.elim)))
  cases r with
  | none => exact wpAny_pure h₁
  | some v =>
    refine wpAny_bind (wpAny_mono h₁ (fun _ s₁' h₁' => ?_) fun _ _ h' => h'.elim)
    refine wpAny_bind (wpAny_mono h₁' (fun _ s₂ h₂ => wpAny_bind (wpAny_mono h₂ (fun ok s₃ h₃ => ?_) fun _ _ h' => h'.elim)) fun _ _ h' => h'.elim)
    cases ok with
    | false => exact wpAny_pure ⟨rfl, h₃⟩
    | true =>
      exact wpAny_bind (wpAny_bind (wpAny_mono h₃ (fun x s₄ h₄ => wpAny_bind (wpAny_mono h₄ (fun _ s₅ h₅ => wpAny_pure (wpAny_pure ⟨rfl, h₅⟩)) fun _ _ h' => h'.elim)) fun _ _ h' => h'.elim))
end

/-- the reading of a comprehension: W by the turn, a measure and the heap; D its list -/
def CompW (J : It) (js : List Nat) (tc : TT) (te : TE) (σ : St) (R : V → Hp → Prop) (D : Addr) (H1 : Hp) : Prop :=
  ∃ W : Nat → Nat → Hp → Prop, (∃ m, W 0 m (upd H1 D (.lst []))) ∧ ∀ i m H, W i m H →
    (J.stop i H ∧ R (.ref D) H) ∨ (J.go i H ∧ ∃ N : Hp → Prop, (∀ H', N H' → ∃ m', m' < m ∧ W (i + 1) m' H') ∧ ∀ x H', J.yld i H x H' → tc (cSt js (some x) σ) H' fun c H2 => if c = true then te (cSt js (some x) σ) H2 fun y H3 =>
      ∃ ys, H3 D = some (.lst ys) ∧ ys.length < sizeLine ∧ N (upd H3 D (.lst (ys ++ [y]))) else N H2)
def tCompR (wi : TI) (js : List Nat) (tc : TT) (te : TE) (σ : St) (H : Hp) (R : V → Hp → Prop) : Prop :=
  wi σ H fun J H1 => ∀ D, H1 D = none → CompW J js tc te σ R D H1

section
variable {X : Cx} {elt iter : Expr} {x : Str} {px pos : Pos} {ifs : List Expr} {scope : Scope} {wi : TI} {tc : TT} {te : TE} {ys : List Str} {js : List Nat}

theorem comp_core {use : Option (Value → Sem Unit)} {pins : List (Addr × Obj)} {s : Shared} {σ : St} {H : Hp} {R : V → Hp → Prop} {Q : Value → Shared → Prop} {pos' : Pos} (hc : X.calm = true) (hi : PI X (.Name x px) iter wi)
    (S : CompOk scope X.env x ys) (hjs : js.map (fun j => X.N[j]?) = ys.map some) (hnd : (x :: ys).Nodup)
    (ht : ∀ C s₀ H₀ fp, PTs (compCx X scope x ys C s₀ H₀ fp) ifs tc) (he : ∀ C s₀ H₀ fp, PE (compCx X scope x ys C s₀ H₀ fp) elt te)
    (I : Inv X pins σ H s) (h : tCompR wi js tc te σ H R)
    (fin : ∀ (D C : Addr) (H' : Hp) (s' : Shared) (m : Str → Option Value), Inv X pins σ H' s' → s'.heap.Ns C m → H' C = none → C ≠ X.env.locals → X.s₀.heap.objs.size ≤ C → (∀ y c, X.env.cells.lookup y = some c → c ≠ C) → (∀ p ∈ X.pn ++ pins, p.1 ≠ C) →
      R (.ref D) H' → compPost (model X.prog X.w) X.A X.xe use Q (.ref D) C (.ok .next) s')
    (hs : ∀ x, foldedSetIterable iter X.env x = pure x) :
    wpAny (model X.prog X.w) X.A (comprehension (.ListComp elt [⟨.Name x px, iter, ifs, 0⟩] scope pos) scope X.env pos' (newList []) false (eval iter X.env) use) Q X.xe s := by
  refine wpAny_comprehension_free (use := use) rfl hs (closureFor_eq fun y hy e => I.ok.has y.1 (.inl (S.free y hy e).2)) S.kind S.names ?_
  refine thn (hi pins s σ H _ I h) fun v s1 h1 => thn h1 fun itv s2 h2 => ?_
  obtain ⟨it, fp, tn, J, H2, e, I2, T, st2, f2, rd⟩ := h2
  subst e
  refine wpAny_newObj_type (wpAny_newFunctionEnv S.nocell (by intro y hy; simp at hy) (fun h₁ hns₁ hsb₁ => ?_) S.kind)
  have hDn : H2 s2.heap.objs.size = none := I2.hok.fresh (Nat.le_refl _)
  obtain ⟨W, ⟨m0, w0⟩, turn⟩ := rd s2.heap.objs.size hDn
  have I3 : Inv X pins σ (upd H2 s2.heap.objs.size (.lst [])) { s2 with heap := s2.heap.push { cls := .type "list", data := .seq ([] : List Value).toArray }, toks := s2.toks } := I2.lnew (its := []) .nil (Nat.zero_le _)
  have k23 : ∀ b o, s2.heap.get? b = some o → (s2.heap.push { cls := .type "list", dict := none, data := .seq ([] : List Value).toArray }).get? b = some o := fun b o e => Heap.get?_push_of_some _ e
  have hfpo : ∀ b ∈ fp, b < s2.heap.objs.size := fun b hb => by obtain ⟨o, e, _⟩ := T.obj _ _ st2 b hb; exact Heap.lt_size e
  generalize hH3 : s2.heap.push { cls := .type "list", dict := none, data := .seq ([] : List Value).toArray } = hp3 at hns₁ hsb₁ I3 k23 ⊢
  have hC3 : hp3.objs.size = s2.heap.objs.size + 1 := by rw [← hH3, Heap.size_push]
  have k34 : ∀ b o, hp3.get? b = some o → h₁.get? b = some o := fun b o e => hsb₁.extBut b o (Nat.ne_of_lt (Heap.lt_size e)) (Heap.get?_push_of_some _ e)
  have hf3 : ∀ b ∈ fp, FpOk X pins (upd H2 s2.heap.objs.size (.lst [])) b ∧ b < hp3.objs.size := fun b hb => ⟨⟨by rw [upd_ne (Nat.ne_of_lt (hfpo b hb))]; exact (f2 b hb).1, (f2 b hb).2⟩, by rw [hC3]; exact Nat.lt_succ_of_lt (hfpo b hb)⟩
  have I4 := comp_in (x := x) (ys := ys) (js := js) (scope := scope) (fp := fp) (h₁ := h₁) hc S hjs I3 hf3 hns₁ k34 (s2.toks + ([] : List (Str × Value)).length)
  have st4 : tn 0 h₁ := T.keep _ _ _ st2 fun b _ o e => k34 b o (k23 b o e)
  -- what stays true of the iterator's records
  have stat : ∀ {H' : Hp}, (∀ b ∈ fp, H' b = none) → ∀ b ∈ fp, FpOk (compCx X scope x ys hp3.objs.size { s2 with heap := hp3, toks := s2.toks } (upd H2 s2.heap.objs.size (.lst [])) fp) [] H' b := fun hn b hb => by
    refine ⟨hn b hb, ?_⟩
    have q := I4.ok.exf b hb
    exact ⟨q.1, I4.ok.exfs b hb, .inl hb, q.2, fun p hp => absurd (show p ∈ ([] : List (Addr × Obj)) from hp) (by simp)⟩
  have loop : ∀ s₄ : Shared, s₄ = { s2 with heap := h₁, toks := s2.toks + ([] : List (Str × Value)).length } →
      codeAny (model X.prog X.w) X.A (.compLoop (.ListComp elt [⟨.Name x px, iter, ifs, 0⟩] scope pos) 0 (.ref it) (.ref s2.heap.objs.size) (compEnvC scope (closL X.env.cells scope.names []) hp3.objs.size X.env))
        (compPost (model X.prog X.w) X.A X.xe use Q (.ref s2.heap.objs.size) hp3.objs.size) s₄ := by
    rintro s₄ rfl
    refine compLoop_own (fun n s' => ∃ i o H', Inv (compCx X scope x ys hp3.objs.size { s2 with heap := hp3, toks := s2.toks } (upd H2 s2.heap.objs.size (.lst [])) fp) [] (cSt js o σ) H' s' ∧ tn i s'.heap ∧ (∀ b ∈ fp, H' b = none) ∧ W i n H') ?_ m0
      ⟨0, none, _, I4, st4, fun b hb => (hf3 b hb).1.1, w0⟩
    rintro n s5 ⟨i, o, H5, I5, st5, fr5, w5⟩
    rcases turn i n H5 w5 with ⟨stop, qn⟩ | ⟨go, N, hN, step⟩
    · refine thn (T.done (compCx X scope x ys hp3.objs.size { s2 with heap := hp3, toks := s2.toks } (upd H2 s2.heap.objs.size (.lst [])) fp) rfl rfl rfl rfl i [] s5 _ H5 (fun _ _ => False) I5 (stat fr5) st5 stop) fun r s6 ⟨hr, I6⟩ => ?_
      subst hr
      have I7 : Inv X pins σ H5 s6 := comp_out (D := s2.heap.objs.size) (H3 := upd H2 s2.heap.objs.size (.lst [])) (s3 := { s2 with heap := hp3, toks := s2.toks }) I2 f2 k23 rfl (Nat.le_refl _) (fun b hb => upd_ne hb) hDn I6
      obtain ⟨m, hm, _⟩ := I6.loc
      refine fin s2.heap.objs.size hp3.objs.size H5 s6 m I7 hm I6.free ?_ ?_ (fun y c e z => ?_) (fun p hp z => ?_) qn
      · intro z
        have := I2.lt
        rw [← z, hC3] at this
        exact absurd this (Nat.not_lt.mpr (Nat.le_succ _))
      · rw [hC3]; exact Nat.le_succ_of_le I2.sz
      · obtain ⟨v', o', ho', _⟩ := I2.cell y c e
        have := Heap.lt_size ho'
        rw [z, hC3] at this
        exact absurd this (Nat.not_lt.mpr (Nat.le_succ _))
      · have := Heap.lt_size (I2.pin p hp).1
        rw [z, hC3] at this
        exact absurd this (Nat.not_lt.mpr (Nat.le_succ _))
    · refine thn (T.item (compCx X scope x ys hp3.objs.size { s2 with heap := hp3, toks := s2.toks } (upd H2 s2.heap.objs.size (.lst [])) fp) rfl rfl rfl rfl i [] s5 _ H5 (fun _ _ => False) I5 (stat fr5) st5 go) fun r s6 ⟨u, hr, h6⟩ => ?_
      subst hr
      refine thn h6 fun _ s7 ⟨xv, H7, I7, r7, y7, st7, fr7⟩ => ?_
      have I7' := I7.pinned (stat fr7) (T.obj _ _ st7)
      have again : ∀ {s' : Shared} {H' : Hp} {m' : Nat}, Inv (compCx X scope x ys hp3.objs.size { s2 with heap := hp3, toks := s2.toks } (upd H2 s2.heap.objs.size (.lst [])) fp) ([] ++ pinsAt fp s7.heap) (cSt js (some xv) σ) H' s' → m' < n → W (i + 1) m' H' →
          ∃ m, m < n ∧ ∃ i o H', Inv (compCx X scope x ys hp3.objs.size { s2 with heap := hp3, toks := s2.toks } (upd H2 s2.heap.objs.size (.lst [])) fp) [] (cSt js o σ) H' s' ∧ tn i s'.heap ∧ (∀ b ∈ fp, H' b = none) ∧ W i m H' := fun {s' H' m'} J hm hw => by
        refine ⟨m', hm, i + 1, some xv, H', J.unpinned, T.keep _ _ _ st7 fun b hb o e => (J.pin (b, o) (List.mem_append_right _ (List.mem_append_right _ (mem_pinsAt hb e)))).1, fun b hb => ?_, hw⟩
        obtain ⟨o, e, d⟩ := T.obj _ _ st7 b hb
        exact (J.pin (b, o) (List.mem_append_right _ (List.mem_append_right _ (mem_pinsAt hb e)))).2.1
      have hg : PG (compCx X scope x ys hp3.objs.size { s2 with heap := hp3, toks := s2.toks } (upd H2 s2.heap.objs.size (.lst [])) fp) (.Name x px) (gName 0) := pg_name hnd rfl (.inl (lookup_relabel_local S.hx)) (.inr (lookup_relabel_local S.hx))
      refine thn (hg _ s7 _ H7 xv u (fun σ' H' => σ' = cSt js (some xv) σ ∧ H' = H7) I7' r7 ⟨rfl, rfl⟩) fun _ s8 ⟨σ8, H8, I8, e8, e8'⟩ => ?_
      subst e8 e8'
      refine thn (ht _ _ _ _ _ s8 _ _ _ I8 (step xv _ y7)) fun c s9 ⟨H9, I9, q9⟩ => ?_
      cases c with
      | false =>
        obtain ⟨m', hm, hw⟩ := hN H9 q9
        exact again I9 hm hw
      | true =>
        show wpAny _ _ _ _ _ _
        refine thn (he _ _ _ _ _ s9 _ _ _ I9 q9) fun y s10 ⟨yv, H10, I10, r10, q10⟩ => ?_
        obtain ⟨zs, hD10, hz, hw⟩ := q10
        obtain ⟨m', hm, hw⟩ := hN _ hw
        refine thn (mt_append _ s10 _ H10 (.ref s2.heap.objs.size) [yv] _ [y] (fun _ H' => H' = upd H10 s2.heap.objs.size (.lst (zs ++ [yv]))) I10 rfl (.cons r10 .nil) ⟨_, zs, yv, rfl, rfl, hD10, hz, rfl⟩) fun _ s11 ⟨_, H11, I11, _, e11⟩ => ?_
        subst e11
        exact again I11 hm hw
  exact codeAny_compStart_list (loop _ rfl) (T.self _ 0 _ _ _ st4 (loop _ rfl))

/-- a comprehension as a value -/
def tComp (wi : TI) (js : List Nat) (tc : TT) (te : TE) : TE := fun σ H Q => tCompR wi js tc te σ H Q
theorem pe_comp (hc : X.calm = true) (hi : PI X (.Name x px) iter wi) (S : compB scope X.env x ys = true) (hjs : js.map (fun j => X.N[j]?) = ys.map some) (hnd : (x :: ys).Nodup)
    (ht : ∀ C s₀ H₀ fp, PTs (compCx X scope x ys C s₀ H₀ fp) ifs tc) (he : ∀ C s₀ H₀ fp, PE (compCx X scope x ys C s₀ H₀ fp) elt te)
    (hs : ∀ x, foldedSetIterable iter X.env x = pure x := by intro _; rfl) : PE X (.ListComp elt [⟨.Name x px, iter, ifs, 0⟩] scope pos) (tComp wi js tc te) := by
  intro pins s σ H Q I h
  rw [eval_ListComp]
  refine comp_core hc hi (compOk_of S) hjs hnd ht he I h (fun D C H' s' m J hn f1 f2 f3 f4 f5 q => ?_) hs
  refine ⟨m, hn, fun h' hs' => ⟨.ref D, H', ?_, rfl, q⟩⟩
  exact J.turned (t' := s'.toks) (fun b o hb e => (hs'.2 b hb).trans e) f1 f2 (.inr f3) f4 f5

end
end L2

set_option Elab.async false
set_option linter.all false
set_option maxRecDepth 100000
set_option maxHeartbeats 4000000
namespace HT
open PySem PySem.AutoSeq1 PyProof.Rows
theorem ext_tup (l : Addr) (items : Array Value) (n : Nat) (b : Addr) (items2 : Array Value) (n2 : Nat) (dd : Option Addr) (sl : Array (Option Value)) (hs0 : ¬(!items.isEmpty && Builtin.List.listTooLong (items.size + items2.size)) = true) (hs1 : items.size ≤ sizeLine) (hs2 : items.size + items2.size ≤ sizeLine + 1) :
    Meets (Builtin.«list.extend» ⟨[.ref l, .ref b], []⟩) (fun _ R s => s.heap.get? l = some { cls := .type "list", dict := none, data := .seq items n, slots := #[] } ∧ s.heap.get? b = some { cls := .type "tuple", dict := dd, data := .seq items2 n2, slots := sl } ∧ R (.ok (.ret Value.none)) { s with heap := s.heap.update l (Obj.mapSeq fun x => x ++ items2), toks := s.toks }) :=
  .of_wp fun prog w A R s h => by
    obtain ⟨hp, g, d, tk, os⟩ := s; obtain ⟨hl, hb, h⟩ := h; have f1 := AutoSeq1.idx_int; have f2 := AutoSeq1.sub_tuple_tuple; have f3 := AutoSeq1.sub_list_list; have f4 := AutoSeq1.sub_tuple_list; have f5 := AutoSeq1.sub_list_tuple;
    have hz' : (items ++ items2).size ≤ sizeLine + 1 := by rw [Array.size_append]; exact hs2
    wp_walk using (wpAny_updateSeq hl rfl (hz := hs1) (_hz' := hz')), wpAny_loadPart' hl, wpAny_loadPart' hb; exact ⟨_, rfl, h⟩
end HT
namespace L2
open PySem PySem.Spec PyProof.Rows

/-! ### products of any size -/
section
variable {X : Cx}
theorem op_mulB : OpR X (binaryOp .Mult) (rI IntMulOk fun i j => .int (i * j)) := opI fun _ _ _ _ _ _ _ hc q => mul_int q hc
end

/-! ### isinstance against built-in types -/
def isT (T c : String) : Option Bool := PySem.W.kitOne { } (.type T) (.type c)
def isAny (T : String) (cs : List String) : Option Bool := PySem.W.kitAny { } (.type T) (cs.map Value.type)
theorem kitOne_type (K : PySem.W.Frag) (T c : String) : PySem.W.kitOne K (.type T) (.type c) = isT T c := rfl
theorem kitAny_type (K : PySem.W.Frag) (T : String) : ∀ cs : List String, PySem.W.kitAny K (.type T) (cs.map Value.type) = isAny T cs
  | [] => rfl
  | c :: r => by
    unfold isAny
    simp only [List.map_cons, PySem.W.kitAny, kitOne_type]
    have ih := kitAny_type K T r
    unfold isAny at ih
    rw [ih]
def rIsi (K : PySem.W.Frag) : List V → Hp → VK → Prop := fun xs H Q => ∃ x T c b, xs = [x, .ty c] ∧ TyOf K H x (.type T) ∧ isT T c = some b ∧ Q (.bl b) H
def rIsiT (K : PySem.W.Frag) : List V → Hp → VK → Prop := fun xs H Q => ∃ x T tp cs b, xs = [x, .ref tp] ∧ TyOf K H x (.type T) ∧ H tp = some (.tup (cs.map V.ty)) ∧ isAny T cs = some b ∧ Q (.bl b) H
theorem vals_types : ∀ {cs : List String} {us : List Value}, Vals (cs.map V.ty) us → us = cs.map Value.type
  | [], _, .nil => rfl
  | c :: r, _, .cons h t => by
    rw [show _ = Value.type c from h, vals_types t]
    rfl
section
variable {X : Cx}
theorem call_isi : CallR X (.builtin "isinstance") (rIsi X.K) := by
  intro pins s σ H xs us Q I r h
  obtain ⟨x, T, c, b, rfl, ty, e, q⟩ := h
  obtain ⟨u, w', rfl, r1, r2⟩ := vals2 r
  cases (show w' = Value.type c from r2)
  exact isinst_ok I r1 ty ((kitOne_type _ _ _).trans e) fun tk => ⟨.bl b, H, I.tok tk, rfl, q⟩
theorem kitx_ty {K : PySem.W.Frag} {H : Hp} {pins : List (Addr × Obj)} {σ : St} {s : Shared} {x : V} {u : Value} {T : String} (I : Inv X pins σ H s) (rx : RelV x u) (ty : TyOf K H x (.type T)) :
    ∃ P : Heap → Prop, PySem.W.KitX X.K u (.type T) P ∧ P s.heap ∧ u ≠ .builtin "__main__.__loader__#opaque" := by
  cases ty with
  | non => cases (show u = Value.none from rx); exact ⟨_, PySem.W.kitx_none, True.intro, fun z => nomatch z⟩
  | bl y => cases (show u = Value.bool y from rx); exact ⟨_, PySem.W.kitx_bool, True.intro, fun z => nomatch z⟩
  | int i => obtain ⟨t, q⟩ := (show ∃ t, u = Value.int i t from rx); cases q; exact ⟨_, PySem.W.kitx_int, True.intro, fun z => nomatch z⟩
  | str y => obtain ⟨t, q⟩ := (show ∃ t, u = Value.str y t from rx); cases q; exact ⟨_, PySem.W.kitx_str, True.intro, fun z => nomatch z⟩
  | flt y => obtain ⟨t, q⟩ := (show ∃ t, u = Value.float y t from rx); cases q; exact ⟨_, PySem.W.kitx_float, True.intro, fun z => nomatch z⟩
  | @lst a xs ea =>
    cases (show u = Value.ref a from rx)
    obtain ⟨_, _, n, _, h1⟩ := (show ObjOk X.prog X.w H s.heap a (.lst xs) from I.hok a _ ea)
    exact ⟨_, PySem.W.kitx_list, ⟨_, h1, rfl⟩, fun z => nomatch z⟩
  | @frz a ob xs ea =>
    cases (show u = Value.ref a from rx)
    obtain ⟨_, _, _, n, _, h1⟩ := (show ObjOk X.prog X.w H s.heap a (.frz ob (.lst xs)) from I.hok a _ ea)
    exact ⟨_, PySem.W.kitx_list, ⟨_, h1, rfl⟩, fun z => nomatch z⟩
  | @tup a xs ea =>
    cases (show u = Value.ref a from rx)
    obtain ⟨_, _, _, p⟩ := (show ObjOk X.prog X.w H s.heap a (.tup xs) from I.hok a _ ea)
    obtain ⟨o, h1, h2, _⟩ := p
    exact ⟨_, PySem.W.kitx_tuple, ⟨o, h1, h2⟩, fun z => nomatch z⟩
  | @dK a kvs ea =>
    cases (show u = Value.ref a from rx)
    obtain ⟨_, _, vs, _, p⟩ := (show ObjOk X.prog X.w H s.heap a (.dK kvs) from I.hok a _ ea)
    obtain ⟨o, es, ep, h1, h2, _⟩ := p
    exact ⟨_, PySem.W.kitx_dict, ⟨o, h1, h2.1⟩, fun z => nomatch z⟩
  | @dT a kvs ea =>
    cases (show u = Value.ref a from rx)
    obtain ⟨_, _, xs, _, o, es, ep, h1, h2, _⟩ := (show ObjOk X.prog X.w H s.heap a (.dT kvs) from I.hok a _ ea)
    exact ⟨_, PySem.W.kitx_dict, ⟨o, h1, h2.1⟩, fun z => nomatch z⟩
theorem call_isiT : CallR X (.builtin "isinstance") (rIsiT X.K) := by
  intro pins s σ H xs us Q I r h
  obtain ⟨x, T, tp, cs, b, rfl, ty, ht, e, q⟩ := h
  obtain ⟨u, w', rfl, r1, r2⟩ := vals2 r
  cases (show w' = Value.ref tp from r2)
  obtain ⟨P, Z, hP, hx⟩ := kitx_ty I r1 ty
  obtain ⟨_, its, rv, o, ho, hc, n, hd⟩ := (show ObjOk X.prog X.w H s.heap tp (.tup (cs.map V.ty)) from I.hok tp _ ht)
  obtain ⟨c0, dd, data, sl⟩ := o
  simp only at hc hd
  subst hc hd
  have hi := vals_types rv
  subst hi
  exact PySem.W.kia_tup Z I.kIn hP ho ((kitAny_type _ _ _).trans e) hx fun tk => ⟨.bl b, H, I.tok tk, rfl, q⟩
end

/-! ### a list against the empty list -/
section
variable {X : Cx}
theorem sqL_obj {pins : List (Addr × Obj)} {σ : St} {H : Hp} {s : Shared} {a : Addr} {xs : List V} (I : Inv X pins σ H s) (h : SqL X.K H a xs) :
    ∃ (its : List Value) (n : Nat) (dd : Option Addr) (sl : Array (Option Value)), Vals xs its ∧ s.heap.get? a = some { cls := .type "list", dict := dd, data := .seq its.toArray n, slots := sl } := by
  obtain ⟨its, r, ⟨o, n, e, c, d, dt⟩, _⟩ := I.list h
  obtain ⟨c0, d0, dt0, sl0⟩ := o
  simp only at c d dt
  subst c dt
  exact ⟨its, n, d0, sl0, r, e⟩
def rNeNil (K : PySem.W.Frag) : R2 := fun x y H Q => ∃ a b xs, x = .ref a ∧ y = .ref b ∧ SqL K H a xs ∧ SqL K H b [] ∧ Q (.bl (!xs.isEmpty)) H
theorem op_neNil (hu : X.A.units < cLine) : OpR X (compareOp .NotEq) (rNeNil X.K) := by
  intro pins s σ H x y v u Q I rx ry h
  obtain ⟨a, b, xs, rfl, rfl, ha, hb, q⟩ := h
  cases rx
  cases ry
  obtain ⟨its, n, dd, sl, r, ho⟩ := sqL_obj I ha
  obtain ⟨its2, n2, dd2, sl2, r2, ho2⟩ := sqL_obj I hb
  cases r2
  cases r with
  | nil =>
    refine richCompare_meets_room (op := .NotEq) ⟨_, ho, rfl⟩ ⟨_, ho2, rfl⟩ PySem.F.slot_list_ne PySem.F.entry_list_ne (PySem.F.args_list_ne_2 _ _) (SeqAt.list_neAt a b _ _ n n2 dd dd2 sl sl2 rfl (fun _ => true)) ⟨ho, ho2, ?_, ?_⟩ hu
    · intro j h1; simp at h1
    · exact ⟨(fun x => nomatch x), ⟨.bl false, H, I, rfl, q⟩⟩
  | cons r1 r2 =>
    refine richCompare_meets_room (op := .NotEq) ⟨_, ho, rfl⟩ ⟨_, ho2, rfl⟩ PySem.F.slot_list_ne PySem.F.entry_list_ne (PySem.F.args_list_ne_2 _ _) (SeqAt.list_ne_lengthsAt a b _ _ n n2 dd dd2 sl sl2 (by simp)) ⟨ho, ho2, ?_⟩ hu
    exact ⟨(fun x => nomatch x), ⟨.bl true, H, I, rfl, q⟩⟩
end

/-! ### xs.extend of a list or a tuple that is read -/
section
variable {X : Cx}
end
/-! ### a slice of a text -/
section
variable {X : Cx} {tg : Expr}
def rSlS : V → Option Int → Option Int → Hp → VK → Prop := fun x lo hi H Q => ∃ z, x = .str z ∧ z.length ≤ sizeLine ∧ Q (.str (Txt.slice z lo hi)) H
theorem part_of {v : Value} {o : Option Int} (p : IsPart v o) : ∃ l : Option (Int × Tok), v = partValue l ∧ l.map (·.1) = o := by
  cases p with
  | none => exact ⟨none, rfl, rfl⟩
  | int i t => exact ⟨some (i, t), rfl, rfl⟩
theorem sl_str : SlR X rSlS := by
  intro pins s σ H x v vl vu lo hi sl Q I rx hs pl pu h
  obtain ⟨z, rfl, hz, q⟩ := h
  obtain ⟨t, rfl⟩ := rx
  obtain ⟨l, rfl, el⟩ := part_of pl
  obtain ⟨u, rfl, eu⟩ := part_of pu
  subst el eu
  refine ⟨"str", _, F.slot_str_getitem.lookup, typeIs_str _ _ _, wpAny_getItem_str_slice (l := l) (u := u) (st := none) hs rfl (post_val_or_str ⟨Nat.le_trans (Txt.slice_le z _ _) hz, fun t' k => ?_⟩)⟩
  exact ⟨.str (Txt.slice z (l.map (·.1)) (u.map (·.1))), H, I.tok k, ⟨t', rfl⟩, q⟩

/-! ### the signs of a text, walked -/
def Its (z : Str) : It := ⟨fun i _ => i < z.cps.size, fun i H x H' => H' = H ∧ ∃ c, z.cps[i]? = some c ∧ x = .str ⟨#[c]⟩, fun i _ => z.cps.size ≤ i⟩
def iStr (tl : TE) : TI := fun σ H R => tl σ H fun x H1 => ∃ z, x = .str z ∧ R (Its z) H1
theorem turn_strA {P : Program} {w : World} {K : PySem.W.Frag} (z : Str) (t : Tok) (it : Addr) : Turn P w K tg (Its z) [it] it (fun i h => h.IsStrIter it "str_ascii_iterator" z t i) where
  mem := by simp
  obj := fun i h st b hb => by
    have e : b = it := by simpa using hb
    subst e
    obtain ⟨o, e, c, d⟩ := st
    exact ⟨o, e, fun v z => by rw [d] at z; cases z⟩
  keep := fun i h h' st k => let ⟨o, ho, r⟩ := st; ⟨o, k it (by simp) o ho, r⟩
  item := by
    intro X hP hw hK hc i pins s σ H E I hf st hg
    subst hP hw hK
    have hg : i < z.cps.size := hg
    obtain ⟨f0, f1, f2, f3, f4, f5⟩ := hf it (by simp)
    refine wpAny_pyNext_ascii_item st (c := z.cps[i]) (by simp [hg]) fun h' st' sb => ?_
    have I1 : Inv X pins σ H { s with heap := h', toks := s.toks + 1 } := I.turned (fun b o hb e => (sb.2 b hb).trans e) f0 f1 f3 f4 f5
    obtain ⟨o, e, c, d⟩ := id st'
    exact ⟨_, rfl, go_of (s := { s with heap := h', toks := s.toks + 1 }) e c d (by decide) ⟨.str ⟨#[z.cps[i]]⟩, H, I1, ⟨_, rfl⟩, ⟨rfl, z.cps[i], by simp [hg], rfl⟩, st', fun b hb => (hf b hb).1⟩⟩
  done := by
    intro X hP hw hK hc i pins s σ H E I hf st hg
    subst hP hw hK
    have hg : z.cps.size ≤ i := hg
    obtain ⟨f0, f1, f2, f3, f4, f5⟩ := hf it (by simp)
    exact wpAny_pyNext_ascii_end (I.ok.hd hc) st (by simp [hg]) fun h' eb => ⟨rfl, I.turned (t' := s.toks) (fun b o hb e => eb b o hb e) f0 f1 f3 f4 f5⟩
  self := fun _ _ _ _ _ st h => wpAny_pyIter_striter_ascii st h
theorem turn_strW {P : Program} {w : World} {K : PySem.W.Frag} (z : Str) (t : Tok) (it : Addr) : Turn P w K tg (Its z) [it] it (fun i h => h.IsStrIter it "str_iterator" z t i) where
  mem := by simp
  obj := fun i h st b hb => by
    have e : b = it := by simpa using hb
    subst e
    obtain ⟨o, e, c, d⟩ := st
    exact ⟨o, e, fun v z => by rw [d] at z; cases z⟩
  keep := fun i h h' st k => let ⟨o, ho, r⟩ := st; ⟨o, k it (by simp) o ho, r⟩
  item := by
    intro X hP hw hK hc i pins s σ H E I hf st hg
    subst hP hw hK
    have hg : i < z.cps.size := hg
    obtain ⟨f0, f1, f2, f3, f4, f5⟩ := hf it (by simp)
    refine wpAny_pyNext_wide_item st (c := z.cps[i]) (by simp [hg]) fun h' st' sb => ?_
    have I1 : Inv X pins σ H { s with heap := h', toks := s.toks + 1 } := I.turned (fun b o hb e => (sb.2 b hb).trans e) f0 f1 f3 f4 f5
    obtain ⟨o, e, c, d⟩ := id st'
    exact ⟨_, rfl, go_of (s := { s with heap := h', toks := s.toks + 1 }) e c d (by decide) ⟨.str ⟨#[z.cps[i]]⟩, H, I1, ⟨_, rfl⟩, ⟨rfl, z.cps[i], by simp [hg], rfl⟩, st', fun b hb => (hf b hb).1⟩⟩
  done := by
    intro X hP hw hK hc i pins s σ H E I hf st hg
    subst hP hw hK
    have hg : z.cps.size ≤ i := hg
    obtain ⟨f0, f1, f2, f3, f4, f5⟩ := hf it (by simp)
    exact wpAny_pyNext_wide_end (I.ok.hd hc) st (by simp [hg]) fun h' eb => ⟨rfl, I.turned (t' := s.toks) (fun b o hb e => eb b o hb e) f0 f1 f3 f4 f5⟩
  self := fun _ _ _ _ _ st h => wpAny_pyIter_striter_wide st h
theorem pi_str {l : Expr} {tl : TE} (hl : PE X l tl) : PI X tg l (iStr tl) := by
  intro pins s σ H R I h
  refine thn (hl pins s σ H _ I h) fun v s1 ⟨x, H1, I1, r1, q1⟩ => ?_
  obtain ⟨z, e, q⟩ := q1
  subst e
  obtain ⟨t, rfl⟩ := r1
  have fp : ∀ b ∈ [s1.heap.objs.size], FpOk X pins H1 b := fun b hb => by
    have e : b = s1.heap.objs.size := by simpa using hb
    subst e
    exact I1.fpOk (Nat.le_refl _) (I1.hok.fresh (Nat.le_refl _))
  cases ha : z.cps.all (· < 128)
  · exact wpAny_pyIter_wide ha ⟨s1.heap.objs.size, [s1.heap.objs.size], _, _, H1, rfl, I1.kept (t' := s1.toks) fun b o e => Heap.get?_push_of_some _ e, turn_strW z t _, ⟨_, Heap.get?_push_size _ rfl, rfl, rfl⟩, fp, q⟩
  · exact wpAny_pyIter_ascii ha ⟨s1.heap.objs.size, [s1.heap.objs.size], _, _, H1, rfl, I1.kept (t' := s1.toks) fun b o e => Heap.get?_push_of_some _ e, turn_strA z t _, ⟨_, Heap.get?_push_size _ rfl, rfl, rfl⟩, fp, q⟩

/-! ### range(a, b, -1) -/
def Itd (hi : Int) (n : Nat) : It := ⟨fun i _ => i < n, fun i H x H' => H' = H ∧ x = .int (hi - i), fun i _ => n ≤ i⟩
end
/-! ### the same rules, the written part named (for a comprehension's block) -/
section
variable {X : Cx}
theorem call_isiK (K : PySem.W.Frag) (h : X.K = K := by rfl) : CallR X (.builtin "isinstance") (rIsi K) := by subst h; exact call_isi
end
end L2

set_option linter.all false
namespace J
/-! ### the last place of a name -/
section
variable {α : Type} [DecidableEq α]
def lastIx : List α → α → Option Nat
  | [], _ => none
  | y :: r, x => match lastIx r x with
    | some i => some (i + 1)
    | none => if y = x then some 0 else none
end

/-! ### sums -/
inductive O3 where | add | sub | mul
  deriving DecidableEq
def O3.f : O3 → Int → Int → Int
  | .add, a, b => a + b
  | .sub, a, b => a - b
  | .mul, a, b => a * b
inductive Sm (α : Type) where
  | num (i : Int)
  | name (x : α)
  | op (o : O3) (a b : Sm α)
section
variable {α : Type} [DecidableEq α]
def Sm.val (ns : List α) (ps : List Int) : Sm α → Int
  | .num i => i
  | .name x => match lastIx ns x with
    | some i => ps.getD i 0
    | none => 0
  | .op o a b => o.f (a.val ns ps) (b.val ns ps)
/-- how many leaves -/
def Sm.lv : Sm α → Nat
  | .num _ => 1
  | .name _ => 1
  | .op _ a b => a.lv + b.lv
def Sm.dp : Sm α → Nat
  | .num _ => 1
  | .name _ => 1
  | .op _ a b => max a.dp b.dp + 1
theorem Sm.lv_pos : ∀ s : Sm α, 1 ≤ s.lv
  | .num _ => Nat.le_refl _
  | .name _ => Nat.le_refl _
  | .op _ a b => Nat.le_trans a.lv_pos (Nat.le_add_right _ _)
end
section
variable {α : Type} [DecidableEq α]
end
end J

set_option Elab.async false
set_option linter.all false
set_option maxRecDepth 100000
set_option maxHeartbeats 4000000
namespace J
open PySem L2

/-! ### built-in names -/
theorem bt_list : bootBuiltins "list" = some (.type "list") := by decide +kernel
theorem bt_tuple : bootBuiltins "tuple" = some (.type "tuple") := by decide +kernel
theorem bt_str : bootBuiltins "str" = some (.type "str") := by decide +kernel
theorem bt_int : bootBuiltins "int" = some (.type "int") := by decide +kernel
theorem bt_bool : bootBuiltins "bool" = some (.type "bool") := by decide +kernel
theorem bt_isinstance : bootBuiltins "isinstance" = some (.builtin "isinstance") := by decide +kernel

/-- a def of the text, as a caller wants it -/
structure Def (K : PySem.W.Frag) (mg : Str → Option Value) (x : Str) (st : Stmt) (ps : List Str) (f : Addr) (fd : FuncData) : Prop where
  F : Fun K x x st f fd
  b : Binds K fd ps []
  m : mg x = some (.ref f)

/-! ### heaps that grow -/
theorem same_new {H : Hp} {p : Addr} (h : H p = none) (o : HO) : Same H (upd H p o) := fun b u q => by rw [upd_ne (ne_of_none q h)]; exact q
theorem _root_.L2.Same.at {H H' : Hp} (S : Same H H') {l : Addr} (h : H l = none) (o : HO) : Same H (upd H' l o) := fun b u q => by rw [upd_ne (ne_of_none q h)]; exact S b u q
/-- tuples stay -/
def TupLe (H H' : Hp) : Prop := ∀ a xs, H a = some (.tup xs) → H' a = some (.tup xs)
theorem _root_.L2.Same.tup {H H' : Hp} (S : Same H H') : TupLe H H' := fun a xs h => S a _ h
theorem TupLe.refl (H : Hp) : TupLe H H := fun _ _ h => h
theorem TupLe.trans {H H1 H2 : Hp} (a : TupLe H H1) (b : TupLe H1 H2) : TupLe H H2 := fun c xs h => b c xs (a c xs h)
/-- all but l stays -/
def But (l : Addr) (H H' : Hp) : Prop := ∀ b o, b ≠ l → H b = some o → H' b = some o
theorem But.trans {l : Addr} {H H1 H2 : Hp} (a : But l H H1) (b : But l H1 H2) : But l H H2 := fun c o n h => b c o n (a c o n h)
theorem But.of {l : Addr} {H H' : Hp} (S : Same H H') : But l H H' := fun b o _ h => S b o h
theorem but_upd {H : Hp} {l : Addr} (o : HO) : But l H (upd H l o) := fun b u n h => by rw [upd_ne n]; exact h
theorem But.tup {l : Addr} {H H' : Hp} {ys : List V} (B : But l H H') (hl : H l = some (.lst ys)) : TupLe H H' := fun a xs h => B a _ (ne_of h hl (by intro z; cases z)) h

/-! ### loops downwards -/
theorem for_rangeD {hi : Int} {n : Nat} {g : TG} {tb : TS} {D : Ends} {σ : St} {H : Hp} (Pv : Nat → St → Hp → Prop) (h0 : Pv 0 σ H)
    (hs : ∀ i σ H, i < n → Pv i σ H → g (.int (hi - i)) σ H fun σ2 H2 => tb { D with nx := Pv (i + 1), ct := Pv (i + 1), bk := D.nx } σ2 H2) (hd : ∀ σ H, Pv n σ H → D.nx σ H) :
    ∃ W : Nat → Nat → St → Hp → Prop, (∃ m, W 0 m σ H) ∧ ∀ i m σ H, W i m σ H →
      ((Itd hi n).stop i H ∧ D.nx σ H) ∨ ((Itd hi n).go i H ∧ ∃ N : St → Hp → Prop, (∀ σ' H', N σ' H' → ∃ m', m' < m ∧ W (i + 1) m' σ' H') ∧ ∀ x H', (Itd hi n).yld i H x H' → g x σ H' fun σ2 H2 => tb { D with nx := N, ct := N, bk := D.nx } σ2 H2) := by
  refine ⟨fun i m σ H => m = n - i ∧ i ≤ n ∧ Pv i σ H, ⟨n, by simp, Nat.zero_le _, h0⟩, ?_⟩
  rintro i m σ H ⟨rfl, hi', p⟩
  by_cases hlt : i < n
  · refine .inr ⟨hlt, Pv (i + 1), fun σ' H' p' => ⟨n - (i + 1), by omega, rfl, hlt, p'⟩, fun x H' y => ?_⟩
    obtain ⟨e, y⟩ := y
    subst e y
    exact hs i σ _ hlt p
  · have e : i = n := by omega
    subst e
    exact .inl ⟨Nat.le_refl _, hd σ H p⟩

/-! ### comprehensions: what one uses; Pv i H: i items taken; D: the list's place -/
section
variable {js : List Nat} {tc : TT} {te : TE} {σ : St} {H : Hp} {R : V → Hp → Prop} {D : Addr}
abbrev compBody (js : List Nat) (tc : TT) (te : TE) (σ : St) (D : Addr) (x : V) (H' : Hp) (N : Hp → Prop) : Prop :=
  tc (cSt js (some x) σ) H' fun c H2 => if c = true then te (cSt js (some x) σ) H2 fun y H3 => ∃ ys, H3 D = some (.lst ys) ∧ ys.length < sizeLine ∧ N (upd H3 D (.lst (ys ++ [y]))) else N H2
theorem comp_by {J : It} {n : Nat} (Pv : Nat → Hp → Prop) (h0 : Pv 0 (upd H D (.lst []))) (hgo : ∀ i H, i < n → Pv i H → J.go i H) (hstop : ∀ H, Pv n H → J.stop n H)
    (hs : ∀ i H x H', i < n → Pv i H → J.yld i H x H' → compBody js tc te σ D x H' (Pv (i + 1))) (hd : ∀ H, Pv n H → R (.ref D) H) :
    CompW J js tc te σ R D H := by
  refine ⟨fun i m H => m = n - i ∧ i ≤ n ∧ Pv i H, ⟨n, by simp, Nat.zero_le _, h0⟩, ?_⟩
  rintro i m H ⟨rfl, hi, p⟩
  by_cases hlt : i < n
  · exact .inr ⟨hgo i H hlt p, Pv (i + 1), fun H' p' => ⟨n - (i + 1), by omega, rfl, hlt, p'⟩, fun x H' y => hs i H x H' hlt p y⟩
  · have e : i = n := by omega
    subst e
    exact .inl ⟨hstop H p, hd H p⟩
theorem comp_list {K : PySem.W.Frag} {a : Addr} {xs : List V} (Pv : Nat → Hp → Prop) (h0 : Pv 0 (upd H D (.lst []))) (hl : ∀ i H, Pv i H → SqL K H a xs) (hs : ∀ i x H, xs[i]? = some x → Pv i H → compBody js tc te σ D x H (Pv (i + 1))) (hd : ∀ H, Pv xs.length H → R (.ref D) H) :
    CompW (Itl K a) js tc te σ R D H :=
  comp_by (n := xs.length) Pv h0 (fun i H h p => ⟨xs, xs[i], hl i H p, by simp [h]⟩) (fun H p => ⟨xs, hl _ H p, Nat.le_refl _⟩) (fun i H x H' h p y => by obtain ⟨e, y⟩ := y; subst e; exact hs i x _ (y xs (hl i _ p)) p) hd
end

/-! ### sums as they lie on the heap -/
def O3.w : O3 → Str
  | .add => "add"
  | .sub => "sub"
  | .mul => "mul"
inductive IsSum (H : Hp) : V → Sm Str → Prop where
  | num {a : Addr} {i : Int} : H a = some (.tup [.str "num", .int i]) → IsSum H (.ref a) (.num i)
  | name {a : Addr} {x : Str} : H a = some (.tup [.str "name", .str x]) → IsSum H (.ref a) (.name x)
  | op {a : Addr} {o : O3} {u v : V} {s t : Sm Str} : H a = some (.tup [.str o.w, u, v]) → IsSum H u s → IsSum H v t → IsSum H (.ref a) (.op o s t)
theorem IsSum.mono {H H' : Hp} (L : TupLe H H') {v : V} {s : Sm Str} (h : IsSum H v s) : IsSum H' v s := by
  induction h with
  | num e => exact .num (L _ _ e)
  | name e => exact .name (L _ _ e)
  | op e _ _ i1 i2 => exact .op (L _ _ e) i1 i2

/-! ### two things that are alike, and how many steps it takes to see it -/
end J
namespace J
open PySem L2
theorem len1 {α : Type} {P : List α → Prop} (h : ∀ a, P [a]) : ∀ us : List α, us.length = 1 → P us
  | [a], _ => h a
theorem len2 {α : Type} {P : List α → Prop} (h : ∀ a b, P [a, b]) : ∀ us : List α, us.length = 2 → P us
  | [a, b], _ => h a b
theorem len3 {α : Type} {P : List α → Prop} (h : ∀ a b c, P [a, b, c]) : ∀ us : List α, us.length = 3 → P us
  | [a, b, c], _ => h a b c
theorem len4 {α : Type} {P : List α → Prop} (h : ∀ a b c d, P [a, b, c, d]) : ∀ us : List α, us.length = 4 → P us
  | [a, b, c, d], _ => h a b c d
end J

set_option Elab.async false
set_option linter.all false
set_option maxRecDepth 100000
set_option maxHeartbeats 4000000
namespace J
open PySem L2
theorem iteT' {b : Bool} {A B : Prop} (e : b = true) (h : A) : if b = true then A else B := by rw [e]; exact iteT h
theorem iteF' {b : Bool} {A B : Prop} (e : b = false) (h : B) : if b = true then A else B := by rw [e]; exact iteF h
theorem last_get {α : Type} (xs : List α) (x : α) : (xs ++ [x])[(xs ++ [x]).length - 1]? = some x := by simp
theorem cdiv {i : Int} {j : Int} (h : decide (0 < j ∧ j < 1073741824) = true) : CDiv i j := show 0 < j ∧ j < 1073741824 from of_decide_eq_true h
theorem mul_small {a b : Int} (h : decide (-(2 ^ 64) < a ∧ a < 2 ^ 64) = true) : IntMulOk a b := CMul.ok (.inl (of_decide_eq_true h))
theorem mul_smallR {a b : Int} (h : decide (-(2 ^ 64) < b ∧ b < 2 ^ 64) = true) : IntMulOk a b := CMul.ok (.inr (of_decide_eq_true h))
theorem cutV_ints (ns : List Int) (lo hi : Option Int) : ∃ cs : List Int, cutV (ns.map V.int) lo hi = cs.map V.int ∧ cs.length ≤ ns.length := by
  refine ⟨(ns.drop (HT.sIx (ns.map V.int).length 0 lo)).take (HT.sIx (ns.map V.int).length (ns.map V.int).length hi - HT.sIx (ns.map V.int).length 0 lo), ?_, ?_⟩
  · unfold cutV
    rw [List.map_take, List.map_drop]
  · rw [List.length_take, List.length_drop]; omega

/-! ### tests -/
inductive Ts where
  | less (a b : Sm Str)
  | same (a b : Sm Str)
  | not (t : Ts)
  | both (t u : Ts)
inductive IsTest (H : Hp) : V → Ts → Prop where
  | less {a : Addr} {u v : V} {s t : Sm Str} : H a = some (.tup [.str "less", u, v]) → IsSum H u s → IsSum H v t → IsTest H (.ref a) (.less s t)
  | same {a : Addr} {u v : V} {s t : Sm Str} : H a = some (.tup [.str "same", u, v]) → IsSum H u s → IsSum H v t → IsTest H (.ref a) (.same s t)
  | not {a : Addr} {u : V} {t : Ts} : H a = some (.tup [.str "not", u]) → IsTest H u t → IsTest H (.ref a) (.not t)
  | both {a : Addr} {u v : V} {s t : Ts} : H a = some (.tup [.str "both", u, v]) → IsTest H u s → IsTest H v t → IsTest H (.ref a) (.both s t)
theorem IsTest.mono {H H' : Hp} (L : TupLe H H') {v : V} {t : Ts} (h : IsTest H v t) : IsTest H' v t := by
  induction h with
  | less e h1 h2 => exact .less (L _ _ e) (h1.mono L) (h2.mono L)
  | same e h1 h2 => exact .same (L _ _ e) (h1.mono L) (h2.mono L)
  | not e _ ih => exact .not (L _ _ e) ih
  | both e _ _ i1 i2 => exact .both (L _ _ e) i1 i2
end J
namespace J
open PySem L2
end J

set_option linter.all false
namespace J
deriving instance DecidableEq for Sm
section
variable {α : Type} [DecidableEq α]
def shortPair (o : O3) (a b : Sm α) : Sm α :=
  match a, b with
  | .num i, .num j => .num (o.f i j)
  | a, b =>
    if o = .mul ∧ (a = .num 0 ∨ b = .num 0) then .num 0
    else if b = (if o = .mul then .num 1 else .num 0) then a
    else if a = (if o = .mul then .num 1 else .num 0) ∧ o ≠ .sub then b
    else .op o a b
def Sm.short : Sm α → Sm α
  | .op o a b => shortPair o a.short b.short
  | s => s
end
end J

set_option Elab.async false
set_option linter.all false
set_option maxRecDepth 100000
set_option maxHeartbeats 4000000
namespace L2
open PySem PySem.Spec PyProof.Rows

/-! ### a list is unpacked -/
section
variable {prog : Program} {w : World} {A : Around} {E : Value → Shared → Prop} {s : Shared}
end
section
variable {X : Cx} {pos : Pos}
end

/-! ### tuples of the heap, or the module's own -/
def TpK (K : PySem.W.Frag) (H : Hp) (a : Addr) (xs : List V) : Prop :=
  H a = some (.tup xs) ∨ ∃ (o : Obj) (its : Array Value) (n : Nat), K.lookup a = some o ∧ o.cls = .type "tuple" ∧ o.data = .seq its n ∧ its.size ≤ sizeLine ∧ Vals xs its.toList
theorem TpK.sq {K : PySem.W.Frag} {H : Hp} {a : Addr} {xs : List V} (h : TpK K H a xs) : SqT K H a xs := by
  rcases h with h | h
  · exact SqT.of h
  · exact .inr h
def TyT (K : PySem.W.Frag) (H : Hp) (x : V) (T : String) : Prop := TyOf K H x (.type T) ∨ T = "tuple" ∧ ∃ a xs, x = .ref a ∧ TpK K H a xs
section
variable {X : Cx}
theorem kitx_tyT {H : Hp} {pins : List (Addr × Obj)} {σ : St} {s : Shared} {x : V} {u : Value} {T : String} (I : Inv X pins σ H s) (rx : RelV x u) (ty : TyT X.K H x T) :
    ∃ P : Heap → Prop, PySem.W.KitX X.K u (.type T) P ∧ P s.heap ∧ u ≠ .builtin "__main__.__loader__#opaque" := by
  rcases ty with ty | ⟨rfl, a, xs, rfl, h⟩
  · exact kitx_ty I rx ty
  · cases (show u = Value.ref a from rx)
    obtain ⟨its, _, ⟨o, h1, h2, _⟩, _⟩ := I.tuple h.sq
    exact ⟨_, PySem.W.kitx_tuple, ⟨o, h1, h2⟩, fun z => nomatch z⟩
def rIsiP (K : PySem.W.Frag) : List V → Hp → VK → Prop := fun xs H Q => ∃ x T c b, xs = [x, .ty c] ∧ TyT K H x T ∧ isT T c = some b ∧ Q (.bl b) H
def rIsiTP (K : PySem.W.Frag) : List V → Hp → VK → Prop := fun xs H Q => ∃ x T tp cs b, xs = [x, .ref tp] ∧ TyT K H x T ∧ H tp = some (.tup (cs.map V.ty)) ∧ isAny T cs = some b ∧ Q (.bl b) H
theorem call_isiP : CallR X (.builtin "isinstance") (rIsiP X.K) := by
  intro pins s σ H xs us Q I r h
  obtain ⟨x, T, c, b, rfl, ty, e, q⟩ := h
  obtain ⟨u, w', rfl, r1, r2⟩ := vals2 r
  cases (show w' = Value.type c from r2)
  obtain ⟨P, Z, hP, hx⟩ := kitx_tyT I r1 ty
  exact PySem.W.kia_one Z I.kIn hP ((kitOne_type _ _ _).trans e) hx fun tk => ⟨.bl b, H, I.tok tk, rfl, q⟩
theorem call_isiTP : CallR X (.builtin "isinstance") (rIsiTP X.K) := by
  intro pins s σ H xs us Q I r h
  obtain ⟨x, T, tp, cs, b, rfl, ty, ht, e, q⟩ := h
  obtain ⟨u, w', rfl, r1, r2⟩ := vals2 r
  cases (show w' = Value.ref tp from r2)
  obtain ⟨P, Z, hP, hx⟩ := kitx_tyT I r1 ty
  obtain ⟨_, its, rv, o, ho, hc, n, hd⟩ := (show ObjOk X.prog X.w H s.heap tp (.tup (cs.map V.ty)) from I.hok tp _ ht)
  obtain ⟨c0, dd, data, sl⟩ := o
  simp only at hc hd
  subst hc hd
  have hi := vals_types rv
  subst hi
  exact PySem.W.kia_tup Z I.kIn hP ho ((kitAny_type _ _ _).trans e) hx fun tk => ⟨.bl b, H, I.tok tk, rfl, q⟩
def rExtendP (K : PySem.W.Frag) : V → List V → Hp → VK → Prop := fun x vs H Q => ∃ l b xs zs, x = .ref l ∧ vs = [.ref b] ∧ H l = some (.lst xs) ∧ (H b = some (.lst zs) ∨ TpK K H b zs) ∧ xs.length + zs.length ≤ sizeLine ∧ Q .non (upd H l (.lst (xs ++ zs)))
theorem mt_extendP : MtM X "list.extend" (rExtendP X.K) := by
  intro pins s σ H x vs v us Q I rx rv h
  obtain ⟨l, b, xs, zs, rfl, rfl, hH, hB, hz, q⟩ := h
  rcases hB with hB | hB
  · exact mt_extend pins s σ H _ _ v us Q I rx rv ⟨l, b, xs, zs, rfl, rfl, hH, hB, hz, q⟩
  cases rx
  obtain ⟨u, rfl, ru⟩ := rv.one
  cases ru
  obtain ⟨z, its, n, r, hl, e⟩ := I.lstM hH
  obtain ⟨its2, r2, ⟨⟨c0, dd, data, sl⟩, ho, hc, n2, hd⟩, z2⟩ := I.tuple hB.sq
  simp only at hc hd
  subst hc hd
  have hl2 := r2.length
  have hsz : its.toArray.size + its2.toArray.size ≤ sizeLine := by rw [List.size_toArray, List.size_toArray]; omega
  have hlong : ¬ (!its.toArray.isEmpty && Builtin.List.listTooLong (its.toArray.size + its2.toArray.size)) = true := by
    rw [notLongL hsz, Bool.and_false]
    exact Bool.false_ne_true
  refine call_meets F.slot_list_extend ⟨_, e, rfl⟩ F.entry_list_extend (F.args_list_extend_2 _ _)
    (HT.ext_tup l its.toArray n b its2.toArray n2 dd sl hlong (by rw [List.size_toArray]; omega) (by omega)) ⟨e, ho, ?_⟩
  refine ⟨.non, _, I.lset (its' := its ++ its2) hH e (by simp) (r.append r2) ?_, rfl, q⟩
  rw [List.length_append]
  omega
end
end L2

namespace J
open PySem L2
theorem _root_.L2.TpK.mono {K : PySem.W.Frag} {H H' : Hp} (L : TupLe H H') {a : Addr} {xs : List V} (h : TpK K H a xs) : TpK K H' a xs := by
  rcases h with h | h
  · exact .inl (L _ _ h)
  · exact .inr h
inductive SumK (K : PySem.W.Frag) (H : Hp) : V → Sm Str → Prop where
  | num {a : Addr} {i : Int} : TpK K H a [.str "num", .int i] → SumK K H (.ref a) (.num i)
  | name {a : Addr} {x : Str} : TpK K H a [.str "name", .str x] → SumK K H (.ref a) (.name x)
  | op {a : Addr} {o : O3} {u v : V} {s t : Sm Str} : TpK K H a [.str o.w, u, v] → SumK K H u s → SumK K H v t → SumK K H (.ref a) (.op o s t)
theorem IsSum.k {K : PySem.W.Frag} {H : Hp} {v : V} {s : Sm Str} (h : IsSum H v s) : SumK K H v s := by
  induction h with
  | num e => exact .num (.inl e)
  | name e => exact .name (.inl e)
  | op e _ _ i1 i2 => exact .op (.inl e) i1 i2

/-! ### a sum against ("num", n) -/
section
variable {X : Cx}
end

/-! ### two sums alike -/
inductive AlkK (K : PySem.W.Frag) (H : Hp) : List V → List V → Nat → Prop where
  | nil : AlkK K H [] [] 0
  | int {i : Int} {xs ys : List V} {n : Nat} : AlkK K H xs ys n → AlkK K H (.int i :: xs) (.int i :: ys) (n + 1)
  | str {z : Str} {xs ys : List V} {n : Nat} : AlkK K H xs ys n → AlkK K H (.str z :: xs) (.str z :: ys) (n + 1)
  | tup {a b : Addr} {us vs xs ys : List V} {m n : Nat} : TpK K H a us → TpK K H b vs → AlkK K H us vs m → AlkK K H xs ys n → AlkK K H (.ref a :: xs) (.ref b :: ys) (m + n + 1)
theorem AlkK.app {K : PySem.W.Frag} {H : Hp} {xs ys us vs : List V} {m n : Nat} (h : AlkK K H xs ys m) (g : AlkK K H us vs n) : AlkK K H (xs ++ us) (ys ++ vs) (m + n) := by
  induction h with
  | nil => rw [Nat.zero_add]; exact g
  | @int i xs ys k _ ih => rw [show k + 1 + n = (k + n) + 1 by omega]; exact .int ih
  | @str z xs ys k _ ih => rw [show k + 1 + n = (k + n) + 1 by omega]; exact .str ih
  | @tup a b us vs xs ys m' n' e1 e2 h1 _ _ ih => rw [show m' + n' + 1 + n = m' + (n' + n) + 1 by omega]; exact .tup e1 e2 h1 ih
inductive AlkK1 (K : PySem.W.Frag) (H : Hp) : V → V → Nat → Prop where
  | int (i : Int) : AlkK1 K H (.int i) (.int i) 1
  | str (z : Str) : AlkK1 K H (.str z) (.str z) 1
  | tup {a b : Addr} {us vs : List V} {m : Nat} : TpK K H a us → TpK K H b vs → AlkK K H us vs m → AlkK1 K H (.ref a) (.ref b) (m + 1)
theorem AlkK.cons1 {K : PySem.W.Frag} {H : Hp} {x y : V} {xs ys : List V} {k n : Nat} (h : AlkK1 K H x y k) (g : AlkK K H xs ys n) : AlkK K H (x :: xs) (y :: ys) (k + n) := by
  cases h with
  | int i => rw [Nat.add_comm]; exact .int g
  | str i => rw [Nat.add_comm]; exact .str g
  | @tup a b us vs m e1 e2 h => rw [show m + 1 + n = m + n + 1 by omega]; exact .tup e1 e2 h g
/-- two of one sum are alike -/
theorem SumK.alk {K : PySem.W.Frag} {H : Hp} {u v : V} {s : Sm Str} (h : SumK K H u s) : SumK K H v s → ∃ n, n + 2 ≤ 5 * s.lv ∧ AlkK1 K H u v n := by
  induction h generalizing v with
  | num e =>
    intro g
    cases g with
    | num e' => exact ⟨3, by show 3 + 2 ≤ 5 * 1; decide, .tup e e' (.str (.int .nil))⟩
  | name e =>
    intro g
    cases g with
    | name e' => exact ⟨3, by show 3 + 2 ≤ 5 * 1; decide, .tup e e' (.str (.str .nil))⟩
  | @op a o u v s t e _ _ i1 i2 =>
    intro g
    cases g with
    | @op a' _ u' v' _ _ e' g1 g2 =>
      obtain ⟨n1, l1, q1⟩ := i1 g1
      obtain ⟨n2, l2, q2⟩ := i2 g2
      refine ⟨_, ?_, .tup e e' (.str (.cons1 q1 (.cons1 q2 .nil)))⟩
      show n1 + (n2 + 0) + 1 + 1 + 2 ≤ 5 * (s.lv + t.lv)
      omega
end J
namespace L2
end L2
namespace J
open PySem L2
theorem at0 {x : V} {xs : List V} : atI (x :: xs) 0 = some x := atI_nat (j := 0) rfl
end J
namespace J
end J
namespace J
end J

set_option Elab.async false
set_option linter.all false
set_option maxRecDepth 100000
set_option maxHeartbeats 4000000
namespace L2
open PySem PySem.Spec PyProof.Rows
/-! ### two lists of the same numbers -/
section
variable {X : Cx}
end
end L2
namespace J
open PySem L2
/-! ### two things alike: numbers, texts, tuples (also the module's own), lists -/
inductive AlkL (K : PySem.W.Frag) (H : Hp) : List V → List V → Nat → Prop where
  | nil : AlkL K H [] [] 0
  | int {i : Int} {xs ys : List V} {n : Nat} : AlkL K H xs ys n → AlkL K H (.int i :: xs) (.int i :: ys) (n + 1)
  | str {z : Str} {xs ys : List V} {n : Nat} : AlkL K H xs ys n → AlkL K H (.str z :: xs) (.str z :: ys) (n + 1)
  | tup {a b : Addr} {us vs xs ys : List V} {m n : Nat} : TpK K H a us → TpK K H b vs → AlkL K H us vs m → AlkL K H xs ys n → AlkL K H (.ref a :: xs) (.ref b :: ys) (m + n + 1)
  | lst {a b : Addr} {us vs xs ys : List V} {m n : Nat} : H a = some (.lst us) → H b = some (.lst vs) → AlkL K H us vs m → AlkL K H xs ys n → AlkL K H (.ref a :: xs) (.ref b :: ys) (m + n + 1)
theorem AlkL.len {K : PySem.W.Frag} {H : Hp} {xs ys : List V} {n : Nat} (h : AlkL K H xs ys n) : xs.length = ys.length ∧ xs.length ≤ n := by
  induction h with
  | nil => exact ⟨rfl, Nat.le_refl _⟩
  | int _ ih => simp only [List.length_cons]; omega
  | str _ ih => simp only [List.length_cons]; omega
  | tup _ _ _ _ i1 i2 => simp only [List.length_cons]; omega
  | lst _ _ _ _ i1 i2 => simp only [List.length_cons]; omega
theorem AlkL.app {K : PySem.W.Frag} {H : Hp} {xs ys us vs : List V} {m n : Nat} (h : AlkL K H xs ys m) (g : AlkL K H us vs n) : AlkL K H (xs ++ us) (ys ++ vs) (m + n) := by
  induction h with
  | nil => rw [Nat.zero_add]; exact g
  | @int i xs ys k _ ih => rw [show k + 1 + n = (k + n) + 1 by omega]; exact .int ih
  | @str z xs ys k _ ih => rw [show k + 1 + n = (k + n) + 1 by omega]; exact .str ih
  | @tup a b us vs xs ys m' n' e1 e2 h1 _ _ ih => rw [show m' + n' + 1 + n = m' + (n' + n) + 1 by omega]; exact .tup e1 e2 h1 ih
  | @lst a b us vs xs ys m' n' e1 e2 h1 _ _ ih => rw [show m' + n' + 1 + n = m' + (n' + n) + 1 by omega]; exact .lst e1 e2 h1 ih
inductive AlkL1 (K : PySem.W.Frag) (H : Hp) : V → V → Nat → Prop where
  | int (i : Int) : AlkL1 K H (.int i) (.int i) 1
  | str (z : Str) : AlkL1 K H (.str z) (.str z) 1
  | tup {a b : Addr} {us vs : List V} {m : Nat} : TpK K H a us → TpK K H b vs → AlkL K H us vs m → AlkL1 K H (.ref a) (.ref b) (m + 1)
  | lst {a b : Addr} {us vs : List V} {m : Nat} : H a = some (.lst us) → H b = some (.lst vs) → AlkL K H us vs m → AlkL1 K H (.ref a) (.ref b) (m + 1)
theorem AlkL.last {K : PySem.W.Frag} {H : Hp} {xs ys : List V} {n : Nat} (h : AlkL K H xs ys n) : xs = [] ∧ ys = [] ∨ ∃ xs' ys' x y m k, xs = xs' ++ [x] ∧ ys = ys' ++ [y] ∧ AlkL K H xs' ys' m ∧ AlkL1 K H x y k ∧ n = m + k := by
  induction h with
  | nil => exact .inl ⟨rfl, rfl⟩
  | @int i xs ys k h ih =>
    refine .inr ?_
    rcases ih with ⟨rfl, rfl⟩ | ⟨xs', ys', x, y, m, k', rfl, rfl, h1, h2, rfl⟩
    · cases h
      exact ⟨[], [], _, _, 0, 1, rfl, rfl, .nil, .int i, by omega⟩
    · exact ⟨_ :: xs', _ :: ys', x, y, m + 1, k', rfl, rfl, .int h1, h2, by omega⟩
  | @str i xs ys k h ih =>
    refine .inr ?_
    rcases ih with ⟨rfl, rfl⟩ | ⟨xs', ys', x, y, m, k', rfl, rfl, h1, h2, rfl⟩
    · cases h
      exact ⟨[], [], _, _, 0, 1, rfl, rfl, .nil, .str i, by omega⟩
    · exact ⟨_ :: xs', _ :: ys', x, y, m + 1, k', rfl, rfl, .str h1, h2, by omega⟩
  | @tup a b us vs xs ys m n e1 e2 h1 h _ ih =>
    refine .inr ?_
    rcases ih with ⟨rfl, rfl⟩ | ⟨xs', ys', x, y, m', k', rfl, rfl, g1, g2, rfl⟩
    · cases h
      exact ⟨[], [], _, _, 0, m + 1, rfl, rfl, .nil, .tup e1 e2 h1, by omega⟩
    · exact ⟨_ :: xs', _ :: ys', x, y, m + m' + 1, k', rfl, rfl, .tup e1 e2 h1 g1, g2, by omega⟩
  | @lst a b us vs xs ys m n e1 e2 h1 h _ ih =>
    refine .inr ?_
    rcases ih with ⟨rfl, rfl⟩ | ⟨xs', ys', x, y, m', k', rfl, rfl, g1, g2, rfl⟩
    · cases h
      exact ⟨[], [], _, _, 0, m + 1, rfl, rfl, .nil, .lst e1 e2 h1, by omega⟩
    · exact ⟨_ :: xs', _ :: ys', x, y, m + m' + 1, k', rfl, rfl, .lst e1 e2 h1 g1, g2, by omega⟩
theorem AlkL.cons1 {K : PySem.W.Frag} {H : Hp} {x y : V} {xs ys : List V} {k n : Nat} (h : AlkL1 K H x y k) (g : AlkL K H xs ys n) : AlkL K H (x :: xs) (y :: ys) (k + n) := by
  cases h with
  | int i => rw [Nat.add_comm]; exact .int g
  | str i => rw [Nat.add_comm]; exact .str g
  | @tup a b us vs m e1 e2 h => rw [show m + 1 + n = m + n + 1 by omega]; exact .tup e1 e2 h g
  | @lst a b us vs m e1 e2 h => rw [show m + 1 + n = m + n + 1 by omega]; exact .lst e1 e2 h g
theorem AlkL.strs {K : PySem.W.Frag} {H : Hp} : ∀ xs : List Str, AlkL K H (xs.map V.str) (xs.map V.str) xs.length
  | [] => .nil
  | _ :: r => .str (AlkL.strs r)

/-! ### cards -/
inductive Cd where
  | push (i : Int) | load (k : Int) | store (k : Int) | drop | op (o : O3) | less | same | flip | say | skip (k : Int) | fork (k : Int) | burn | back (k : Int)

/-! ### the cards of a sum and of a test -/
def Sm.cards (ns : List Str) : Sm Str → List Cd
  | .num i => [.push i]
  | .name x => [.load (((lastIx ns x).getD 0 : Nat) : Int)]
  | .op o a b => a.cards ns ++ b.cards ns ++ [.op o]
def Ts.cards (ns : List Str) : Ts → List Cd
  | .less a b => a.cards ns ++ b.cards ns ++ [.less]
  | .same a b => a.cards ns ++ b.cards ns ++ [.same]
  | .not t => t.cards ns ++ [.flip]
  | .both t u => t.cards ns ++ [.fork (((u.cards ns).length : Int) + 1)] ++ u.cards ns ++ [.skip 1, .push 0]
def Ts.dp : Ts → Nat
  | .less a b => max a.dp b.dp + 1
  | .same a b => max a.dp b.dp + 1
  | .not t => t.dp + 1
  | .both t u => max t.dp u.dp + 1
/-- a sum or a test -/
inductive Th where
  | s (x : Sm Str)
  | t (x : Ts)
def Th.cards (ns : List Str) : Th → List Cd
  | .s x => x.cards ns
  | .t x => x.cards ns
def Th.dp : Th → Nat
  | .s x => x.dp
  | .t x => x.dp
def IsTh (H : Hp) (v : V) : Th → Prop
  | .s s => IsSum H v s
  | .t t => IsTest H v t
theorem IsTh.mono {H H' : Hp} (L : TupLe H H') {v : V} : ∀ {t : Th}, IsTh H v t → IsTh H' v t
  | .s _, h => IsSum.mono L h
  | .t _, h => IsTest.mono L h
end J

set_option Elab.async false
set_option linter.all false
set_option maxRecDepth 100000
set_option maxHeartbeats 4000000
namespace J
open PySem L2
end J
namespace J
open PySem L2
theorem plast {α β : Type} {F : α → β → Prop} : ∀ {vs : List α} {rs : List β}, Paired F vs rs → vs = [] ∧ rs = [] ∨ ∃ vs' v rs' r, vs = vs' ++ [v] ∧ rs = rs' ++ [r] ∧ Paired F vs' rs' ∧ F v r
  | _, _, .nil => .inl ⟨rfl, rfl⟩
  | _, _, .cons (a := x) (b := y) q t => by
    rcases plast t with ⟨rfl, rfl⟩ | ⟨vs', v, rs', r, e1, e2, h1, h2⟩
    · exact .inr ⟨[], x, [], y, rfl, rfl, .nil, q⟩
    · exact .inr ⟨x :: vs', v, y :: rs', r, by rw [e1]; rfl, by rw [e2]; rfl, .cons q h1, h2⟩
theorem plen {α β : Type} {F : α → β → Prop} : ∀ {vs : List α} {rs : List β}, Paired F vs rs → vs.length = rs.length
  | _, _, .nil => rfl
  | _, _, .cons _ t => by rw [List.length_cons, List.length_cons, plen t]
theorem pget {α β : Type} {F : α → β → Prop} : ∀ {vs : List α} {rs : List β} {i : Nat} {v : α}, Paired F vs rs → vs[i]? = some v → ∃ r, rs[i]? = some r ∧ F v r
  | _, _, i, v, .nil, h => by simp at h
  | _, _, 0, v, .cons q _, h => by simp at h; subst h; exact ⟨_, rfl, q⟩
  | _, _, i + 1, v, .cons _ t, h => by simpa using pget t (by simpa using h)
/-! ### t[1:] -/
theorem cutV_tail (x : V) (us : List V) : cutV (x :: us) (some 1) none = us := by
  unfold cutV HT.sIx
  simp
theorem not_whole (n : Nat) : ¬ (HT.sIx (n + 1) 0 (some 1) = 0 ∧ HT.sIx (n + 1) (n + 1) none = n + 1) := by
  unfold HT.sIx
  simp
end J
namespace J
open PySem L2
end J
namespace J
open PySem L2
end J

set_option Elab.async false
set_option linter.all false
set_option maxRecDepth 100000
set_option maxHeartbeats 4000000
namespace J
open PySem L2
/-! ### tests made shorter; their tuples may be the module's own -/
def Ts.mkNot : Ts → Ts
  | .not x => x
  | y => .not y
def Ts.short : Ts → Ts
  | .less a b => .less a.short b.short
  | .same a b => .same a.short b.short
  | .not t => Ts.mkNot t.short
  | .both t u => .both t.short u.short
inductive TestK (K : PySem.W.Frag) (H : Hp) : V → Ts → Prop where
  | less {a : Addr} {u v : V} {s t : Sm Str} : TpK K H a [.str "less", u, v] → SumK K H u s → SumK K H v t → TestK K H (.ref a) (.less s t)
  | same {a : Addr} {u v : V} {s t : Sm Str} : TpK K H a [.str "same", u, v] → SumK K H u s → SumK K H v t → TestK K H (.ref a) (.same s t)
  | not {a : Addr} {u : V} {t : Ts} : TpK K H a [.str "not", u] → TestK K H u t → TestK K H (.ref a) (.not t)
  | both {a : Addr} {u v : V} {s t : Ts} : TpK K H a [.str "both", u, v] → TestK K H u s → TestK K H v t → TestK K H (.ref a) (.both s t)
theorem IsTest.k {K : PySem.W.Frag} {H : Hp} {v : V} {t : Ts} (h : IsTest H v t) : TestK K H v t := by
  induction h with
  | less e h1 h2 => exact .less (.inl e) h1.k h2.k
  | same e h1 h2 => exact .same (.inl e) h1.k h2.k
  | not e _ ih => exact .not (.inl e) ih
  | both e _ _ i1 i2 => exact .both (.inl e) i1 i2
/-- how much there is to compare -/
def Ts.sz : Ts → Nat
  | .less a b => a.lv + b.lv + 1
  | .same a b => a.lv + b.lv + 1
  | .not t => t.sz + 1
  | .both t u => t.sz + u.sz + 1
theorem AlkK.toL {K : PySem.W.Frag} {H : Hp} {xs ys : List V} {n : Nat} (h : AlkK K H xs ys n) : AlkL K H xs ys n := by
  induction h with
  | nil => exact .nil
  | int _ ih => exact .int ih
  | str _ ih => exact .str ih
  | tup e1 e2 _ _ i1 i2 => exact .tup e1 e2 i1 i2
theorem AlkK1.toL {K : PySem.W.Frag} {H : Hp} {x y : V} {n : Nat} (h : AlkK1 K H x y n) : AlkL1 K H x y n := by
  cases h with
  | int i => exact .int i
  | str z => exact .str z
  | tup e1 e2 h => exact .tup e1 e2 h.toL
theorem TestK.alk {K : PySem.W.Frag} {H : Hp} {u v : V} {t : Ts} (h : TestK K H u t) : TestK K H v t → ∃ n, n ≤ 5 * t.sz ∧ AlkL1 K H u v n := by
  induction h generalizing v with
  | @less a u1 v1 s t e h1 h2 =>
    intro g
    cases g with
    | less e' g1 g2 =>
      obtain ⟨n1, l1, q1⟩ := h1.alk g1
      obtain ⟨n2, l2, q2⟩ := h2.alk g2
      refine ⟨_, ?_, .tup e e' (.str (.cons1 q1.toL (.cons1 q2.toL .nil)))⟩
      show n1 + (n2 + 0) + 1 + 1 ≤ 5 * (s.lv + t.lv + 1)
      omega
  | @same a u1 v1 s t e h1 h2 =>
    intro g
    cases g with
    | same e' g1 g2 =>
      obtain ⟨n1, l1, q1⟩ := h1.alk g1
      obtain ⟨n2, l2, q2⟩ := h2.alk g2
      refine ⟨_, ?_, .tup e e' (.str (.cons1 q1.toL (.cons1 q2.toL .nil)))⟩
      show n1 + (n2 + 0) + 1 + 1 ≤ 5 * (s.lv + t.lv + 1)
      omega
  | @not a u1 t e _ ih =>
    intro g
    cases g with
    | not e' g1 =>
      obtain ⟨n1, l1, q1⟩ := ih g1
      refine ⟨_, ?_, .tup e e' (.str (.cons1 q1 .nil))⟩
      show n1 + 0 + 1 + 1 ≤ 5 * (t.sz + 1)
      omega
  | @both a u1 v1 s t e _ _ i1 i2 =>
    intro g
    cases g with
    | both e' g1 g2 =>
      obtain ⟨n1, l1, q1⟩ := i1 g1
      obtain ⟨n2, l2, q2⟩ := i2 g2
      refine ⟨_, ?_, .tup e e' (.str (.cons1 q1 (.cons1 q2 .nil)))⟩
      show n1 + (n2 + 0) + 1 + 1 ≤ 5 * (s.sz + t.sz + 1)
      omega
end J

set_option Elab.async false
set_option linter.all false
set_option maxRecDepth 100000
set_option maxHeartbeats 4000000
namespace L2
open PySem PySem.Spec PyProof.Rows
/-! ### a text so many times -/
section
variable {X : Cx}
def repS (x : Str) (n : Int) : Str := if n < 1 then Str.empty else if (n == 1 || x.length == 0) = true then x else ⟨(List.replicate n.toNat x.cps).foldl (· ++ ·) #[]⟩
def rRepS : R2 := fun x y H Q => ∃ z n, x = .str z ∧ y = .int n ∧ (0 ≤ n ∧ n ≤ 1000 ∧ z.length ≤ 1000) ∧ (repS z n).length ≤ sizeLine ∧ Q (.str (repS z n)) H
theorem op_rep_str : OpR X (binaryOp .Mult) rRepS := by
  intro pins s σ H x y v u Q I rx ry h
  obtain ⟨z, n, rfl, rfl, ⟨h0, h1, h2⟩, hl, q⟩ := h
  obtain ⟨t, rfl⟩ := rx
  obtain ⟨t', rfl⟩ := ry
  refine P.mul_str (by simp; omega) (fun c _ => ?_) (fun c _ => ?_) ?_
  · have hn : 0 < n := by omega
    have : (1000 : Int) ≤ (2 ^ 63 - 1) / n := (Int.le_ediv_iff_mul_le hn).mpr (by omega)
    omega
  · have hle : z.length * n.toNat ≤ 1000 * 1000 := Nat.mul_le_mul h2 (by omega)
    unfold Builtin.Str.tooLong
    rw [decide_eq_false]
    rw [sizeLine_eq]
    omega
  · unfold repS at hl q
    by_cases c : n < 1
    · rw [if_pos c] at hl q ⊢
      exact ⟨hl, ⟨.str _, H, I.tok _, ⟨_, rfl⟩, q⟩⟩
    · rw [if_neg c] at hl q ⊢
      by_cases d : (n == 1 || z.length == 0) = true
      · rw [if_pos d] at hl q ⊢
        exact ⟨.str _, H, I, ⟨_, rfl⟩, q⟩
      · rw [if_neg d] at hl q ⊢
        exact ⟨hl, ⟨.str _, H, I.tok _, ⟨_, rfl⟩, q⟩⟩
end
end L2

set_option Elab.async false
set_option linter.all false
set_option maxRecDepth 100000
set_option maxHeartbeats 4000000
namespace J
open PySem L2
/-! ### blocks of orders -/
inductive Bk where
  | nil
  | set (x : Str) (a : Sm Str) (r : Bk)
  | say (a : Sm Str) (r : Bk)
  | when (t : Ts) (b c r : Bk)
  | whil (t : Ts) (b r : Bk)
  | wit (x : Str) (a : Sm Str) (b r : Bk)
def Bk.app : Bk → Bk → Bk
  | .nil, k => k
  | .set x a r, k => .set x a (r.app k)
  | .say a r, k => .say a (r.app k)
  | .when t b c r, k => .when t b c (r.app k)
  | .whil t b r, k => .whil t b (r.app k)
  | .wit x a b r, k => .wit x a b (r.app k)
/-- how many orders there are in all -/
def Bk.n : Bk → Nat
  | .nil => 0
  | .set _ _ r => r.n + 1
  | .say _ r => r.n + 1
  | .when _ b c r => b.n + c.n + r.n + 1
  | .whil _ b r => b.n + r.n + 1
  | .wit _ _ b r => b.n + r.n + 1
theorem Bk.n_app : ∀ b c : Bk, (b.app c).n = b.n + c.n
  | .nil, c => by show c.n = 0 + c.n; omega
  | .set x a r, c => by show (r.app c).n + 1 = r.n + 1 + c.n; rw [Bk.n_app r c]; omega
  | .say a r, c => by show (r.app c).n + 1 = r.n + 1 + c.n; rw [Bk.n_app r c]; omega
  | .when t b d r, c => by show b.n + d.n + (r.app c).n + 1 = b.n + d.n + r.n + 1 + c.n; rw [Bk.n_app r c]; omega
  | .whil t b r, c => by show b.n + (r.app c).n + 1 = b.n + r.n + 1 + c.n; rw [Bk.n_app r c]; omega
  | .wit x a b r, c => by show b.n + (r.app c).n + 1 = b.n + r.n + 1 + c.n; rw [Bk.n_app r c]; omega
/-- a block as it lies on the heap; M: the lists that may still change -/
inductive IsBk (H : Hp) (M : Addr → Prop) : List V → Bk → Prop where
  | nil : IsBk H M [] .nil
  | set {a : Addr} {x : Str} {u : V} {s : Sm Str} {vs : List V} {r : Bk} : H a = some (.tup [.str "set", .str x, u]) → IsSum H u s → IsBk H M vs r → IsBk H M (.ref a :: vs) (.set x s r)
  | say {a : Addr} {u : V} {s : Sm Str} {vs : List V} {r : Bk} : H a = some (.tup [.str "say", u]) → IsSum H u s → IsBk H M vs r → IsBk H M (.ref a :: vs) (.say s r)
  | when {a p q : Addr} {u : V} {t : Ts} {vb vc vs : List V} {b c r : Bk} : H a = some (.tup [.str "when", u, .ref p, .ref q]) → IsTest H u t → ¬ M p → H p = some (.lst vb) → IsBk H M vb b → ¬ M q → H q = some (.lst vc) → IsBk H M vc c → IsBk H M vs r → IsBk H M (.ref a :: vs) (.when t b c r)
  | whil {a p : Addr} {u : V} {t : Ts} {vb vs : List V} {b r : Bk} : H a = some (.tup [.str "while", u, .ref p]) → IsTest H u t → ¬ M p → H p = some (.lst vb) → IsBk H M vb b → IsBk H M vs r → IsBk H M (.ref a :: vs) (.whil t b r)
  | wit {a p : Addr} {x : Str} {u : V} {s : Sm Str} {vb vs : List V} {b r : Bk} : H a = some (.tup [.str "with", .str x, u, .ref p]) → IsSum H u s → ¬ M p → H p = some (.lst vb) → IsBk H M vb b → IsBk H M vs r → IsBk H M (.ref a :: vs) (.wit x s b r)
/-- what may change is of M -/
def Out (M : Addr → Prop) (H H' : Hp) : Prop := ∀ a o, ¬ M a → H a = some o → H' a = some o
theorem Out.of {M : Addr → Prop} {H H' : Hp} (S : Same H H') : Out M H H' := fun a o _ h => S a o h
theorem out_upd {M : Addr → Prop} {H : Hp} {l : Addr} (h : M l) (o : HO) : Out M H (upd H l o) := fun b u n q => by
  have hbl : b ≠ l := fun e => n (by rw [e]; exact h)
  rw [upd_ne hbl]; exact q
theorem IsBk.mono {H H' : Hp} {M M' : Addr → Prop} (B : Out M H H') (L : TupLe H H') (W : ∀ a, H a ≠ none → M' a → M a) {vs : List V} {b : Bk} (h : IsBk H M vs b) : IsBk H' M' vs b := by
  induction h with
  | nil => exact .nil
  | set e s _ ih => exact .set (L _ _ e) (s.mono L) ih
  | say e s _ ih => exact .say (L _ _ e) (s.mono L) ih
  | when e t n1 e1 _ n2 e2 _ _ i1 i2 i3 => exact .when (L _ _ e) (t.mono L) (fun z => n1 (W _ (by rw [e1]; exact fun z => nomatch z) z)) (B _ _ n1 e1) i1 (fun z => n2 (W _ (by rw [e2]; exact fun z => nomatch z) z)) (B _ _ n2 e2) i2 i3
  | whil e t n1 e1 _ _ i1 i2 => exact .whil (L _ _ e) (t.mono L) (fun z => n1 (W _ (by rw [e1]; exact fun z => nomatch z) z)) (B _ _ n1 e1) i1 i2
  | wit e t n1 e1 _ _ i1 i2 => exact .wit (L _ _ e) (t.mono L) (fun z => n1 (W _ (by rw [e1]; exact fun z => nomatch z) z)) (B _ _ n1 e1) i1 i2
theorem IsBk.app {H : Hp} {M : Addr → Prop} {vs ws : List V} {b c : Bk} (h : IsBk H M vs b) (g : IsBk H M ws c) : IsBk H M (vs ++ ws) (b.app c) := by
  induction h with
  | nil => exact g
  | set e s _ ih => exact .set e s ih
  | say e s _ ih => exact .say e s ih
  | when e t n1 e1 h1 n2 e2 h2 _ _ _ i3 => exact .when e t n1 e1 h1 n2 e2 h2 i3
  | whil e t n1 e1 h1 _ _ i2 => exact .whil e t n1 e1 h1 i2
  | wit e t n1 e1 h1 _ _ i2 => exact .wit e t n1 e1 h1 i2
theorem IsBk.len {H : Hp} {M : Addr → Prop} {vs : List V} {b : Bk} (h : IsBk H M vs b) : vs.length ≤ b.n := by
  induction h with
  | nil => exact Nat.le_refl _
  | set _ _ _ ih => show _ + 1 ≤ _ + 1; omega
  | say _ _ _ ih => show _ + 1 ≤ _ + 1; omega
  | when _ _ _ _ _ _ _ _ _ _ _ i3 => show _ + 1 ≤ _ + _ + _ + 1; omega
  | whil _ _ _ _ _ _ _ i2 => show _ + 1 ≤ _ + _ + 1; omega
  | wit _ _ _ _ _ _ _ i2 => show _ + 1 ≤ _ + _ + 1; omega
/-- no list may change any more -/
abbrev noM : Addr → Prop := fun _ => False
theorem IsBk.same {H H' : Hp} (S : Same H H') {vs : List V} {b : Bk} (h : IsBk H noM vs b) : IsBk H' noM vs b := h.mono (.of S) S.tup fun _ _ z => z

/-! ### how the law draws its programs -/
def drw (n p m : Int) : Int := n * 48271 % p % m
theorem drw_lo {n p m : Int} (h : 0 < m) : 0 ≤ drw n p m := Int.emod_nonneg _ (by omega)
theorem drw_hi {n p m : Int} (h : 0 < m) : drw n p m < m := Int.emod_lt_of_pos _ h
def leafN (salt p2 : Int) : Int := if drw salt p2 13 - 3 = 9 then 10 ^ 30 + 7 else if drw salt p2 13 - 3 = 8 then salt * 48271 % 10 ^ 30 - 5 * 10 ^ 29 else drw salt p2 13 - 3
def leafF (salt p1 p2 : Int) (sc : List Str) : Sm Str :=
  if drw salt p1 ((sc.length : Int) + 2) < (sc.length : Int) then .name ((sc[(drw salt p1 ((sc.length : Int) + 2)).toNat]?).getD "") else .num (leafN salt p2)
def turned (o : Sm Str) (l : Int) : Nat → Sm Str
  | 0 => o
  | k + 1 => .op (if k % 2 = 0 then .add else .sub) (turned o l k) (.num l)
def sumF (salt : Int) (sc : List Str) : Sm Str :=
  let way := drw salt 1051 8
  let less := drw salt 1061 4
  let one := leafF salt 1009 1013 sc
  let two := leafF salt 1019 1021 sc
  if way < 2 then one
  else if way = 2 then .op .add one two
  else if way = 3 then .op .sub one two
  else if way = 4 then .op .mul one (.num (less - 1))
  else if way = 7 then turned one less (less + 3).toNat
  else if way = 6 then .op .sub (.op .add (.op .mul (.num less) (.op .sub two one)) two) (.op .sub one (.num less))
  else .op .sub (.op .add one two) (.op .mul (.num less) two)
def testF (salt : Int) (sc : List Str) : Ts :=
  let way := drw salt 1063 7
  let one := if drw salt 1097 3 = 1 then sumF salt sc else leafF salt 1009 1013 sc
  let least := Ts.less one (.num (drw salt 1069 9 - 1))
  let other := Ts.same one (leafF salt 1019 1021 sc)
  if way = 3 then other
  else if way = 4 then .not least
  else if way = 6 then .both (.both least other) (.not (.both other least))
  else if way = 5 then .both (.not (.not least)) (.less (.num (-6)) one)
  else least
inductive Hd where
  | whil (t : Ts)
  | when (t : Ts)
  | els (t : Ts) (b : Bk)
  | wit (x : Str) (a : Sm Str)
def jarsF (sc : List Str) : List Str := sc.take 3 ++ [("aa" : Str), ("quill" : Str)]
def jarF (salt : Int) (sc : List Str) : Str := ((jarsF sc)[(drw salt 1087 ((jarsF sc).length : Int)).toNat]?).getD ""
def headF (way salt : Int) (sc : List Str) : Hd :=
  if way = 0 then .whil (testF salt sc) else if way = 1 then .when (testF salt sc) else .wit (jarF salt sc) (sumF salt sc)
/-- what a while over a name gets at its end -/
def endF (salt : Int) : Ts → Bk
  | .less (.name x) _ => if drw salt 1093 4 > 0 then .set x (.op .add (.name x) (.num 1)) .nil else .nil
  | _ => .nil
structure Gs where
  bs : List Bk
  hs : List Hd
  sc : List Str
/-- the innermost first -/
def closeF (salt : Int) (g : Gs) : Gs :=
  match g.hs, g.bs with
  | .when t :: hs, b :: bs => ⟨.nil :: bs, .els t b :: hs, g.sc⟩
  | .els t b0 :: hs, b :: b1 :: bs => ⟨b1.app (.when t b0 b .nil) :: bs, hs, g.sc⟩
  | .whil t :: hs, b :: b1 :: bs => ⟨b1.app (.whil t (b.app (endF salt t)) .nil) :: bs, hs, g.sc⟩
  | .wit x a :: hs, b :: b1 :: bs => ⟨b1.app (.wit x a b .nil) :: bs, hs, g.sc.dropLast⟩
  | _, _ => g
def addF (o : Bk) (g : Gs) : Gs :=
  match g.bs with
  | b :: bs => ⟨b.app o :: bs, g.hs, g.sc⟩
  | [] => g
def stepF (more : List Str) (k : Nat) (cell : Int) (g : Gs) : Gs :=
  let way := cell % 9
  let salt := cell + 7919 * k
  let near := g.sc ++ more
  if way < 3 then ⟨.nil :: g.bs, headF way salt near :: g.hs, if way = 2 then g.sc ++ [jarF salt near] else g.sc⟩
  else if way < 6 ∧ g.hs ≠ [] then closeF salt g
  else if way < 8 ∧ near ≠ [] then addF (.set ((near[(drw salt 1091 (near.length : Int)).toNat]?).getD "") (sumF salt near) .nil) g
  else addF (.say (sumF salt near) .nil) g
def foldF (more : List Str) : Nat → List Int → Gs → Gs
  | _, [], g => g
  | k, c :: cs, g => foldF more (k + 1) cs (stepF more k c g)
def closes : Nat → Gs → Gs
  | 0, g => g
  | n + 1, g => closes n (closeF 1 g)
def grownF (cells : List Int) (names more : List Str) : Bk :=
  match (closes 400 (foldF more 0 cells ⟨[.nil], [], names⟩)).bs with
  | b :: _ => b
  | [] => .nil
theorem closeF_nil (salt : Int) (g : Gs) (h : g.hs = []) : closeF salt g = g := by
  unfold closeF
  rw [h]
theorem closes_nil : ∀ (n : Nat) (g : Gs), g.hs = [] → closes n g = g
  | 0, _, _ => rfl
  | n + 1, g, h => by
    show closes n (closeF 1 g) = g
    rw [closeF_nil 1 g h, closes_nil n g h]
/-- how often it is closed until it is whole -/
def Hd.wt : Hd → Nat
  | .when _ => 2
  | _ => 1
def Gs.wt (g : Gs) : Nat := (g.hs.map Hd.wt).sum
def Hd.n : Hd → Nat
  | .els _ b => b.n
  | _ => 0
def Gs.n (g : Gs) : Nat := (g.bs.map Bk.n).sum + (g.hs.map Hd.n).sum
def Hd.w : Hd → Nat
  | .wit _ _ => 1
  | _ => 0
def Gs.w (g : Gs) : Nat := (g.hs.map Hd.w).sum
/-- the shape and size of it -/
structure Gs.Ok (g : Gs) (k : Nat) : Prop where
  len : g.bs.length = g.hs.length + 1
  wt : g.wt ≤ 2 * k
  n : g.n + 2 * g.wt ≤ 4 * k
  sc : g.sc.length ≤ 9 + k
  wl : g.w ≤ g.sc.length
theorem endF_n (salt : Int) (t : Ts) : (endF salt t).n ≤ 1 := by
  unfold endF
  split
  · split
    · exact Nat.le_refl _
    · exact Nat.zero_le _
  · exact Nat.zero_le _
theorem closeF_ok {salt : Int} {g : Gs} {k : Nat} (h : g.Ok k) (hh : g.hs ≠ []) : (closeF salt g).Ok k ∧ (closeF salt g).wt + 1 = g.wt := by
  obtain ⟨bs, hs, sc⟩ := g
  obtain ⟨len, wt, n, hsc, hwl⟩ := h
  simp only [Gs.wt, Gs.n, Gs.w] at len wt n hsc hwl ⊢
  match hs, bs, hh, len with
  | .when t :: hs, b :: bs, _, len =>
    simp only [closeF, List.map_cons, List.sum_cons, Hd.wt, Hd.n, Hd.w, Bk.n, List.length_cons] at len wt n hwl ⊢
    exact ⟨⟨by simp only [List.length_cons]; omega, by simp only [Gs.wt, List.map_cons, List.sum_cons, Hd.wt]; omega, by simp only [Gs.wt, Gs.n, List.map_cons, List.sum_cons, Hd.wt, Hd.n, Bk.n]; omega, hsc, by simp only [Gs.w, List.map_cons, List.sum_cons, Hd.w]; omega⟩, by omega⟩
  | .els t b0 :: hs, b :: b1 :: bs, _, len =>
    simp only [closeF, List.map_cons, List.sum_cons, Hd.wt, Hd.n, Hd.w, List.length_cons] at len wt n hwl ⊢
    have e := Bk.n_app b1 (.when t b0 b .nil)
    simp only [Bk.n] at e
    exact ⟨⟨by simp only [List.length_cons]; omega, by simp only [Gs.wt]; omega, by simp only [Gs.wt, Gs.n, List.map_cons, List.sum_cons]; omega, hsc, by simp only [Gs.w]; omega⟩, by omega⟩
  | .whil t :: hs, b :: b1 :: bs, _, len =>
    simp only [closeF, List.map_cons, List.sum_cons, Hd.wt, Hd.n, Hd.w, List.length_cons] at len wt n hwl ⊢
    have e := Bk.n_app b1 (.whil t (b.app (endF salt t)) .nil)
    have e2 := Bk.n_app b (endF salt t)
    have e3 := endF_n salt t
    simp only [Bk.n] at e
    exact ⟨⟨by simp only [List.length_cons]; omega, by simp only [Gs.wt]; omega, by simp only [Gs.wt, Gs.n, List.map_cons, List.sum_cons]; omega, hsc, by simp only [Gs.w]; omega⟩, by omega⟩
  | .wit x a :: hs, b :: b1 :: bs, _, len =>
    simp only [closeF, List.map_cons, List.sum_cons, Hd.wt, Hd.n, Hd.w, List.length_cons] at len wt n hwl ⊢
    have e := Bk.n_app b1 (.wit x a b .nil)
    simp only [Bk.n] at e
    exact ⟨⟨by simp only [List.length_cons]; omega, by simp only [Gs.wt]; omega, by simp only [Gs.wt, Gs.n, List.map_cons, List.sum_cons]; omega, by simp only [List.length_dropLast]; omega, by simp only [Gs.w, List.length_dropLast]; omega⟩, by omega⟩
  | .els _ _ :: _, [_], _, len => simp at len
  | .whil _ :: _, [_], _, len => simp at len
  | .wit _ _ :: _, [_], _, len => simp at len
  | _ :: _, [], _, len => simp at len
theorem headF_wt (way salt : Int) (sc : List Str) : (headF way salt sc).wt ≤ 2 ∧ (headF way salt sc).n = 0 ∧ 1 ≤ (headF way salt sc).wt := by
  unfold headF
  split
  · exact ⟨by simp [Hd.wt], rfl, by simp [Hd.wt]⟩
  · split
    · exact ⟨by simp [Hd.wt], rfl, by simp [Hd.wt]⟩
    · exact ⟨by simp [Hd.wt], rfl, by simp [Hd.wt]⟩
theorem headF_w (way salt : Int) (sc : List Str) (h0 : 0 ≤ way) (h3 : way < 3) : (headF way salt sc).w = (if way = 2 then 1 else 0) := by
  unfold headF
  by_cases e : way = 0
  · rw [if_pos e, if_neg (by omega)]; rfl
  · rw [if_neg e]
    by_cases e1 : way = 1
    · rw [if_pos e1, if_neg (by omega)]; rfl
    · rw [if_neg e1, if_pos (by omega)]; rfl
theorem addF_ok {o : Bk} {g : Gs} {k : Nat} (h : g.Ok k) (ho : o.n ≤ 1) : (addF o g).Ok (k + 1) := by
  obtain ⟨bs, hs, sc⟩ := g
  obtain ⟨len, wt, n, hsc, hwl⟩ := h
  simp only [Gs.wt, Gs.n, Gs.w] at len wt n hsc hwl
  match bs, len with
  | b :: bs, len =>
    have e := Bk.n_app b o
    simp only [List.map_cons, List.sum_cons, List.length_cons] at len n
    exact ⟨by simp only [addF, List.length_cons]; omega, by simp only [addF, Gs.wt]; omega, by simp only [addF, Gs.wt, Gs.n, List.map_cons, List.sum_cons]; omega, by simp only [addF]; omega, by simp only [addF, Gs.w]; omega⟩
theorem Gs.Ok.up {g : Gs} {k : Nat} (h : g.Ok k) : g.Ok (k + 1) := ⟨h.len, by have := h.wt; omega, by have := h.n; omega, by have := h.sc; omega, h.wl⟩
theorem stepF_ok {more : List Str} {k : Nat} {cell : Int} {g : Gs} (h : g.Ok k) : (stepF more k cell g).Ok (k + 1) := by
  unfold stepF
  dsimp only
  split
  · rename_i hlt
    have hw := headF_wt (cell % 9) (cell + 7919 * k) (g.sc ++ more)
    have hw2 := headF_w (cell % 9) (cell + 7919 * k) (g.sc ++ more) (by omega) (by omega)
    obtain ⟨len, wt, n, hsc, hwl⟩ := h
    simp only [Gs.wt, Gs.n, Gs.w] at len wt n hsc hwl
    have hl2 : (if cell % 9 = 2 then g.sc ++ [jarF (cell + 7919 * k) (g.sc ++ more)] else g.sc).length = g.sc.length + (if cell % 9 = 2 then 1 else 0) := by
      split
      · rw [List.length_append]; rfl
      · rfl
    have hl3 : (if cell % 9 = 2 then 1 else 0 : Nat) ≤ 1 := by split <;> decide
    refine ⟨by simp only [List.length_cons]; omega, by simp only [Gs.wt, List.map_cons, List.sum_cons]; omega, by simp only [Gs.wt, Gs.n, List.map_cons, List.sum_cons, Bk.n]; omega, ?_, ?_⟩
    · show (if cell % 9 = 2 then g.sc ++ [jarF (cell + 7919 * k) (g.sc ++ more)] else g.sc).length ≤ _
      omega
    · show ((headF (cell % 9) (cell + 7919 * k) (g.sc ++ more) :: g.hs).map Hd.w).sum ≤ (if cell % 9 = 2 then g.sc ++ [jarF (cell + 7919 * k) (g.sc ++ more)] else g.sc).length
      rw [List.map_cons, List.sum_cons]
      omega
  · split
    · rename_i hh
      exact (closeF_ok h hh.2).1.up
    · split
      · exact addF_ok h (Nat.le_refl _)
      · exact addF_ok h (Nat.le_refl _)
theorem foldF_ok {more : List Str} : ∀ (cs : List Int) {k : Nat} {g : Gs}, g.Ok k → (foldF more k cs g).Ok (k + cs.length)
  | [], _, _, h => h
  | c :: cs, k, g, h => by
    have := foldF_ok (more := more) cs (stepF_ok (more := more) (cell := c) h)
    rw [List.length_cons, show k + (cs.length + 1) = k + 1 + cs.length by omega]
    exact this
end J
namespace J
open PySem L2
theorem atI_str {sc : List Str} {i : Int} (h0 : 0 ≤ i) (h1 : i < (sc.length : Int)) : atI (sc.map V.str) i = some (.str ((sc[i.toNat]?).getD "")) := by
  obtain ⟨j, rfl⟩ := Int.eq_ofNat_of_zero_le h0
  have hlt : j < sc.length := by omega
  have e : ((j : Int)).toNat = j := rfl
  rw [e, List.getElem?_eq_getElem hlt]
  exact atI_nat (by rw [List.getElem?_map, List.getElem?_eq_getElem hlt]; rfl)
end J
namespace J
open PySem L2
theorem cut_take (sc : List Str) (n : Nat) : cutV (sc.map V.str) none (some (n : Int)) = (sc.take n).map V.str := by
  have e : HT.sIx (sc.map V.str).length (sc.map V.str).length (some (n : Int)) = min n sc.length := by
    unfold HT.sIx
    simp
    omega
  unfold cutV
  rw [e]
  have e0 : HT.sIx (sc.map V.str).length 0 none = 0 := rfl
  rw [e0]
  simp
end J

set_option Elab.async false
set_option linter.all false
set_option maxRecDepth 100000
set_option maxHeartbeats 4000000
namespace J
open PySem L2
/-! ### what is begun, as it lies on the heap -/
inductive IsHd (H : Hp) (M : Addr → Prop) : V → Hd → Prop where
  | whil {a : Addr} {u : V} {t : Ts} : H a = some (.tup [.str "while", u]) → IsTest H u t → IsHd H M (.ref a) (.whil t)
  | when {a : Addr} {u : V} {t : Ts} : H a = some (.tup [.str "when", u]) → IsTest H u t → IsHd H M (.ref a) (.when t)
  | els {a p : Addr} {u : V} {t : Ts} {vs : List V} {b : Bk} : H a = some (.tup [.str "else", u, .ref p]) → IsTest H u t → ¬ M p → H p = some (.lst vs) → IsBk H M vs b → IsHd H M (.ref a) (.els t b)
  | wit {a : Addr} {x : Str} {u : V} {s : Sm Str} : H a = some (.tup [.str "with", .str x, u]) → IsSum H u s → IsHd H M (.ref a) (.wit x s)
theorem IsHd.mono {H H' : Hp} {M M' : Addr → Prop} (B : Out M H H') (L : TupLe H H') (W : ∀ a, H a ≠ none → M' a → M a) {v : V} {h : Hd} (g : IsHd H M v h) : IsHd H' M' v h := by
  cases g with
  | whil e t => exact .whil (L _ _ e) (t.mono L)
  | when e t => exact .when (L _ _ e) (t.mono L)
  | els e t n1 e1 h1 => exact .els (L _ _ e) (t.mono L) (fun z => n1 (W _ (by rw [e1]; exact fun z => nomatch z) z)) (B _ _ n1 e1) (h1.mono B L W)
  | wit e t => exact .wit (L _ _ e) (t.mono L)
/-- a block that is begun -/
def OB (H0 : Hp) (lb lh ls : Addr) (H : Hp) (M : Addr → Prop) (v : V) (b : Bk) : Prop := ∃ p vs, v = .ref p ∧ p ≠ lb ∧ p ≠ lh ∧ p ≠ ls ∧ H0 p = none ∧ H p = some (.lst vs) ∧ IsBk H M vs b
theorem OB.mono {H0 : Hp} {lb lh ls : Addr} {H H' : Hp} {M M' : Addr → Prop} (B : Out M H H') (L : TupLe H H') (W : ∀ a, H a ≠ none → M' a → M a) {v : V} {b : Bk} (hv : ∀ p vs, v = .ref p → p ≠ lb → p ≠ lh → p ≠ ls → H p = some (.lst vs) → H' p = some (.lst vs)) (h : OB H0 lb lh ls H M v b) : OB H0 lb lh ls H' M' v b := by
  obtain ⟨p, vs, rfl, n1, n2, n3, h0, e, hb⟩ := h
  exact ⟨p, vs, rfl, n1, n2, n3, h0, hv p vs rfl n1 n2 n3 e, hb.mono B L W⟩
def GM (lb lh ls : Addr) (vbs : List V) (X : Addr → Prop) : Addr → Prop := fun a => a = lb ∨ a = lh ∨ a = ls ∨ .ref a ∈ vbs ∨ X a
structure GRel (H0 H : Hp) (lb lh ls : Addr) (X : Addr → Prop) (g : Gs) (vbs vhs : List V) : Prop where
  S : Same H0 H
  nb : H0 lb = none
  nh : H0 lh = none
  ns : H0 ls = none
  ne1 : lb ≠ lh
  ne2 : lb ≠ ls
  ne3 : lh ≠ ls
  eb : H lb = some (.lst vbs)
  eh : H lh = some (.lst vhs)
  es : H ls = some (.lst (g.sc.map V.str))
  nd : vbs.Nodup
  bs : Paired (OB H0 lb lh ls H (GM lb lh ls vbs X)) vbs.reverse g.bs
  hs : Paired (IsHd H (GM lb lh ls vbs X)) vhs.reverse g.hs
theorem tup_upd {H : Hp} {l : Addr} {ys : List V} (h : H l = some (.lst ys)) (o : HO) : TupLe H (upd H l o) := (but_upd (l := l) o).tup h
theorem GRel.grow {H0 H H' : Hp} {lb lh ls : Addr} {X : Addr → Prop} {g : Gs} {vbs vhs : List V} (S : Same H H') (h : GRel H0 H lb lh ls X g vbs vhs) : GRel H0 H' lb lh ls X g vbs vhs where
  S := h.S.trans S
  nb := h.nb
  nh := h.nh
  ns := h.ns
  ne1 := h.ne1
  ne2 := h.ne2
  ne3 := h.ne3
  eb := S _ _ h.eb
  eh := S _ _ h.eh
  es := S _ _ h.es
  nd := h.nd
  bs := Paired.mapP h.bs fun v b z => z.mono (.of S) S.tup (fun _ _ z => z) fun p vs _ _ _ _ e => S _ _ e
  hs := Paired.mapP h.hs fun v b z => z.mono (.of S) S.tup fun _ _ z => z
/-- one more is begun -/
theorem GRel.push {H0 H : Hp} {lb lh ls : Addr} {X : Addr → Prop} {g : Gs} {vbs vhs : List V} (h : GRel H0 H lb lh ls X g vbs vhs) {u : V} {hd : Hd} (hu : IsHd H (GM lb lh ls vbs X) u hd) {p : Addr} (hp : upd H lh (.lst (vhs ++ [u])) p = none) :
    GRel H0 (upd (upd (upd H lh (.lst (vhs ++ [u]))) p (.lst [])) lb (.lst (vbs ++ [.ref p]))) lb lh ls X ⟨.nil :: g.bs, hd :: g.hs, g.sc⟩ (vbs ++ [.ref p]) (vhs ++ [u]) := by
  have hpH : H p = none := by
    by_cases e : p = lh
    · subst e; rw [upd_same] at hp; cases hp
    · rwa [upd_ne e] at hp
  have pb : p ≠ lb := fun e => by rw [e, h.eb] at hpH; cases hpH
  have ph : p ≠ lh := fun e => by rw [e, h.eh] at hpH; cases hpH
  have psn : p ≠ ls := fun e => by rw [e, h.es] at hpH; cases hpH
  have p0 : H0 p = none := by
    cases e : H0 p with
    | none => rfl
    | some o => rw [h.S _ _ e] at hpH; cases hpH
  have hM : ∀ a, H a ≠ none → GM lb lh ls (vbs ++ [.ref p]) X a → GM lb lh ls vbs X a := fun a ha z => by
    rcases z with z | z | z | z | z
    · exact .inl z
    · exact .inr (.inl z)
    · exact .inr (.inr (.inl z))
    · rcases List.mem_append.mp z with z | z
      · exact .inr (.inr (.inr (.inl z)))
      · have := List.mem_singleton.mp z
        injection this with this
        rw [this] at ha
        exact absurd hpH ha
    · exact .inr (.inr (.inr (.inr z)))
  have keep : ∀ a, a ≠ lb → a ≠ lh → ∀ o, H a = some o → upd (upd (upd H lh (.lst (vhs ++ [u]))) p (.lst [])) lb (.lst (vbs ++ [.ref p])) a = some o := fun a n1 n2 o e => by
    rw [upd_ne n1, upd_ne (fun z => by rw [z, hpH] at e; cases e), upd_ne n2]; exact e
  have B : Out (GM lb lh ls vbs X) H (upd (upd (upd H lh (.lst (vhs ++ [u]))) p (.lst [])) lb (.lst (vbs ++ [.ref p]))) := fun a o n e => keep a (fun z => n (.inl z)) (fun z => n (.inr (.inl z))) o e
  have L : TupLe H (upd (upd (upd H lh (.lst (vhs ++ [u]))) p (.lst [])) lb (.lst (vbs ++ [.ref p]))) := fun a xs e => keep a (fun z => by rw [z, h.eb] at e; cases e) (fun z => by rw [z, h.eh] at e; cases e) _ e
  refine ⟨fun a o e => ?_, h.nb, h.nh, h.ns, h.ne1, h.ne2, h.ne3, upd_same, ?_, ?_, ?_, ?_, ?_⟩
  · exact keep a (fun z => by rw [z, h.nb] at e; cases e) (fun z => by rw [z, h.nh] at e; cases e) _ (h.S _ _ e)
  · rw [upd_ne h.ne1.symm, upd_ne ph.symm, upd_same]
  · exact keep ls h.ne2.symm h.ne3.symm _ h.es
  · refine List.nodup_append.mpr ⟨h.nd, by simp, fun a ha b hb e => ?_⟩
    have := List.mem_singleton.mp hb
    subst this
    subst e
    obtain ⟨i, hi⟩ := List.getElem?_of_mem (List.mem_reverse.mpr ha)
    obtain ⟨b, _, p', vs, e1, _, _, _, _, e2, _⟩ := pget h.bs hi
    injection e1 with e1
    rw [← e1, hpH] at e2
    cases e2
  · rw [List.reverse_append]
    refine .cons ⟨p, [], rfl, pb, ph, psn, p0, by rw [upd_ne pb, upd_same], .nil⟩ (Paired.mapP h.bs fun v b z => z.mono B L hM fun q vs _ n1 n2 _ e => keep q n1 n2 _ e)
  · rw [List.reverse_append]
    exact .cons (hu.mono B L hM) (Paired.mapP h.hs fun v b z => z.mono B L hM)
theorem GRel.scope {H0 H : Hp} {lb lh ls : Addr} {X : Addr → Prop} {g : Gs} {vbs vhs : List V} (h : GRel H0 H lb lh ls X g vbs vhs) (sc : List Str) : GRel H0 (upd H ls (.lst (sc.map V.str))) lb lh ls X ⟨g.bs, g.hs, sc⟩ vbs vhs := by
  have B : Out (GM lb lh ls vbs X) H (upd H ls (.lst (sc.map V.str))) := out_upd (.inr (.inr (.inl rfl))) _
  have L := tup_upd h.es (.lst (sc.map V.str))
  refine ⟨Same.at h.S h.ns _, h.nb, h.nh, h.ns, h.ne1, h.ne2, h.ne3, by rw [upd_ne h.ne2]; exact h.eb, by rw [upd_ne h.ne3]; exact h.eh, upd_same, h.nd, ?_, ?_⟩
  · exact Paired.mapP h.bs fun v b z => z.mono B L (fun _ _ z => z) fun q vs _ _ _ n3 e => by rw [upd_ne n3]; exact e
  · exact Paired.mapP h.hs fun v b z => z.mono B L fun _ _ z => z
theorem prev {α β : Type} {F : α → β → Prop} {vs : List α} {b : β} {bs : List β} (h : Paired F vs.reverse (b :: bs)) : ∃ vs' v, vs = vs' ++ [v] ∧ F v b ∧ Paired F vs'.reverse bs := by
  cases e : vs.reverse with
  | nil => rw [e] at h; cases h
  | cons v w =>
    rw [e] at h
    cases h with
    | cons h1 h2 =>
      refine ⟨w.reverse, v, ?_, h1, ?_⟩
      · have := congrArg List.reverse e
        rw [List.reverse_reverse, List.reverse_cons] at this
        exact this
      · rw [List.reverse_reverse]; exact h2
/-- the innermost block gets more orders -/
theorem GRel.add {H0 H : Hp} {lb lh ls : Addr} {X : Addr → Prop} {b : Bk} {bs : List Bk} {hs : List Hd} {sc : List Str} {vbs vhs : List V} (h : GRel H0 H lb lh ls X ⟨b :: bs, hs, sc⟩ vbs vhs) {ws : List V} {o : Bk} (ho : IsBk H (GM lb lh ls vbs X) ws o) :
    ∃ vbs' p vs, vbs = vbs' ++ [.ref p] ∧ H p = some (.lst vs) ∧ vs.length ≤ b.n ∧ GRel H0 (upd H p (.lst (vs ++ ws))) lb lh ls X ⟨b.app o :: bs, hs, sc⟩ vbs vhs := by
  obtain ⟨vbs', v, rfl, hv, hr⟩ := prev h.bs
  obtain ⟨p, vs, rfl, n1, n2, n3, h0, e, hb⟩ := hv
  have hMp : GM lb lh ls (vbs' ++ [.ref p]) X p := .inr (.inr (.inr (.inl (by simp))))
  have B : Out (GM lb lh ls (vbs' ++ [.ref p]) X) H (upd H p (.lst (vs ++ ws))) := out_upd hMp _
  have L := tup_upd e (.lst (vs ++ ws))
  have nd := List.nodup_append.mp h.nd
  refine ⟨vbs', p, vs, rfl, e, hb.len, Same.at h.S h0 _, h.nb, h.nh, h.ns, h.ne1, h.ne2, h.ne3, by rw [upd_ne n1.symm]; exact h.eb, by rw [upd_ne n2.symm]; exact h.eh, by rw [upd_ne n3.symm]; exact h.es, h.nd, ?_, ?_⟩
  · rw [List.reverse_append]
    refine .cons ⟨p, vs ++ ws, rfl, n1, n2, n3, h0, upd_same, (hb.app ho).mono B L fun _ _ z => z⟩ ?_
    have hr' : Paired (fun v b => OB H0 lb lh ls H (GM lb lh ls (vbs' ++ [.ref p]) X) v b ∧ v ∈ vbs') vbs'.reverse bs := by
      have : ∀ {xs : List V} {ys : List Bk}, Paired (OB H0 lb lh ls H (GM lb lh ls (vbs' ++ [.ref p]) X)) xs ys → (∀ x ∈ xs, x ∈ vbs') → Paired (fun v b => OB H0 lb lh ls H (GM lb lh ls (vbs' ++ [.ref p]) X) v b ∧ v ∈ vbs') xs ys := by
        intro xs ys hh
        induction hh with
        | nil => exact fun _ => .nil
        | cons a _ ih => exact fun hm => .cons ⟨a, hm _ (by simp)⟩ (ih fun x hx => hm x (by simp [hx]))
      exact this hr fun x hx => List.mem_reverse.mp hx
    refine Paired.mapP hr' fun v b z => z.1.mono B L (fun _ _ z => z) fun q vs' eq _ _ _ e' => ?_
    have : q ≠ p := fun z' => by
      subst z'
      exact nd.2.2 v z.2 (.ref q) (by simp) eq
    rw [upd_ne this]; exact e'
  · exact Paired.mapP h.hs fun v b z => z.mono B L fun _ _ z => z
/-- the innermost one is taken off -/
theorem GRel.pop {H0 H : Hp} {lb lh ls : Addr} {b : Bk} {bs : List Bk} {hd : Hd} {hs : List Hd} {sc : List Str} {vbs vhs : List V} (h : GRel H0 H lb lh ls noM ⟨b :: bs, hd :: hs, sc⟩ vbs vhs) :
    ∃ vbs' p vs vhs' u, vbs = vbs' ++ [.ref p] ∧ vhs = vhs' ++ [u] ∧ GRel H0 (upd (upd H lh (.lst vhs')) lb (.lst vbs')) lb lh ls (fun a => a = p) ⟨bs, hs, sc⟩ vbs' vhs' ∧ IsHd (upd (upd H lh (.lst vhs')) lb (.lst vbs')) (GM lb lh ls vbs' fun a => a = p) u hd ∧
      upd (upd H lh (.lst vhs')) lb (.lst vbs') p = some (.lst vs) ∧ IsBk (upd (upd H lh (.lst vhs')) lb (.lst vbs')) (GM lb lh ls vbs' fun a => a = p) vs b ∧ p ≠ lb ∧ p ≠ lh ∧ p ≠ ls ∧ H0 p = none ∧ V.ref p ∉ vbs' := by
  obtain ⟨vbs', v, rfl, hv, hr⟩ := prev h.bs
  obtain ⟨vhs', u, rfl, hu, hr2⟩ := prev h.hs
  obtain ⟨p, vs, rfl, n1, n2, n3, h0, e, hb⟩ := hv
  have nd := List.nodup_append.mp h.nd
  have hM : ∀ a, GM lb lh ls vbs' (fun a => a = p) a → GM lb lh ls (vbs' ++ [.ref p]) noM a := fun a z => by
    rcases z with z | z | z | z | z
    · exact .inl z
    · exact .inr (.inl z)
    · exact .inr (.inr (.inl z))
    · exact .inr (.inr (.inr (.inl (List.mem_append_left _ z))))
    · exact .inr (.inr (.inr (.inl (by rw [z]; simp))))
  have keep : ∀ a, a ≠ lb → a ≠ lh → ∀ o, H a = some o → upd (upd H lh (.lst vhs')) lb (.lst vbs') a = some o := fun a m1 m2 o e => by rw [upd_ne m1, upd_ne m2]; exact e
  have B : Out (GM lb lh ls (vbs' ++ [.ref p]) noM) H (upd (upd H lh (.lst vhs')) lb (.lst vbs')) := fun a o n e => keep a (fun z => n (.inl z)) (fun z => n (.inr (.inl z))) o e
  have L : TupLe H (upd (upd H lh (.lst vhs')) lb (.lst vbs')) := fun a xs e => keep a (fun z => by rw [z, h.eb] at e; cases e) (fun z => by rw [z, h.eh] at e; cases e) _ e
  refine ⟨vbs', p, vs, vhs', u, rfl, rfl, ⟨fun a o e => ?_, h.nb, h.nh, h.ns, h.ne1, h.ne2, h.ne3, upd_same, by rw [upd_ne h.ne1.symm, upd_same], keep ls h.ne2.symm h.ne3.symm _ h.es, nd.1, ?_, ?_⟩, hu.mono B L fun a _ z => hM a z, keep p n1 n2 _ e, hb.mono B L fun a _ z => hM a z, n1, n2, n3, h0, fun z => nd.2.2 _ z _ (by simp) rfl⟩
  · exact keep a (fun z => by rw [z, h.nb] at e; cases e) (fun z => by rw [z, h.nh] at e; cases e) _ (h.S _ _ e)
  · exact Paired.mapP hr fun v b z => z.mono B L (fun a _ z => hM a z) fun q vs _ m1 m2 _ e => keep q m1 m2 _ e
  · exact Paired.mapP hr2 fun v b z => z.mono B L fun a _ z => hM a z
/-- what was taken off may not change any more -/
theorem gm_less {lb lh ls : Addr} {vbs : List V} {X : Addr → Prop} (a : Addr) (z : GM lb lh ls vbs noM a) : GM lb lh ls vbs X a := by
  rcases z with z | z | z | z | z
  · exact .inl z
  · exact .inr (.inl z)
  · exact .inr (.inr (.inl z))
  · exact .inr (.inr (.inr (.inl z)))
  · exact z.elim
theorem GRel.close {H0 H : Hp} {lb lh ls : Addr} {X : Addr → Prop} {g : Gs} {vbs vhs : List V} (h : GRel H0 H lb lh ls X g vbs vhs) : GRel H0 H lb lh ls noM g vbs vhs where
  S := h.S
  nb := h.nb
  nh := h.nh
  ns := h.ns
  ne1 := h.ne1
  ne2 := h.ne2
  ne3 := h.ne3
  eb := h.eb
  eh := h.eh
  es := h.es
  nd := h.nd
  bs := Paired.mapP h.bs fun v b z => z.mono (fun _ _ _ e => e) (fun _ _ e => e) (fun a _ z => gm_less a z) fun p vs _ _ _ _ e => e
  hs := Paired.mapP h.hs fun v b z => z.mono (fun _ _ _ e => e) (fun _ _ e => e) fun a _ z => gm_less a z
/-- an order more in the block that was taken off -/
theorem GRel.more {H0 H : Hp} {lb lh ls p : Addr} {g : Gs} {vbs vhs vs : List V} {b : Bk} (h : GRel H0 H lb lh ls (fun a => a = p) g vbs vhs) (n1 : p ≠ lb) (n2 : p ≠ lh) (n3 : p ≠ ls) (h0 : H0 p = none) (hn : V.ref p ∉ vbs) (e : H p = some (.lst vs)) (hb : IsBk H (GM lb lh ls vbs fun a => a = p) vs b)
    {ws : List V} {o : Bk} (ho : IsBk H (GM lb lh ls vbs fun a => a = p) ws o) :
    GRel H0 (upd H p (.lst (vs ++ ws))) lb lh ls (fun a => a = p) g vbs vhs ∧ IsBk (upd H p (.lst (vs ++ ws))) (GM lb lh ls vbs fun a => a = p) (vs ++ ws) (b.app o) ∧ Out (GM lb lh ls vbs fun a => a = p) H (upd H p (.lst (vs ++ ws))) := by
  have B : Out (GM lb lh ls vbs fun a => a = p) H (upd H p (.lst (vs ++ ws))) := out_upd (.inr (.inr (.inr (.inr rfl)))) _
  have L := tup_upd e (.lst (vs ++ ws))
  refine ⟨⟨Same.at h.S h0 _, h.nb, h.nh, h.ns, h.ne1, h.ne2, h.ne3, by rw [upd_ne n1.symm]; exact h.eb, by rw [upd_ne n2.symm]; exact h.eh, by rw [upd_ne n3.symm]; exact h.es, h.nd, ?_, ?_⟩, (hb.app ho).mono B L fun _ _ z => z, B⟩
  · have hm : ∀ {xs : List V} {ys : List Bk}, Paired (OB H0 lb lh ls H (GM lb lh ls vbs fun a => a = p)) xs ys → (∀ x ∈ xs, x ∈ vbs) → Paired (OB H0 lb lh ls (upd H p (.lst (vs ++ ws))) (GM lb lh ls vbs fun a => a = p)) xs ys := by
      intro xs ys hh
      induction hh with
      | nil => exact fun _ => .nil
      | cons a _ ih =>
        intro hm
        refine .cons (a.mono B L (fun _ _ z => z) fun q vs' eq _ _ _ e' => ?_) (ih fun x hx => hm x (by simp [hx]))
        have : q ≠ p := fun z' => by
          subst z'
          exact hn (eq ▸ hm _ (by simp))
        rw [upd_ne this]; exact e'
    exact hm h.bs fun x hx => List.mem_reverse.mp hx
  · exact Paired.mapP h.hs fun v b z => z.mono B L fun _ _ z => z
end J
namespace J
open PySem L2
theorem Bk.app_nil : ∀ b : Bk, b.app .nil = b
  | .nil => rfl
  | .set x a r => by show Bk.set x a (r.app .nil) = _; rw [Bk.app_nil r]
  | .say a r => by show Bk.say a (r.app .nil) = _; rw [Bk.app_nil r]
  | .when t b c r => by show Bk.when t b c (r.app .nil) = _; rw [Bk.app_nil r]
  | .whil t b r => by show Bk.whil t b (r.app .nil) = _; rw [Bk.app_nil r]
  | .wit x a b r => by show Bk.wit x a b (r.app .nil) = _; rw [Bk.app_nil r]
theorem GRel.top {H0 H : Hp} {lb lh ls : Addr} {X : Addr → Prop} {b : Bk} {bs : List Bk} {hs : List Hd} {sc : List Str} {vbs vhs : List V} (h : GRel H0 H lb lh ls X ⟨b :: bs, hs, sc⟩ vbs vhs) :
    ∃ vbs' p vs, vbs = vbs' ++ [.ref p] ∧ H p = some (.lst vs) ∧ vs.length ≤ b.n ∧ ∀ H', Same H H' → ∀ ws o, IsBk H' (GM lb lh ls vbs X) ws o → GRel H0 (upd H' p (.lst (vs ++ ws))) lb lh ls X ⟨b.app o :: bs, hs, sc⟩ vbs vhs := by
  obtain ⟨vbs', v, e0, hv, hr⟩ := prev h.bs
  obtain ⟨p, vs, rfl, n1, n2, n3, h0, e, hb⟩ := hv
  refine ⟨vbs', p, vs, e0, e, hb.len, fun H' S ws o ho => ?_⟩
  obtain ⟨vb2, p2, vs2, e2, e3, _, g⟩ := (h.grow S).add ho
  rw [e0] at e2
  have e4 := List.append_inj_right' e2 rfl
  have e5 : p = p2 := by
    have := (List.cons.inj e4).1
    injection this
  subst e5
  rw [S _ _ e] at e3
  have : vs = vs2 := by injection e3 with z; injection z
  subst this
  exact g
/-- a list that is no open one -/
theorem GRel.not_M {H0 H : Hp} {lb lh ls p : Addr} {vbs : List V} (n1 : p ≠ lb) (n2 : p ≠ lh) (n3 : p ≠ ls) (hn : V.ref p ∉ vbs) : ¬ GM lb lh ls vbs noM p := fun z => by
  rcases z with z | z | z | z | z
  · exact n1 z
  · exact n2 z
  · exact n3 z
  · exact hn z
  · exact z
end J

set_option Elab.async false
set_option linter.all false
set_option maxRecDepth 100000
set_option maxHeartbeats 4000000
namespace L2
open PySem PySem.Spec PyProof.Rows
/-! ### list(reversed(xs)) -/
theorem lri_len :
    typeLookup (.type "list_reverseiterator") "__len__" = pure none := by
  rw [typeLookup_type, builtinLookup_eq_fast]
  kernel_rfl
theorem lri_hint : typeLookup (.type "list_reverseiterator")
    "__length_hint__" = pure (some (.builtin "list_reverseiterator.__length_hint__")) := by
  rw [typeLookup_type, builtinLookup_eq_fast]
  kernel_rfl
/-- where the walk from the end stands -/
def RevAt (it l : Addr) (xs : Array Value) : Nat → Shared → Prop := fun i z => i ≤ xs.size ∧ z.heap.IsRevIter it l ((xs.size : Int) - 1 - (i : Int)) ∧ z.heap.IsList l xs
theorem rev_walks {pr : Program} {wd : World} {Ar : Around} (hd : Ar.handled = none) (it l : Addr) (ne : l ≠ it) (xs : Array Value) :
    WalksS pr wd Ar it [it, l] [it] (fun a b => b = a) xs.size (fun i v => xs[xs.size - 1 - i]? = some v) (RevAt it l xs) := (Walks.listRev hd it l ne xs).toS
section
variable {pr : Program} {wd : World} {Ar : Around} {z : Shared} {R : Result → Shared → Prop} {it l : Addr} {xs : Array Value}
theorem ext_rev (hd : Ar.handled = none) (ne : l ≠ it) (D : Addr) (res : Value) (c : Nat) (st : RevAt it l xs 0 z) (nit : D ≠ it) (nl : D ≠ l)
    (hD : z.heap.get? D = some { cls := .type "list", data := .seq #[] c }) (hn : xs.size ≤ sizeLine)
    (hR : ∀ z' acc c', Moved (D :: [it]) (fun a b => b = a) z z' → z'.heap.get? D = some { cls := .type "list", dict := none, data := .seq acc c', slots := #[] } →
      ItemsOf (fun i v => xs[xs.size - 1 - i]? = some v) acc xs.size → R (.ok (.ret res)) z') :
    wpAny (model pr wd) Ar.in1 (Builtin.List.listExtendWith (.ref D) (.ref it) res)
      (fun fin z' => match fin with
        | .done f => R (.ok f) z'
        | .again k => k.quiet = true ∧ codeAny (model pr wd) Ar k R z')
      (fun e z' => R (.error e) z') z := by
  have W := rev_walks (pr := pr) (wd := wd) (Ar := Ar.in1) hd it l ne xs
  have hty : ∀ i z, RevAt it l xs i z → z.TypeIs (.ref it) "list_reverseiterator" := fun i z q => q.2.1.typeIs
  have hnf : D ∉ [it, l] := fun m => by
    rcases List.mem_cons.mp m with e | m
    · exact nit e
    · exact nl (List.mem_singleton.mp m)
  have e1 : Builtin.List.listSameRef (.ref D) (.ref it) = false := by
    simp [Builtin.List.listSameRef, nit]
  unfold Builtin.List.listExtendWith
  refine wpAny_bind (wpAny_typeOf (hty 0 _ st) ?_)
  rw [if_neg (by rw [e1]; decide)]
  refine wpAny_bind (W.self 0 _ _ _ st ?_)
  refine wpAny_bind (wpAny_holding ?_)
  unfold Builtin.List.listLengthHint
  refine wpAny_bind (wpAny_specialOf (hty 0 _ st) lri_len ?_)
  show wpAny _ Ar.in1
    (specialOf (Value.ref it) (Str.ofString "__length_hint__") >>= _) _ _ _
  refine wpAny_bind (wpAny_specialOf (hty 0 _ st) lri_hint ?_)
  generalize hid : ("list_reverseiterator.__length_hint__" : String) = idn
  wp_delta
  rw [show splitId idn = some ("list_reverseiterator", "__length_hint__") from by subst hid; decide +kernel]
  subst hid
  refine wpAny_bind (wpAny_isInstance (b := true)
    (hty 0 _ st) (by rw [isSubtype_type]; kernel_rfl) ?_)
  refine wpAny_pure ?_
  rw [if_neg (by decide)]
  exact wpAny_pure ⟨plainId_quiet F.plain_extend_loop _,
    codeAny_extend_loopS W hn _ hnf _ xs.size 0 _ _ _ rfl (Nat.zero_le _) st hD (ItemsOf.nil _) hR⟩
end
theorem items_rev {xs acc : Array Value} (h : ItemsOf (fun i v => xs[xs.size - 1 - i]? = some v) acc xs.size) : acc.toList = xs.toList.reverse := by
  obtain ⟨h1, h2⟩ := h
  refine List.ext_getElem? fun i => ?_
  by_cases hi : i < acc.size
  · have e : acc[i]? = some acc[i] := Array.getElem?_eq_getElem hi
    have := h2 i _ e
    rw [Array.getElem?_toList, e, ← this, List.getElem?_reverse (by simp; omega)]
    simp
  · rw [List.getElem?_eq_none (by simp; omega), List.getElem?_eq_none (by simp; omega)]
section
variable {X : Cx} {e : Expr} {te : TE} {p1 p2 pos1 pos2 : Pos}
end
theorem bt_reversed : bootBuiltins "reversed" = some (.type "reversed") := by decide +kernel
end L2

set_option Elab.async false
set_option linter.all false
set_option maxRecDepth 100000
set_option maxHeartbeats 4000000
namespace L2
open PySem PySem.Spec PyProof.Rows
/-! ### sep.join(xs) -/
theorem vals_strs : ∀ {ys : List Str} {its : List Value}, Vals (ys.map V.str) its → ∃ ps : List (Str × Tok), strValues ps = its ∧ ps.map (·.1) = ys
  | [], _, .nil => ⟨[], rfl, rfl⟩
  | y :: ys, _, .cons ⟨t, e⟩ r => by
    obtain ⟨ps, e1, e2⟩ := vals_strs r
    refine ⟨(y, t) :: ps, ?_, ?_⟩
    · rw [e, ← e1]; rfl
    · rw [List.map_cons, e2]
section
variable {X : Cx}
def rJoin (K : PySem.W.Frag) : V → List V → Hp → VK → Prop := fun x vs H Q => ∃ z l ys, x = .str z ∧ vs = [.ref l] ∧ SqL K H l (List.map V.str ys) ∧ JoinOk z ys = true ∧ Q (.str (Txt.join z ys)) H
theorem mt_join : MtR X "str.join" (rJoin X.K) := by
  intro pins s σ H x vs v us Q I rx rv h
  obtain ⟨z, l, ys, rfl, rfl, hl, hok, q⟩ := h
  obtain ⟨t, rfl⟩ := rx
  obtain ⟨u, rfl, ru⟩ := rv.one
  cases ru
  obtain ⟨its, r, pl, hz⟩ := I.list hl
  obtain ⟨ps, e1, e2⟩ := vals_strs r
  subst e1
  exact SC.join pl.isList e2 hok fun t' k => ⟨.str _, H, I.tok k, ⟨t', rfl⟩, q⟩
end
/-! ### sep.join(reversed(xs)) -/
section
variable {pr : Program} {wd : World} {Ar : Around} {z : Shared} {E : Value → Shared → Prop} {it l : Addr} {xs : Array Value}
theorem collect_rev {Q : List Value → Shared → Prop} (hd : Ar.handled = none) (ne : l ≠ it) (st : RevAt it l xs 0 z) (hn : xs.size ≤ sizeLine)
    (hQ : ∀ z', Moved [it] (fun a b => b = a) z z' → Q xs.toList.reverse z') : wpAny (model pr wd) Ar (collect (.ref it)) Q E z := by
  have n1 : z.heap.objs.size ≠ it := fun e => by
    obtain ⟨o, ho, _⟩ := st.2.1
    have := Heap.lt_size ho
    rw [e] at this
    exact Nat.lt_irrefl _ this
  have n2 : z.heap.objs.size ≠ l := fun e => by
    obtain ⟨o, ho, _⟩ := st.2.2
    have := Heap.lt_size ho
    rw [e] at this
    exact Nat.lt_irrefl _ this
  unfold collect
  refine wpAny_bind (wpAny_runValue
    (codeAny_builtin F.entry_proto_collect ?_))
  rw [Around.under_plainId F.plain_proto_collect _]
  show wpAny _ Ar.in1 (newList [] >>= fun q =>
    again (.builtin "list.__iadd__" ⟨[q, .ref it], []⟩)) _ _ z
  refine wpAny_bind (wpAny_newObj_type ?_)
  refine wpAny_pure ⟨plainId_quiet F.plain_list_iadd _,
    codeAny_builtin F.entry_list_iadd ?_⟩
  rw [Around.under_plainId F.plain_list_iadd _]
  have st2 : RevAt it l xs 0 { z with heap := z.heap.push { cls := .type "list", data := .seq ([] : List Value).toArray } } :=
    ⟨st.1, st.2.1.at fun o e => Heap.get?_push_of_some _ e, st.2.2.at fun o e => Heap.get?_push_of_some _ e⟩
  have hD : (z.heap.push { cls := .type "list", data := .seq ([] : List Value).toArray }).get? z.heap.objs.size =
    some { cls := .type "list", data := .seq #[] } := Heap.get?_push_size _ rfl
  show wpAny _ Ar.in1 (Builtin.List.listExtendWith
    (.ref z.heap.objs.size) (.ref it) (.ref z.heap.objs.size)) _ _ _
  refine ext_rev (R := fun r s' => match r with
    | .ok (.ret v) => wpAny (model pr wd) Ar (match v with
        | .ref a => (do
          let o ← load a
          match o.data with
          | .seq ws _ => pure ws.toList
          | _ => unsupported "internal:collect")
        | _ => unsupported "internal:collect") Q E s'
    | .ok _ => False
    | .error e => E e s') hd ne _ _ _ st2 n1 n2 hD hn fun z' acc c' hm h1 h2 => ?_
  show wpAny _ Ar (load z.heap.objs.size >>= _) _ _ z'
  refine wpAny_bind (wpAny_load h1 ?_)
  have e := items_rev h2
  refine wpAny_pure ?_
  show Q acc.toList z'
  rw [e]
  exact hQ z' (Moved.drop_new (o := { cls := .type "list", data := .seq ([] : List Value).toArray }) (tk := z.toks) hm (Nat.le_refl _))
theorem join_rev {x : Str} {t : Tok} {ps : List (Str × Tok)} {Q : Value → Shared → Prop} (hd : Ar.handled = none) (ne : l ≠ it) (st : RevAt it l (strValues ps).toArray 0 z) (hn : ps.length ≤ sizeLine) (hok : JoinOk x (ps.map (·.1)).reverse = true)
    (hq : ∀ z', Moved [it] (fun a b => b = a) z z' → ∀ t' k, Q (.str (Txt.join x (ps.map (·.1)).reverse) t') { z' with toks := k }) :
    wpAny (model pr wd) Ar (call (.builtin "str.join") [.str x t, .ref it]) Q E z := by
  refine wpAny_call (codeAny_call_builtin F.slot_str_join.plain F.entry_str_join
    (F.slot_str_join.check _ _ _ _ _ _ _ _ (typeIs_str _ _ _) (F.args_str_join_2 _ _) ?_))
  rw [join_tree_other]
  refine wpAny_bind (wpAny_typeOf st.2.1.typeIs ?_)
  show wpAny _ Ar.in1 ((pyIter (.ref it)).tryCatch _ >>= fun q =>
    collect q >>= fun us => joinTail x us) _ _ z
  refine wpAny_bind (wpAny_tryCatch ((rev_walks (Ar := Ar.in1) hd it l ne _).self 0 z _ _ st ?_))
  refine wpAny_bind (collect_rev hd ne st (by simp [strValues]; omega) fun z' hm => ?_)
  have er : (strValues ps).toArray.toList.reverse = strValues ps.reverse := by
    simp [strValues]
  rw [er]
  have em : ps.reverse.map (·.1) = (ps.map (·.1)).reverse := by simp
  rw [← em] at hok hq
  generalize ps.reverse = qs at hok hq
  unfold JoinOk at hok
  rw [Bool.not_eq_true'] at hok
  have g : Gives (joinTail x (strValues qs)) (joinMade x qs) := by
    have g0 := gives_joinTail x qs hok
    cases qs with
    | nil => exact g0
    | cons b bs =>
      cases bs with
      | nil => exact g0
      | cons c cs => exact g0
  exact g pr wd Ar (wants Q E) z'
    (post_join qs ⟨joinFit_length hok, hq z' hm⟩)
end
section
variable {X : Cx} {e : Expr} {te : TE} {z : Str} {j : Nat} {p0 p2 pos2 apos cpos : Pos}
def tJoinRev (z : Str) (te : TE) : TE := fun σ H Q => te σ H fun x H1 => ∃ l ys, x = .ref l ∧ H1 l = some (.lst (List.map V.str ys)) ∧ JoinOk z ys.reverse = true ∧ Q (.str (Txt.join z ys.reverse)) H1
theorem pe_joinRev (hc : X.calm = true) (hg2 : Gl X "reversed") (hm2 : X.mg "reversed" = none) (hb2 : bootBuiltins "reversed" = some (.type "reversed")) (he : PE X e te)
    (hbase : attributeBase (.Constant (.str z) j p0) "join" X.env (eval (.Constant (.str z) j p0) X.env) = eval (.Constant (.str z) j p0) X.env := by rfl)
    (hfew : ((backTo cpos (starEach [Expr.Call (.Name "reversed" p2) [e] [] pos2] X.env)).all (fun x => !x.1) && (backToKw cpos (keywordEach [] X.env)).all (fun x => x.1.isSome)
      && decide ([Expr.Call (.Name "reversed" p2) [e] [] pos2].length + ([] : List Keyword).length + (if ([] : List Keyword).isEmpty then 0 else 1) < 30)) = true := by rfl)
    (hline : (apos.endLine == cpos.line) = true := by rfl)
    (hs1 : starEach [Expr.Call (.Name "reversed" p2) [e] [] pos2] X.env = (false, eval (Expr.Call (.Name "reversed" p2) [e] [] pos2) X.env) :: starEach [] X.env := by rfl) (hs2 : starEach [e] X.env = (false, eval e X.env) :: starEach [] X.env := by rfl) :
    PE X (.Call (.Attribute (.Constant (.str z) j p0) "join" apos) [.Call (.Name "reversed" p2) [e] [] pos2] [] cpos) (tJoinRev z te) := by
  intro pins s σ H Q I h
  refine wpAny_Call_method_late hbase hfew hline rfl (Calls.Constant_str ?_)
  refine ⟨"str", "str.join", F.plainAttrs_str, F.slot_str_join, F.type_str_join, typeIs_str _ _ _, (fun _ e => nomatch e), ?_⟩
  have I0 := I.tok (s.toks + 1)
  rw [hs1]
  refine Calls.callWith_builtin (by rfl) (Calls.evalArgs_plain ?_)
  refine Calls.spliced_cons ?_
  refine wpAny_Call_Name_kw (ld_blt I0 hg2 hm2 hb2 ?_ (by decide) (by decide))
  refine PyProof.Rows.callWith_type1 ?_ hs2 (by rfl)
  rw [hs2]
  show wpAny _ _ (spliced ((false, eval e X.env) :: backTo pos2 (starEach [] X.env))) _ _ _
  refine Calls.spliced_cons (thn (he pins _ σ H _ I0 h) fun u s1 ⟨x, H1, I1, r1, q1⟩ => ?_)
  refine Calls.spliced_nil ?_
  obtain ⟨l, ys, rfl, hl, hok, q⟩ := q1
  cases r1
  obtain ⟨hz, its, n, rv, hlen, ho⟩ := I1.lstM hl
  obtain ⟨ps, e1, e2⟩ := vals_strs rv
  subst e1
  have il : s1.heap.IsList l (strValues ps).toArray := ⟨_, ho, rfl, n, rfl⟩
  refine call_reversed_list il ?_
  refine Calls.spliced_nil ?_
  have llt : l < s1.heap.objs.size := Heap.lt_size ho
  have st : RevAt s1.heap.objs.size l (strValues ps).toArray 0 { s1 with heap := s1.heap.push (revObj l (((strValues ps).toArray.size : Int) - 1)) } :=
    ⟨Nat.zero_le _, ⟨_, Heap.get?_push_size _ rfl, rfl, by show Data.fields _ = Data.fields _; simp⟩, il.push _⟩
  have hpl : ps.length ≤ sizeLine := by
    have : ys.length = ps.length := by rw [← e2, List.length_map]
    rw [List.length_map] at hz
    omega
  refine join_rev (I1.ok.hd hc) (Nat.ne_of_lt llt) st hpl (by rw [e2]; exact hok) fun z' hmv t' k => ?_
  rw [e2]
  obtain ⟨hp, g, d, tk, os⟩ := z'
  have eg : g = s1.gens := hmv.gens
  have ed : d = s1.drawn := hmv.drawn
  have eo : os = s1.os := hmv.os
  subst eg ed eo
  have kp : ∀ b u, s1.heap.get? b = some u → hp.get? b = some u := fun b u e => by
    have lt := Heap.lt_size e
    refine hmv.heap b u (fun m => ?_) (Heap.get?_push_of_some _ e)
    rw [List.mem_singleton.mp m] at lt
    exact Nat.lt_irrefl _ lt
  exact ⟨.str _, H1, I1.kept (t' := k) kp, ⟨t', rfl⟩, q⟩
end
end L2

set_option Elab.async false
set_option linter.all false
set_option maxRecDepth 100000
set_option maxHeartbeats 4000000
namespace J
open PySem L2
/-! ### words and rows -/
def numT (i : Int) : Str := Str.ofString (toString i)
def Sm.words : Sm Str → List Str
  | .num i => [numT i]
  | .name x => [x]
  | .op o a b => o.w :: (a.words ++ b.words)
def Ts.words : Ts → List Str
  | .less a b => "less" :: (a.words ++ b.words)
  | .same a b => "same" :: (a.words ++ b.words)
  | .not t => "not" :: t.words
  | .both t u => "both" :: (t.words ++ u.words)
def Th.words : Th → List Str
  | .s x => x.words
  | .t x => x.words
def rowT (lead : Str) (ws : List Str) : Str := lead ++ Txt.join " " ws
def Bk.rows : Bk → Str → List Str
  | .nil, _ => []
  | .set x a r, l => rowT l ("set" :: x :: a.words) :: r.rows l
  | .say a r, l => rowT l ("say" :: a.words) :: r.rows l
  | .when t b c r, l => rowT l ("when" :: t.words) :: (b.rows (l ++ "  ") ++ ((l ++ "else") :: (c.rows (l ++ "  ") ++ ((l ++ "end") :: r.rows l))))
  | .whil t b r, l => rowT l ("while" :: t.words) :: (b.rows (l ++ "  ") ++ ((l ++ "end") :: r.rows l))
  | .wit x a b r, l => rowT l ("with" :: x :: a.words) :: (b.rows (l ++ "  ") ++ ((l ++ "end") :: r.rows l))
/-- depth of blocks -/
def Bk.dp : Bk → Nat
  | .nil => 1
  | .set _ _ r => r.dp
  | .say _ r => r.dp
  | .when _ b c r => max (max (b.dp + 1) (c.dp + 1)) r.dp
  | .whil _ b r => max (b.dp + 1) r.dp
  | .wit _ _ b r => max (b.dp + 1) r.dp
theorem Bk.dp_pos : ∀ b : Bk, 1 ≤ b.dp
  | .nil => Nat.le_refl _
  | .set _ _ r => r.dp_pos
  | .say _ r => r.dp_pos
  | .when _ b c r => by have := r.dp_pos; show 1 ≤ max (max (b.dp + 1) (c.dp + 1)) r.dp; omega
  | .whil _ b r => by have := r.dp_pos; show 1 ≤ max (b.dp + 1) r.dp; omega
  | .wit _ _ b r => by have := r.dp_pos; show 1 ≤ max (b.dp + 1) r.dp; omega
/-- how long words may be, and how many -/
def Fits (w n : Nat) (ws : List Str) : Prop := ws.length ≤ n ∧ ∀ x ∈ ws, x.length ≤ w
theorem Fits.app {w m n : Nat} {a b : List Str} (h : Fits w m a) (g : Fits w n b) : Fits w (m + n) (a ++ b) := by
  refine ⟨by rw [List.length_append]; have := h.1; have := g.1; omega, fun x hx => ?_⟩
  rcases List.mem_append.mp hx with z | z
  · exact h.2 x z
  · exact g.2 x z
theorem Fits.cons {w n : Nat} {x : Str} {a : List Str} (hx : x.length ≤ w) (h : Fits w n a) : Fits w (n + 1) (x :: a) := by
  refine ⟨by rw [List.length_cons]; have := h.1; omega, fun y hy => ?_⟩
  rcases List.mem_cons.mp hy with z | z
  · rw [z]; exact hx
  · exact h.2 y z
theorem Fits.sum {w n : Nat} : ∀ {ws : List Str}, Fits w n ws → (ws.map (·.length)).sum ≤ w * ws.length
  | [], _ => Nat.zero_le _
  | x :: ws, h => by
    have h1 := h.2 x (by simp)
    have h2 := Fits.sum (w := w) (n := ws.length) (ws := ws) ⟨Nat.le_refl _, fun y hy => h.2 y (by simp [hy])⟩
    rw [List.map_cons, List.sum_cons, List.length_cons, Nat.mul_add]
    omega
theorem Fits.join {w n : Nat} {ws : List Str} (h : Fits w n ws) (hb : w * n + n ≤ 1000000) : JoinOk " " ws = true := by
  refine PyProof.Rows.joinOk_of ?_
  have h1 := h.sum
  have h2 := h.1
  have h3 : w * ws.length ≤ w * n := Nat.mul_le_mul_left _ h2
  have h4 : (Str.ofString " ").length = 1 := by decide
  rw [h4]
  omega
theorem Fits.len {w n : Nat} {ws : List Str} (h : Fits w n ws) : (Txt.join " " ws).length ≤ w * n + n := by
  unfold Txt.join
  rw [StrLaws.glued_eq_join]
  have h0 := StrLaws.join_length_le " " ws
  have h1 := h.sum
  have h2 := h.1
  have h3 : w * ws.length ≤ w * n := Nat.mul_le_mul_left _ h2
  have h4 : (Str.ofString " ").length = 1 := by decide
  rw [h4] at h0
  omega
/-- a number's figures -/
theorem numT_neg (n : Nat) : numT (-((n : Int) + 1)) = "-" ++ numT ((n : Int) + 1) := by
  show Str.ofString ("-" ++ toString (n + 1)) = Str.ofString "-" ++ Str.ofString (toString (n + 1))
  rw [Str.ofString_eq_toList, Str.ofString_eq_toList, Str.ofString_eq_toList]
  refine Str.ext' ?_
  rw [Str.cps_append]
  simp
theorem numT_len {i : Int} (h : i.natAbs < 10 ^ 40) : (numT i).length ≤ 60 := by
  by_cases h0 : 0 ≤ i
  · have h1 : i < 10 ^ 40 := by omega
    have := PyProof.Rows.toString_length_le h0 (k := 40) (by decide) h1
    show (Str.ofString (toString i)).length ≤ 60
    omega
  · obtain ⟨n, rfl⟩ : ∃ n : Nat, i = -((n : Int) + 1) := ⟨(-i - 1).toNat, by omega⟩
    rw [numT_neg, Str.length_append]
    have h1 : ((n : Int) + 1) < 10 ^ 40 := by omega
    have := PyProof.Rows.toString_length_le (v := (n : Int) + 1) (by omega) (k := 40) (by decide) h1
    have e1 : (Str.ofString "-").length = 1 := by decide
    have : (numT ((n : Int) + 1)).length ≤ 40 := this
    omega
/-! ### texts of a sum or a test fit -/
def Sm.tx : Sm Str → Prop
  | .num i => i.natAbs < 10 ^ 40
  | .name x => x.length ≤ 100
  | .op _ a b => a.tx ∧ b.tx
def Ts.tx : Ts → Prop
  | .less a b => a.tx ∧ b.tx
  | .same a b => a.tx ∧ b.tx
  | .not t => t.tx
  | .both t u => t.tx ∧ u.tx
def Th.tx : Th → Prop
  | .s x => x.tx
  | .t x => x.tx
theorem O3.w_len (o : O3) : o.w.length ≤ 100 := by cases o <;> decide
theorem Sm.words_len : ∀ s : Sm Str, s.words.length + 1 = 2 * s.lv
  | .num _ => rfl
  | .name _ => rfl
  | .op _ a b => by
    have h1 := a.words_len
    have h2 := b.words_len
    show (a.words ++ b.words).length + 1 + 1 = 2 * (a.lv + b.lv)
    rw [List.length_append]
    omega
theorem Sm.fits : ∀ {s : Sm Str}, s.tx → Fits 100 (2 * s.lv) s.words
  | .num i, h => ⟨by show 1 ≤ 2 * 1; decide, fun x hx => by
      have := List.mem_singleton.mp hx
      subst this
      have := numT_len h
      omega⟩
  | .name x, h => ⟨by show 1 ≤ 2 * 1; decide, fun y hy => by
      have := List.mem_singleton.mp hy
      subst this
      exact h⟩
  | .op o a b, h => by
    have h1 := Sm.fits h.1
    have h2 := Sm.fits h.2
    have h3 := (h1.app h2).cons o.w_len
    have l1 := a.lv_pos
    have l2 := b.lv_pos
    -- one word more than the leaves' twice less one each
    refine ⟨?_, h3.2⟩
    have e1 := a.words_len
    have e2 := b.words_len
    show (a.words ++ b.words).length + 1 ≤ 2 * (a.lv + b.lv)
    rw [List.length_append]
    omega
/-! ### the parts of a sum or a test -/
inductive Kids : Th → Str → List Th → Prop where
  | op (o : O3) (a b : Sm Str) : Kids (.s (.op o a b)) o.w [.s a, .s b]
  | less (a b : Sm Str) : Kids (.t (.less a b)) "less" [.s a, .s b]
  | same (a b : Sm Str) : Kids (.t (.same a b)) "same" [.s a, .s b]
  | not (t : Ts) : Kids (.t (.not t)) "not" [.t t]
  | both (t u : Ts) : Kids (.t (.both t u)) "both" [.t t, .t u]
theorem Kids.words {th : Th} {wd : Str} {ths : List Th} (h : Kids th wd ths) : th.words = wd :: ths.flatMap Th.words := by
  cases h <;> simp [Th.words, Sm.words, Ts.words]
theorem Kids.tx {th : Th} {wd : Str} {ths : List Th} (h : Kids th wd ths) (ht : th.tx) : ∀ x ∈ ths, x.tx := by
  cases h with
  | op o a b => intro x hx; rcases List.mem_cons.mp hx with rfl | hx; exact ht.1; cases List.mem_singleton.mp hx; exact ht.2
  | less a b => intro x hx; rcases List.mem_cons.mp hx with rfl | hx; exact ht.1; cases List.mem_singleton.mp hx; exact ht.2
  | same a b => intro x hx; rcases List.mem_cons.mp hx with rfl | hx; exact ht.1; cases List.mem_singleton.mp hx; exact ht.2
  | not t => intro x hx; cases List.mem_singleton.mp hx; exact ht
  | both a b => intro x hx; rcases List.mem_cons.mp hx with rfl | hx; exact ht.1; cases List.mem_singleton.mp hx; exact ht.2
theorem parts_of {H : Hp} {n : Nat} {u : V} {th : Th} (h : IsTh H u th) (hd : th.dp ≤ n + 1) :
    (∃ c i, u = .ref c ∧ H c = some (.tup [.str "num", .int i]) ∧ th = .s (.num i)) ∨ (∃ c x, u = .ref c ∧ H c = some (.tup [.str "name", .str x]) ∧ th = .s (.name x)) ∨
    ∃ c wd us ths, u = .ref c ∧ H c = some (.tup (.str wd :: us)) ∧ Paired (IsTh H) us ths ∧ decide (V.str wd = V.str "num") = false ∧ decide (V.str wd = V.str "name") = false ∧ us.length ≤ 2 ∧ (∀ x ∈ ths, x.dp ≤ n) ∧ Kids th wd ths := by
  have two : ∀ {a b : Th} {P : Th → Prop}, P a → P b → ∀ x ∈ [a, b], P x := fun ha hb x hx => by
    rcases List.mem_cons.mp hx with rfl | hx
    · exact ha
    · cases List.mem_singleton.mp hx
      exact hb
  cases th with
  | s s =>
    cases (show IsSum H u s from h) with
    | @num c i e => exact .inl ⟨c, i, rfl, e, rfl⟩
    | @name c x e => exact .inr (.inl ⟨c, x, rfl, e, rfl⟩)
    | @op c o u v s t e h1 h2 =>
      have hd' : max s.dp t.dp + 1 ≤ n + 1 := hd
      exact .inr (.inr ⟨c, o.w, [u, v], [.s s, .s t], rfl, e, .cons h1 (.cons h2 .nil), by cases o <;> decide +kernel, by cases o <;> decide +kernel, Nat.le_refl _, two (by show s.dp ≤ n; omega) (by show t.dp ≤ n; omega), .op o s t⟩)
  | t t =>
    cases (show IsTest H u t from h) with
    | @less c u v s t e h1 h2 =>
      have hd' : max s.dp t.dp + 1 ≤ n + 1 := hd
      exact .inr (.inr ⟨c, "less", [u, v], [.s s, .s t], rfl, e, .cons h1 (.cons h2 .nil), by decide +kernel, by decide +kernel, Nat.le_refl _, two (by show s.dp ≤ n; omega) (by show t.dp ≤ n; omega), .less s t⟩)
    | @same c u v s t e h1 h2 =>
      have hd' : max s.dp t.dp + 1 ≤ n + 1 := hd
      exact .inr (.inr ⟨c, "same", [u, v], [.s s, .s t], rfl, e, .cons h1 (.cons h2 .nil), by decide +kernel, by decide +kernel, Nat.le_refl _, two (by show s.dp ≤ n; omega) (by show t.dp ≤ n; omega), .same s t⟩)
    | @not c u t e h1 =>
      have hd' : t.dp + 1 ≤ n + 1 := hd
      exact .inr (.inr ⟨c, "not", [u], [.t t], rfl, e, .cons h1 .nil, by decide +kernel, by decide +kernel, Nat.le_succ 1, fun x hx => by cases List.mem_singleton.mp hx; show t.dp ≤ n; omega, .not t⟩)
    | @both c u v s t e h1 h2 =>
      have hd' : max s.dp t.dp + 1 ≤ n + 1 := hd
      exact .inr (.inr ⟨c, "both", [u, v], [.t s, .t t], rfl, e, .cons h1 (.cons h2 .nil), by decide +kernel, by decide +kernel, Nat.le_refl _, two (by show s.dp ≤ n; omega) (by show t.dp ≤ n; omega), .both s t⟩)
end J
namespace L2
open PySem
theorem bt_abs : bootBuiltins "abs" = some (.builtin "abs") := by decide +kernel
end L2

set_option Elab.async false
set_option linter.all false
set_option maxRecDepth 100000
set_option maxHeartbeats 4000000
namespace J
open PySem L2
def Th.fit (th : Th) : Prop := th.tx ∧ th.dp ≤ 20 ∧ Fits 100 190 th.words
def Bk.fit : Bk → Prop
  | .nil => True
  | .set x a r => x.length ≤ 100 ∧ (Th.s a).fit ∧ r.fit
  | .say a r => (Th.s a).fit ∧ r.fit
  | .when t b c r => (Th.t t).fit ∧ b.fit ∧ c.fit ∧ r.fit
  | .whil t b r => (Th.t t).fit ∧ b.fit ∧ r.fit
  | .wit x a b r => x.length ≤ 100 ∧ (Th.s a).fit ∧ b.fit ∧ r.fit
theorem Bk.rows_len : ∀ (b : Bk) (l : Str), (b.rows l).length ≤ 3 * b.n
  | .nil, _ => Nat.le_refl _
  | .set _ _ r, l => by have := r.rows_len l; show (r.rows l).length + 1 ≤ 3 * (r.n + 1); omega
  | .say _ r, l => by have := r.rows_len l; show (r.rows l).length + 1 ≤ 3 * (r.n + 1); omega
  | .when t b c r, l => by
    have h1 := r.rows_len l
    have h2 := b.rows_len (l ++ "  ")
    have h3 := c.rows_len (l ++ "  ")
    simp only [Bk.rows, Bk.n, List.length_cons, List.length_append]
    omega
  | .whil t b r, l => by
    have h1 := r.rows_len l
    have h2 := b.rows_len (l ++ "  ")
    simp only [Bk.rows, Bk.n, List.length_cons, List.length_append]
    omega
  | .wit x a b r, l => by
    have h1 := r.rows_len l
    have h2 := b.rows_len (l ++ "  ")
    simp only [Bk.rows, Bk.n, List.length_cons, List.length_append]
    omega
/-- an order's first row -/
inductive HdW (H : Hp) : Addr → List Str → Prop where
  | two {c : Addr} {wd x : Str} {u : V} {s : Sm Str} {rest : List V} : H c = some (.tup (.str wd :: .str x :: u :: rest)) → inV (.str wd) [.str "set", .str "with"] = true → IsSum H u s → (Th.s s).fit → HdW H c (wd :: x :: s.words)
  | one {c : Addr} {wd : Str} {u : V} {t : Th} {rest : List V} : H c = some (.tup (.str wd :: u :: rest)) → inV (.str wd) [.str "set", .str "with"] = false → IsTh H u t → t.fit → HdW H c (wd :: t.words)
theorem two_sp : (Str.ofString "  ").length = 2 := by decide
end J

set_option Elab.async false
set_option linter.all false
set_option maxRecDepth 100000
set_option maxHeartbeats 4000000
namespace J
open PySem L2
theorem leaf_ways (salt p1 p2 : Int) (sc : List Str) : (∃ x, leafF salt p1 p2 sc = .name x ∧ (x ∈ sc)) ∨ ∃ i, leafF salt p1 p2 sc = .num i ∧ i.natAbs < 10 ^ 40 := by
  unfold leafF
  by_cases h : drw salt p1 ((sc.length : Int) + 2) < (sc.length : Int)
  · rw [if_pos h]
    have h0 := drw_lo (n := salt) (p := p1) (m := (sc.length : Int) + 2) (by omega)
    have hlt : (drw salt p1 ((sc.length : Int) + 2)).toNat < sc.length := by omega
    refine .inl ⟨_, rfl, ?_⟩
    rw [List.getElem?_eq_getElem hlt]
    exact List.getElem_mem _
  · rw [if_neg h]
    refine .inr ⟨_, rfl, ?_⟩
    unfold leafN
    have h0 := drw_lo (n := salt) (p := p2) (m := 13) (by decide)
    have h1 := drw_hi (n := salt) (p := p2) (m := 13) (by decide)
    have e0 := Int.emod_nonneg (salt * 48271) (show (10 ^ 30 : Int) ≠ 0 by decide)
    have e1 := Int.emod_lt_of_pos (salt * 48271) (show (0 : Int) < 10 ^ 30 by decide)
    split
    · decide
    · split
      · have : (10 : Int) ^ 30 ≤ 10 ^ 39 := by decide
        have : (10 : Nat) ^ 40 = 10 * 10 ^ 39 := by decide
        have c1 : (5 * 10 ^ 29 : Int) ≤ 10 ^ 39 := by decide
        have c2 : (10 : Int) ^ 39 = ((10 ^ 39 : Nat) : Int) := by decide
        have c3 : 0 < (10 : Nat) ^ 39 := by decide
        omega
      · exact Nat.lt_of_le_of_lt (show (drw salt p2 13 - 3).natAbs ≤ 10 by omega) (by decide)
/-- small leaves: one word, depth one -/
theorem leaf_small (salt p1 p2 : Int) (sc : List Str) : (leafF salt p1 p2 sc).dp = 1 ∧ (leafF salt p1 p2 sc).lv = 1 := by
  rcases leaf_ways salt p1 p2 sc with ⟨x, e, _⟩ | ⟨i, e, _⟩ <;> rw [e] <;> exact ⟨rfl, rfl⟩
theorem leaf_tx {salt p1 p2 : Int} {sc : List Str} (h : ∀ x ∈ sc, x.length ≤ 100) : (leafF salt p1 p2 sc).tx := by
  rcases leaf_ways salt p1 p2 sc with ⟨x, e, hx⟩ | ⟨i, e, hi⟩ <;> rw [e]
  · exact h x hx
  · exact hi
theorem turned_small {o : Sm Str} {l : Int} (ho : o.dp = 1 ∧ o.lv = 1) : ∀ k : Nat, (turned o l k).dp ≤ k + 1 ∧ (turned o l k).lv = k + 1
  | 0 => ⟨by show o.dp ≤ 1; omega, ho.2⟩
  | k + 1 => by
    obtain ⟨h1, h2⟩ := turned_small (l := l) ho k
    refine ⟨?_, ?_⟩
    · show max (turned o l k).dp 1 + 1 ≤ _; omega
    · show (turned o l k).lv + 1 = _; omega
theorem turned_tx {o : Sm Str} {l : Int} (ho : o.tx) (hl : l.natAbs < 10 ^ 40) : ∀ k : Nat, (turned o l k).tx
  | 0 => ho
  | k + 1 => ⟨turned_tx ho hl k, hl⟩
theorem small40 {i : Int} (h : i.natAbs ≤ 100) : i.natAbs < 10 ^ 40 := Nat.lt_of_le_of_lt h (by decide)
theorem sum_small (salt : Int) (sc : List Str) : (sumF salt sc).dp ≤ 7 ∧ (sumF salt sc).lv ≤ 7 := by
  have a := leaf_small salt 1009 1013 sc
  have b := leaf_small salt 1019 1021 sc
  have l0 := drw_lo (n := salt) (p := 1061) (show (0 : Int) < 4 by decide)
  have l4 := drw_hi (n := salt) (p := 1061) (show (0 : Int) < 4 by decide)
  have t := turned_small (l := drw salt 1061 4) a (drw salt 1061 4 + 3).toNat
  unfold sumF
  dsimp only
  split
  · omega
  · split
    · simp only [Sm.dp, Sm.lv]; omega
    · split
      · simp only [Sm.dp, Sm.lv]; omega
      · split
        · simp only [Sm.dp, Sm.lv]; omega
        · split
          · omega
          · split
            · simp only [Sm.dp, Sm.lv]; omega
            · simp only [Sm.dp, Sm.lv]; omega
theorem sum_tx {salt : Int} {sc : List Str} (h : ∀ x ∈ sc, x.length ≤ 100) : (sumF salt sc).tx := by
  have a := leaf_tx (salt := salt) (p1 := 1009) (p2 := 1013) h
  have b := leaf_tx (salt := salt) (p1 := 1019) (p2 := 1021) h
  have l0 := drw_lo (n := salt) (p := 1061) (show (0 : Int) < 4 by decide)
  have l4 := drw_hi (n := salt) (p := 1061) (show (0 : Int) < 4 by decide)
  have c := small40 (i := drw salt 1061 4) (by omega)
  have c1 := small40 (i := drw salt 1061 4 - 1) (by omega)
  unfold sumF
  dsimp only
  split
  · exact a
  · split
    · exact ⟨a, b⟩
    · split
      · exact ⟨a, b⟩
      · split
        · exact ⟨a, c1⟩
        · split
          · exact turned_tx a c _
          · split
            · exact ⟨⟨⟨c, b, a⟩, b⟩, a, c⟩
            · exact ⟨⟨a, b⟩, c, b⟩
theorem sum_fit {salt : Int} {sc : List Str} (h : ∀ x ∈ sc, x.length ≤ 100) : (Th.s (sumF salt sc)).fit := by
  have a := sum_small salt sc
  have f := Sm.fits (sum_tx (salt := salt) h)
  exact ⟨sum_tx h, by show (sumF salt sc).dp ≤ 20; omega, Nat.le_trans f.1 (by omega), f.2⟩
/-- how many words -/
def Ts.wn : Ts → Nat
  | .less a b => 2 * a.lv + 2 * b.lv + 1
  | .same a b => 2 * a.lv + 2 * b.lv + 1
  | .not t => t.wn + 1
  | .both t u => t.wn + u.wn + 1
theorem Ts.fits : ∀ {t : Ts}, t.tx → Fits 100 t.wn t.words
  | .less a b, h => ((Sm.fits h.1).app (Sm.fits h.2)).cons (by decide)
  | .same a b, h => ((Sm.fits h.1).app (Sm.fits h.2)).cons (by decide)
  | .not t, h => (Ts.fits (t := t) h).cons (by decide)
  | .both t u, h => ((Ts.fits h.1).app (Ts.fits h.2)).cons (by decide)
theorem test_small (salt : Int) (sc : List Str) : (testF salt sc).dp ≤ 12 ∧ (testF salt sc).wn ≤ 190 := by
  have a := leaf_small salt 1009 1013 sc
  have b := leaf_small salt 1019 1021 sc
  have s := sum_small salt sc
  have one : (if drw salt 1097 3 = 1 then sumF salt sc else leafF salt 1009 1013 sc).dp ≤ 7 ∧ (if drw salt 1097 3 = 1 then sumF salt sc else leafF salt 1009 1013 sc).lv ≤ 7 := by
    split
    · exact s
    · omega
  unfold testF
  dsimp only
  generalize (if drw salt 1097 3 = 1 then sumF salt sc else leafF salt 1009 1013 sc) = o at one
  split
  · simp only [Ts.dp, Ts.wn, Sm.dp, Sm.lv]; omega
  · split
    · simp only [Ts.dp, Ts.wn, Sm.dp, Sm.lv]; omega
    · split
      · simp only [Ts.dp, Ts.wn, Sm.dp, Sm.lv]; omega
      · split
        · simp only [Ts.dp, Ts.wn, Sm.dp, Sm.lv]; omega
        · simp only [Ts.dp, Ts.wn, Sm.dp, Sm.lv]; omega
theorem test_tx {salt : Int} {sc : List Str} (h : ∀ x ∈ sc, x.length ≤ 100) : (testF salt sc).tx := by
  have a := leaf_tx (salt := salt) (p1 := 1009) (p2 := 1013) h
  have b := leaf_tx (salt := salt) (p1 := 1019) (p2 := 1021) h
  have s := sum_tx (salt := salt) h
  have l0 := drw_lo (n := salt) (p := 1069) (show (0 : Int) < 9 by decide)
  have l4 := drw_hi (n := salt) (p := 1069) (show (0 : Int) < 9 by decide)
  have c := small40 (i := drw salt 1069 9 - 1) (by omega)
  have d := small40 (i := -6) (by decide)
  have one : (if drw salt 1097 3 = 1 then sumF salt sc else leafF salt 1009 1013 sc).tx := by
    split
    · exact s
    · exact a
  unfold testF
  dsimp only
  generalize (if drw salt 1097 3 = 1 then sumF salt sc else leafF salt 1009 1013 sc) = o at one
  split
  · exact ⟨one, b⟩
  · split
    · exact ⟨one, c⟩
    · split
      · exact ⟨⟨⟨one, c⟩, one, b⟩, ⟨one, b⟩, one, c⟩
      · split
        · exact ⟨⟨one, c⟩, d, one⟩
        · exact ⟨one, c⟩
theorem test_fit {salt : Int} {sc : List Str} (h : ∀ x ∈ sc, x.length ≤ 100) : (Th.t (testF salt sc)).fit := by
  have a := test_small salt sc
  have f := Ts.fits (test_tx (salt := salt) h)
  exact ⟨test_tx h, by show (testF salt sc).dp ≤ 20; omega, Nat.le_trans f.1 (by omega), f.2⟩
/-! ### all that is begun fits -/
def Hd.fit : Hd → Prop
  | .whil t => (Th.t t).fit
  | .when t => (Th.t t).fit
  | .els t b => (Th.t t).fit ∧ b.fit
  | .wit x a => x.length ≤ 100 ∧ (Th.s a).fit
theorem Bk.fit_app : ∀ {b c : Bk}, b.fit → c.fit → (b.app c).fit
  | .nil, _, _, h => h
  | .set _ _ _, _, h, g => ⟨h.1, h.2.1, Bk.fit_app h.2.2 g⟩
  | .say _ _, _, h, g => ⟨h.1, Bk.fit_app h.2 g⟩
  | .when _ _ _ _, _, h, g => ⟨h.1, h.2.1, h.2.2.1, Bk.fit_app h.2.2.2 g⟩
  | .whil _ _ _, _, h, g => ⟨h.1, h.2.1, Bk.fit_app h.2.2 g⟩
  | .wit _ _ _ _, _, h, g => ⟨h.1, h.2.1, h.2.2.1, Bk.fit_app h.2.2.2 g⟩
theorem end_fit {salt : Int} {t : Ts} (h : (Th.t t).fit) : (endF salt t).fit := by
  unfold endF
  split
  · rename_i x s2
    split
    · have hx : x.length ≤ 100 := (show (Ts.less (.name x) s2).tx from h.1).1
      have ht : (Sm.op .add (.name x) (.num 1)).tx := ⟨hx, small40 (i := 1) (by decide)⟩
      have hs : (Th.s (Sm.op .add (.name x) (.num 1))).fit := by
        have f := Sm.fits ht
        exact ⟨ht, by show (2 : Nat) ≤ 20; decide, Nat.le_trans f.1 (by show 2 * 2 ≤ 190; decide), f.2⟩
      exact ⟨hx, hs, trivial⟩
    · trivial
  · trivial
structure Gs.Fit (g : Gs) : Prop where
  bs : ∀ b ∈ g.bs, b.fit
  hs : ∀ h ∈ g.hs, h.fit
  sc : ∀ x ∈ g.sc, x.length ≤ 100
theorem all2 {α : Type} {P : α → Prop} {x : α} {l : List α} (h : ∀ y ∈ x :: l, P y) : P x ∧ ∀ y ∈ l, P y := ⟨h x (by simp), fun y hy => h y (by simp [hy])⟩
theorem cons2 {α : Type} {P : α → Prop} {x : α} {l : List α} (h : P x) (g : ∀ y ∈ l, P y) : ∀ y ∈ x :: l, P y := fun y hy => by
  rcases List.mem_cons.mp hy with rfl | hy
  · exact h
  · exact g y hy
theorem closeF_fit {salt : Int} {g : Gs} (h : g.Fit) : (closeF salt g).Fit := by
  obtain ⟨bs, hs, sc⟩ := g
  obtain ⟨h1, h2, h3⟩ := h
  unfold closeF
  split
  · rename_i t hs' b bs' e1 e2
    simp only at e1 e2
    subst e1 e2
    exact ⟨cons2 trivial (all2 h1).2, cons2 ⟨(all2 h2).1, (all2 h1).1⟩ (all2 h2).2, h3⟩
  · rename_i t b0 hs' b b1 bs' e1 e2
    simp only at e1 e2
    subst e1 e2
    have q := all2 (all2 h1).2
    exact ⟨cons2 (Bk.fit_app q.1 ⟨(all2 h2).1.1, (all2 h2).1.2, (all2 h1).1, trivial⟩) q.2, (all2 h2).2, h3⟩
  · rename_i t hs' b b1 bs' e1 e2
    simp only at e1 e2
    subst e1 e2
    have q := all2 (all2 h1).2
    exact ⟨cons2 (Bk.fit_app q.1 ⟨(all2 h2).1, Bk.fit_app (all2 h1).1 (end_fit (all2 h2).1), trivial⟩) q.2, (all2 h2).2, h3⟩
  · rename_i x a hs' b b1 bs' e1 e2
    simp only at e1 e2
    subst e1 e2
    have q := all2 (all2 h1).2
    exact ⟨cons2 (Bk.fit_app q.1 ⟨(all2 h2).1.1, (all2 h2).1.2, (all2 h1).1, trivial⟩) q.2, (all2 h2).2, fun y hy => h3 y (List.dropLast_subset _ hy)⟩
  · exact ⟨h1, h2, h3⟩
theorem addF_fit {o : Bk} {g : Gs} (h : g.Fit) (ho : o.fit) : (addF o g).Fit := by
  obtain ⟨bs, hs, sc⟩ := g
  obtain ⟨h1, h2, h3⟩ := h
  unfold addF
  split
  · rename_i b bs' e
    simp only at e
    subst e
    exact ⟨cons2 (Bk.fit_app (all2 h1).1 ho) (all2 h1).2, h2, h3⟩
  · exact ⟨h1, h2, h3⟩
theorem getD_len {l : List Str} {i : Nat} (h : ∀ x ∈ l, x.length ≤ 100) : ((l[i]?).getD "").length ≤ 100 := by
  cases e : l[i]? with
  | none => decide
  | some x => exact h x (List.mem_of_getElem? e)
theorem jar_len {salt : Int} {sc : List Str} (h : ∀ x ∈ sc, x.length ≤ 100) : (jarF salt sc).length ≤ 100 := by
  unfold jarF
  refine getD_len fun x hx => ?_
  unfold jarsF at hx
  rcases List.mem_append.mp hx with hx | hx
  · exact h x (List.take_subset _ _ hx)
  · rcases List.mem_cons.mp hx with rfl | hx
    · decide
    · rw [List.mem_singleton.mp hx]; decide
theorem stepF_fit {more : List Str} {k : Nat} {cell : Int} {g : Gs} (h : g.Fit) (hm : ∀ x ∈ more, x.length ≤ 100) : (stepF more k cell g).Fit := by
  have hn : ∀ x ∈ g.sc ++ more, x.length ≤ 100 := fun x hx => by
    rcases List.mem_append.mp hx with hx | hx
    · exact h.sc x hx
    · exact hm x hx
  unfold stepF
  dsimp only
  split
  · refine ⟨cons2 trivial h.bs, cons2 ?_ h.hs, ?_⟩
    · unfold headF
      split
      · exact test_fit hn
      · split
        · exact test_fit hn
        · exact ⟨jar_len hn, sum_fit hn⟩
    · show ∀ x ∈ (if cell % 9 = 2 then g.sc ++ [jarF (cell + 7919 * k) (g.sc ++ more)] else g.sc), x.length ≤ 100
      split
      · intro x hx
        rcases List.mem_append.mp hx with hx | hx
        · exact h.sc x hx
        · rw [List.mem_singleton.mp hx]; exact jar_len hn
      · exact h.sc
  · split
    · exact closeF_fit h
    · split
      · exact addF_fit h ⟨getD_len hn, sum_fit hn, trivial⟩
      · exact addF_fit h ⟨sum_fit hn, trivial⟩
theorem foldF_fit {more : List Str} (hm : ∀ x ∈ more, x.length ≤ 100) : ∀ (cs : List Int) {k : Nat} {g : Gs}, g.Fit → (foldF more k cs g).Fit
  | [], _, _, h => h
  | c :: cs, k, g, h => foldF_fit hm cs (stepF_fit (k := k) (cell := c) h hm)
theorem closes_fit : ∀ (n : Nat) {g : Gs}, g.Fit → (closes n g).Fit
  | 0, _, h => h
  | n + 1, g, h => closes_fit n (closeF_fit h)
theorem grown_fit {cells : List Int} {names more : List Str} (hn : ∀ x ∈ names, x.length ≤ 100) (hm : ∀ x ∈ more, x.length ≤ 100) : (grownF cells names more).fit := by
  have h := closes_fit 400 (foldF_fit hm cells (k := 0) (g := ⟨[.nil], [], names⟩) ⟨cons2 trivial (by simp), by simp, hn⟩)
  unfold grownF
  split
  · rename_i b bs e
    exact h.bs b (by rw [e]; simp)
  · trivial
/-! ### how deep and how many -/
def dpOk (K : Nat) : List Bk → List Hd → Prop
  | [], _ => True
  | b :: bs, hs => b.dp + hs.length ≤ K + 1 ∧ (match hs with | .els _ b0 :: _ => b0.dp + hs.length ≤ K + 1 | _ => True) ∧ dpOk K bs hs.tail
theorem Bk.dp_app : ∀ b c : Bk, (b.app c).dp = max b.dp c.dp
  | .nil, c => by have := c.dp_pos; show c.dp = max 1 c.dp; omega
  | .set _ _ r, c => by show (r.app c).dp = max r.dp c.dp; exact Bk.dp_app r c
  | .say _ r, c => by show (r.app c).dp = max r.dp c.dp; exact Bk.dp_app r c
  | .when _ b d r, c => by show max (max (b.dp + 1) (d.dp + 1)) (r.app c).dp = max (max (max (b.dp + 1) (d.dp + 1)) r.dp) c.dp; rw [Bk.dp_app r c]; exact (Nat.max_assoc _ _ _).symm
  | .whil _ b r, c => by show max (b.dp + 1) (r.app c).dp = max (max (b.dp + 1) r.dp) c.dp; rw [Bk.dp_app r c]; exact (Nat.max_assoc _ _ _).symm
  | .wit _ _ b r, c => by show max (b.dp + 1) (r.app c).dp = max (max (b.dp + 1) r.dp) c.dp; rw [Bk.dp_app r c]; exact (Nat.max_assoc _ _ _).symm
theorem endF_dp (salt : Int) (t : Ts) : (endF salt t).dp = 1 := by
  unfold endF
  split
  · split <;> rfl
  · rfl
theorem dpOk_mono {K K' : Nat} (h : K ≤ K') : ∀ {bs : List Bk} {hs : List Hd}, dpOk K bs hs → dpOk K' bs hs
  | [], _, _ => trivial
  | b :: bs, hs, ⟨h1, h2, h3⟩ => by
    refine ⟨by omega, ?_, dpOk_mono h h3⟩
    split
    · have h2' := h2
      simp only at h2'
      omega
    · trivial
theorem closeF_dp {salt : Int} {g : Gs} {K : Nat} (h : dpOk K g.bs g.hs) : dpOk K (closeF salt g).bs (closeF salt g).hs := by
  obtain ⟨bs, hs, sc⟩ := g
  unfold closeF
  split
  · rename_i t hs' b bs' e1 e2
    simp only at e1 e2
    subst e1 e2
    obtain ⟨h1, h2, h3⟩ := h
    simp only [List.length_cons] at h1
    have := b.dp_pos
    exact ⟨by show 1 + (hs'.length + 1) ≤ K + 1; omega, by show b.dp + (hs'.length + 1) ≤ K + 1; omega, h3⟩
  · rename_i t b0 hs' b b1 bs' e1 e2
    simp only at e1 e2
    subst e1 e2
    obtain ⟨h1, h2, h3, h4, h5⟩ := h
    simp only [List.length_cons, List.tail_cons] at h1 h2 h3 h4 h5
    refine ⟨?_, h4, h5⟩
    show (b1.app (.when t b0 b .nil)).dp + hs'.length ≤ K + 1
    rw [Bk.dp_app]
    show max b1.dp (max (max (b0.dp + 1) (b.dp + 1)) 1) + hs'.length ≤ K + 1
    omega
  · rename_i t hs' b b1 bs' e1 e2
    simp only at e1 e2
    subst e1 e2
    obtain ⟨h1, h2, h3, h4, h5⟩ := h
    simp only [List.length_cons, List.tail_cons] at h1 h2 h3 h4 h5
    refine ⟨?_, h4, h5⟩
    show (b1.app (.whil t (b.app (endF salt t)) .nil)).dp + hs'.length ≤ K + 1
    rw [Bk.dp_app]
    show max b1.dp (max ((b.app (endF salt t)).dp + 1) 1) + hs'.length ≤ K + 1
    rw [Bk.dp_app, endF_dp]
    have := b.dp_pos
    omega
  · rename_i x a hs' b b1 bs' e1 e2
    simp only at e1 e2
    subst e1 e2
    obtain ⟨h1, h2, h3, h4, h5⟩ := h
    simp only [List.length_cons, List.tail_cons] at h1 h2 h3 h4 h5
    refine ⟨?_, h4, h5⟩
    show (b1.app (.wit x a b .nil)).dp + hs'.length ≤ K + 1
    rw [Bk.dp_app]
    show max b1.dp (max (b.dp + 1) 1) + hs'.length ≤ K + 1
    omega
  · exact h
theorem addF_dp {o : Bk} {g : Gs} {K : Nat} (h : dpOk K g.bs g.hs) (ho : o.dp = 1) : dpOk K (addF o g).bs (addF o g).hs := by
  obtain ⟨bs, hs, sc⟩ := g
  unfold addF
  split
  · rename_i b bs' e
    simp only at e
    subst e
    obtain ⟨h1, h2, h3⟩ := h
    refine ⟨?_, h2, h3⟩
    show (b.app o).dp + hs.length ≤ K + 1
    rw [Bk.dp_app, ho]
    have := b.dp_pos
    simp only at h1
    omega
  · exact h
theorem stepF_dp {more : List Str} {k : Nat} {cell : Int} {g : Gs} {K : Nat} (h : dpOk K g.bs g.hs) (hK : g.hs.length ≤ K) : dpOk (K + 1) (stepF more k cell g).bs (stepF more k cell g).hs := by
  unfold stepF
  dsimp only
  split
  · refine ⟨by show 1 + (g.hs.length + 1) ≤ K + 1 + 1; omega, ?_, dpOk_mono (Nat.le_succ _) h⟩
    unfold headF
    split
    · rename_i e; split at e
      · cases e
      · split at e <;> cases e
    · trivial
  · split
    · exact dpOk_mono (Nat.le_succ _) (closeF_dp h)
    · split
      · exact dpOk_mono (Nat.le_succ _) (addF_dp h rfl)
      · exact dpOk_mono (Nat.le_succ _) (addF_dp h rfl)
theorem stepF_hs {more : List Str} {k : Nat} {cell : Int} {g : Gs} : (stepF more k cell g).hs.length ≤ g.hs.length + 1 := by
  have hc : ∀ s, (closeF s g).hs.length ≤ g.hs.length + 1 := fun s => by
    obtain ⟨bs, hs, sc⟩ := g
    unfold closeF
    split
    · rename_i t hs' b bs' e1 e2; simp only at e1 e2; subst e1 e2; simp only [List.length_cons]; omega
    · rename_i t b0 hs' b b1 bs' e1 e2; simp only at e1 e2; subst e1 e2; simp only [List.length_cons]; omega
    · rename_i t hs' b b1 bs' e1 e2; simp only at e1 e2; subst e1 e2; simp only [List.length_cons]; omega
    · rename_i x a hs' b b1 bs' e1 e2; simp only at e1 e2; subst e1 e2; simp only [List.length_cons]; omega
    · exact Nat.le_succ _
  have ha : ∀ o, (addF o g).hs.length ≤ g.hs.length + 1 := fun o => by
    unfold addF
    split <;> exact Nat.le_succ _
  unfold stepF
  dsimp only
  split
  · exact Nat.le_refl _
  · split
    · exact hc _
    · split
      · exact ha _
      · exact ha _
theorem foldF_dp {more : List Str} : ∀ (cs : List Int) {k K : Nat} {g : Gs}, dpOk K g.bs g.hs → g.hs.length ≤ K → dpOk (K + cs.length) (foldF more k cs g).bs (foldF more k cs g).hs
  | [], _, _, _, h, _ => h
  | c :: cs, k, K, g, h, hK => by
    have := foldF_dp (more := more) cs (k := k + 1) (stepF_dp (more := more) (k := k) (cell := c) h hK) (Nat.le_trans stepF_hs (by omega))
    rw [List.length_cons, show K + (cs.length + 1) = K + 1 + cs.length by omega]
    exact this
theorem closes_dp : ∀ (n : Nat) {K : Nat} {g : Gs}, dpOk K g.bs g.hs → dpOk K (closes n g).bs (closes n g).hs
  | 0, _, _, h => h
  | n + 1, K, g, h => closes_dp n (closeF_dp h)
theorem grown_dp {cells : List Int} {names more : List Str} : (grownF cells names more).dp ≤ cells.length + 1 := by
  have h := closes_dp 400 (foldF_dp (more := more) cells (k := 0) (K := 0) (g := ⟨[.nil], [], names⟩) ⟨by show 1 + 0 ≤ 0 + 1; omega, trivial, trivial⟩ (Nat.le_refl _))
  rw [Nat.zero_add] at h
  unfold grownF
  split
  · rename_i b bs e
    rw [e] at h
    have := h.1
    omega
  · exact Nat.succ_le_succ (Nat.zero_le _)
theorem closes_ok : ∀ (n : Nat) {k : Nat} {g : Gs}, g.Ok k → (closes n g).Ok k
  | 0, _, _, h => h
  | n + 1, k, g, h => by
    by_cases hh : g.hs = []
    · rw [closes_nil (n + 1) g hh]; exact h
    · exact closes_ok n (closeF_ok h hh).1
theorem grown_n {cells : List Int} {names more : List Str} (hn : names.length ≤ 9) : (grownF cells names more).n ≤ 4 * cells.length := by
  have h := closes_ok 400 (foldF_ok (more := more) cells (k := 0) (g := ⟨[.nil], [], names⟩) ⟨rfl, by simp [Gs.wt], by simp [Gs.n, Gs.wt, Bk.n], by show names.length ≤ 9 + 0; omega, by simp [Gs.w]⟩)
  rw [Nat.zero_add] at h
  have hn := h.n
  unfold grownF
  split
  · rename_i b bs e
    simp only [Gs.n] at hn
    rw [e, List.map_cons, List.sum_cons] at hn
    omega
  · exact Nat.zero_le _
end J

set_option Elab.async false
set_option linter.all false
set_option maxRecDepth 100000
set_option maxHeartbeats 4000000
namespace J
open PySem L2
/-! ### blanks ahead -/
/-! ### the rows of what is begun -/
/-! ### things that have words -/
end J
namespace J
open PySem L2
end J
namespace J
open PySem L2
end J

set_option Elab.async false
set_option linter.all false
set_option maxRecDepth 100000
set_option maxHeartbeats 4000000
namespace J
open PySem L2
/-! ### the words between blanks -/
def stB (st : List Str × Str) (c : Nat) : List Str × Str := if c = 32 then (if st.2.length = 0 then st else (st.1 ++ [st.2], Str.empty)) else (st.1, st.2 ++ ⟨#[c]⟩)
def scB (x : Str) : List Str × Str := x.cps.toList.foldl stB ([], Str.empty)
def wds (x : Str) : List Str := KWd.fin (scB x)
theorem stB_plain : ∀ (l : List Nat) (ws : List Str) (r : Str), 32 ∉ l → l.foldl stB (ws, r) = (ws, r ++ ⟨l.toArray⟩)
  | [], ws, r, _ => by
    show (ws, r) = (ws, r ++ Str.empty)
    rw [Str.append_empty]
  | c :: l, ws, r, h => by
    have h1 : c ≠ 32 := fun e => h (by rw [e]; exact List.mem_cons_self)
    rw [List.foldl_cons]
    unfold stB
    rw [if_neg h1]
    show l.foldl stB (ws, r ++ ⟨#[c]⟩) = _
    rw [stB_plain l ws _ (fun m => h (List.mem_cons_of_mem _ m)), Str.append_assoc]
    have : (⟨#[c]⟩ : Str) ++ ⟨l.toArray⟩ = ⟨(c :: l).toArray⟩ := Str.ext' (by rw [Str.cps_append]; simp)
    rw [this]
theorem stB_str {x : Str} {ws : List Str} {r : Str} (h : 32 ∉ x.cps.toList) : x.cps.toList.foldl stB (ws, r) = (ws, r ++ x) := by
  rw [stB_plain _ _ _ h]
theorem len_e {x : Str} (h : x.length = 0) : x = Str.empty := KWd.len0 h
theorem sp_list : (Str.ofString " ").cps.toList = [32] := by decide
theorem app_list (a b : Str) : (a ++ b).cps.toList = a.cps.toList ++ b.cps.toList := by rw [Str.cps_append, Array.toList_append]
theorem join_scan : ∀ (ps ws : List Str), (∀ p ∈ ps, 32 ∉ p.cps.toList) → KWd.fin ((Str.join " " ps).cps.toList.foldl stB (ws, Str.empty)) = ws ++ ps.filter (fun p => decide (p.length ≠ 0))
  | [], ws, _ => by
    show KWd.fin (ws, Str.empty) = ws ++ []
    rw [List.append_nil]; rfl
  | [p], ws, h => by
    show KWd.fin (p.cps.toList.foldl stB (ws, Str.empty)) = _
    rw [stB_str (h p List.mem_cons_self), Str.empty_append]
    unfold KWd.fin
    by_cases e : p.length = 0
    · rw [if_pos e]; simp [e]
    · rw [if_neg e]; simp [e]
  | p :: q :: r, ws, h => by
    show KWd.fin ((p ++ Str.ofString " " ++ Str.join " " (q :: r)).cps.toList.foldl stB (ws, Str.empty)) = _
    rw [app_list, app_list, List.foldl_append, List.foldl_append, stB_str (h p List.mem_cons_self), Str.empty_append, sp_list]
    have e1 : List.foldl stB (ws, p) [32] = if p.length = 0 then (ws, p) else (ws ++ [p], Str.empty) := rfl
    rw [e1]
    have ih := fun w => join_scan (q :: r) w (fun x m => h x (List.mem_cons_of_mem _ m))
    by_cases e : p.length = 0
    · rw [if_pos e]
      have := len_e e
      subst this
      rw [ih, List.filter_cons_of_neg (a := Str.empty) (by simp [e])]
    · rw [if_neg e, ih, List.filter_cons_of_pos (a := p) (by simp [e])]
      simp
theorem wds_split (x : Str) : (Txt.split x " ").filter (fun p => decide (p.length ≠ 0)) = wds x := by
  have hb : (Str.ofString " ") = ⟨#[32]⟩ := by decide
  have hf : ∀ p ∈ Txt.split x " ", 32 ∉ p.cps.toList := by
    show ∀ p ∈ Txt.split x (Str.ofString " "), _
    rw [hb]; exact StrLaws.split_free x 32
  have h := join_scan (Txt.split x " ") [] hf
  rw [StrLaws.join_split] at h
  rw [List.nil_append] at h
  exact h.symm
/-- a word: signs that are no blank -/
def Wd (x : Str) : Prop := x.length ≠ 0 ∧ ∀ c ∈ x.cps.toList, 33 ≤ c ∧ c ≤ 126
theorem Wd.no {x : Str} (h : Wd x) : 32 ∉ x.cps.toList := fun m => by have := h.2 _ m; omega
theorem rep32 (ws : List Str) : ∀ n : Nat, (List.replicate n 32).foldl stB (ws, Str.empty) = (ws, Str.empty)
  | 0 => rfl
  | n + 1 => by
    rw [List.replicate_succ, List.foldl_cons]
    exact rep32 ws n
theorem sp2_list : (Str.ofString "  ").cps.toList = List.replicate 2 32 := by decide
/-- a text of blanks -/
def Bl (x : Str) : Prop := ∃ n, x.cps.toList = List.replicate n 32
theorem Bl.e : Bl "" := ⟨0, by decide⟩
theorem Bl.app {x y : Str} (h : Bl x) (g : Bl y) : Bl (x ++ y) := by
  obtain ⟨m, hm⟩ := h
  obtain ⟨n, hn⟩ := g
  exact ⟨m + n, by rw [app_list, hm, hn, List.replicate_append_replicate]⟩
theorem Bl.two {x : Str} (h : Bl x) : Bl (x ++ "  ") := h.app ⟨2, sp2_list⟩
theorem Bl.run {x : Str} (h : Bl x) (ws : List Str) : x.cps.toList.foldl stB (ws, Str.empty) = (ws, Str.empty) := by
  obtain ⟨n, hn⟩ := h
  rw [hn]; exact rep32 ws n
theorem wds_row {l : Str} {ws : List Str} (hl : Bl l) (h : ∀ w ∈ ws, Wd w) : wds (rowT l ws) = ws := by
  unfold wds scB rowT
  rw [app_list, List.foldl_append, hl.run]
  show KWd.fin ((Builtin.Str.glued " " ws).cps.toList.foldl stB ([], Str.empty)) = ws
  rw [StrLaws.glued_eq_join, join_scan ws [] (fun p m => (h p m).no), List.nil_append]
  exact List.filter_eq_self.mpr fun p m => by simp [(h p m).1]
theorem wds_one {l w : Str} (hl : Bl l) (h : Wd w) : wds (l ++ w) = [w] := by
  have := wds_row (ws := [w]) hl (fun x m => by rw [List.mem_singleton.mp m]; exact h)
  exact this
/-- the words of a text that Python splits at white space -/
theorem step_B {c : Nat} (h : c = 32 ∨ (33 ≤ c ∧ c ≤ 126)) (st : List Str × Str) : KWd.step st c = stB st c := by
  unfold KWd.step stB
  rcases h with rfl | h
  · rw [if_pos rfl, if_pos (by decide +kernel)]
  · rw [PySem.W.KWk.nosp h.1 h.2, if_neg (by decide), if_neg (by omega)]
theorem fold_B : ∀ (l : List Nat) (st : List Str × Str), (∀ c ∈ l, c = 32 ∨ (33 ≤ c ∧ c ≤ 126)) → l.foldl KWd.step st = l.foldl stB st
  | [], _, _ => rfl
  | c :: l, st, h => by
    rw [List.foldl_cons, List.foldl_cons, step_B (h c List.mem_cons_self)]
    exact fold_B l _ fun d m => h d (List.mem_cons_of_mem _ m)
def Pl (x : Str) : Prop := ∀ c ∈ x.cps.toList, c = 32 ∨ (33 ≤ c ∧ c ≤ 126)
theorem words_wds {x : Str} (h : Pl x) : Txt.words x = wds x := by
  rw [KWd.words_scan]
  unfold KWd.scan wds scB
  rw [fold_B _ _ h]
theorem Pl.app {x y : Str} (h : Pl x) (g : Pl y) : Pl (x ++ y) := fun c m => by
  rw [app_list] at m
  rcases List.mem_append.mp m with m | m
  · exact h c m
  · exact g c m
theorem Wd.pl {x : Str} (h : Wd x) : Pl x := fun c m => .inr (h.2 c m)
theorem Bl.pl {x : Str} (h : Bl x) : Pl x := fun c m => by
  obtain ⟨n, hn⟩ := h
  rw [hn] at m
  exact .inl (List.eq_of_mem_replicate m)
theorem join_pl : ∀ {ws : List Str}, (∀ w ∈ ws, Wd w) → Pl (Str.join " " ws)
  | [], _ => fun c m => by cases m
  | [p], h => (h p List.mem_cons_self).pl
  | p :: q :: r, h => by
    show Pl (p ++ Str.ofString " " ++ Str.join " " (q :: r))
    exact (((h p List.mem_cons_self).pl).app (fun c m => .inl (by rw [sp_list] at m; exact List.mem_singleton.mp m))).app (join_pl fun x m => h x (List.mem_cons_of_mem _ m))
theorem row_pl {l : Str} {ws : List Str} (hl : Bl l) (h : ∀ w ∈ ws, Wd w) : Pl (rowT l ws) := by
  refine hl.pl.app ?_
  show Pl (Builtin.Str.glued " " ws)
  rw [StrLaws.glued_eq_join]
  exact join_pl h
/-! ### words laid on other rows -/
theorem scB_snoc {a b w : Str} {ws : List Str} (h : scB a = (ws, Str.empty)) (hb : Bl b) (hw : Wd w) : scB (a ++ b ++ w ++ " ") = (ws ++ [w], Str.empty) := by
  unfold scB at h ⊢
  rw [app_list, app_list, app_list, List.foldl_append, List.foldl_append, List.foldl_append, h, hb.run, stB_str hw.no, Str.empty_append]
  show List.foldl stB (ws, w) (Str.ofString " ").cps.toList = _
  rw [sp_list]
  show (if w.length = 0 then (ws, w) else (ws ++ [w], Str.empty)) = _
  rw [if_neg hw.1]
theorem wds_of {a : Str} {ws : List Str} (h : scB a = (ws, Str.empty)) : wds a = ws := by
  unfold wds; rw [h]; rfl
end J

set_option Elab.async false
set_option linter.all false
set_option maxRecDepth 100000
set_option maxHeartbeats 4000000
namespace L2
open PySem PySem.Spec PyProof.Rows
/-! ### a text is split -/
theorem strs_vals : ∀ l : List (Str × Tok), Vals ((l.map (·.1)).map V.str) (strValues l)
  | [] => .nil
  | p :: l => .cons ⟨p.2, rfl⟩ (strs_vals l)
section
variable {X : Cx}
theorem new_strs {pins : List (Addr × Obj)} {σ : St} {H : Hp} {s : Shared} {Q : VK} (I : Inv X pins σ H s) (l : List (Str × Tok)) (k : Nat) (hz : l.length ≤ sizeLine)
    (q : ∀ a, H a = none → Q (.ref a) (upd H a (.lst ((l.map (·.1)).map V.str)))) :
    EP X pins σ Q (.ref s.heap.objs.size) { s with toks := k, heap := s.heap.push { cls := .type "list", data := .seq (strValues l).toArray } } :=
  ⟨.ref s.heap.objs.size, _, I.laid (t' := k) (fun b o e => Heap.get?_push_of_some _ e) (Nat.le_refl _)
    (show ObjOk X.prog X.w _ (s.heap.push { cls := .type "list", data := .seq (strValues l).toArray }) _ (.lst ((l.map (·.1)).map V.str)) from
      ⟨by rw [List.length_map, List.length_map]; exact hz, strValues l, _, strs_vals l, Heap.get?_push_size _ rfl⟩), rfl, q _ (I.hok.fresh (Nat.le_refl _))⟩
def rSplit1 : V → List V → Hp → VK → Prop := fun x vs H Q => ∃ z, x = .str z ∧ vs = [.str " "] ∧ z.length + 2 ≤ sizeLine ∧ ∀ l, H l = none → Q (.ref l) (upd H l (.lst ((Txt.split z " ").map V.str)))
theorem mt_split1 : MtR X "str.split" rSplit1 := by
  intro pins s σ H x vs v us Q I rx rv h
  obtain ⟨z, rfl, rfl, hz, q⟩ := h
  obtain ⟨t, rfl⟩ := rx
  obtain ⟨_, rfl, t2, rfl⟩ := rv.one
  have hle := (fact_split z " ").2
  have go : ∀ (l : List (Str × Tok)) (k : Nat), l.map (·.1) = Txt.split z " " → EP X pins σ Q (.ref s.heap.objs.size) { s with toks := k, heap := s.heap.push { cls := .type "list", data := .seq (strValues l).toArray } } := fun l k e => by
    refine new_strs I l k ?_ ?_
    · have : l.length = (Txt.split z " ").length := by rw [← e, List.length_map]
      omega
    · rw [e]; exact q
  cases h1 : (decide (z.length < (Str.ofString " ").length) || decide (Builtin.Str.strKind z < Builtin.Str.strKind (Str.ofString " ")))
  · cases hf : (Builtin.Str.occurrences z " " 0 z.length (z.length + 1)).isEmpty
    · have e1 : Txt.split z " " = Builtin.Str.partsBetween z (Builtin.Str.occurrences z " " 0 z.length (z.length + 1)) (Str.ofString " ").length := by
        unfold Txt.split
        rw [if_neg (ne_true_of_eq_false h1), if_neg (ne_true_of_eq_false hf)]
      refine call_meets F.slot_str_split (typeIs_str _ _ _) F.entry_str_split (F.args_str_split_2 _ _)
        (meets_str_split_sep z " " t t2 h1 (by decide) hf (by omega) (by rw [← e1]; omega)) ?_
      show wants _ _ _ { s with toks := _, heap := s.heap.push { cls := .type "list", data := .seq (strsFrom s.toks (Builtin.Str.partsBetween z (Builtin.Str.occurrences z " " 0 z.length (z.length + 1)) (Str.ofString " ").length)).toArray } }
      rw [strsFrom_eq]
      exact go (numbered s.toks _) _ ((numbered_texts _ _).trans e1.symm)
    · have e1 : Txt.split z " " = [z] := by
        unfold Txt.split
        rw [if_neg (ne_true_of_eq_false h1), if_pos hf]
      exact call_meets F.slot_str_split (typeIs_str _ _ _) F.entry_str_split
        (F.args_str_split_2 _ _) (meets_str_split_not_found z " " t t2 h1 (by decide) hf) (go [(z, t)] s.toks e1.symm)
  · have e1 : Txt.split z " " = [z] := by
      unfold Txt.split
      rw [if_pos h1]
    exact call_meets F.slot_str_split (typeIs_str _ _ _) F.entry_str_split
      (F.args_str_split_2 _ _) (meets_str_split_cannot_occur z " " t t2 h1) (go [(z, t)] s.toks e1.symm)
def rSplit0 : V → List V → Hp → VK → Prop := fun x vs H Q => ∃ z, x = .str z ∧ vs = [] ∧ z.length + 2 ≤ sizeLine ∧ ∀ l, H l = none → Q (.ref l) (upd H l (.lst ((Txt.words z).map V.str)))
theorem mt_split0 : MtR X "str.split" rSplit0 := by
  intro pins s σ H x vs v us Q I rx rv h
  obtain ⟨z, rfl, rfl, hz, q⟩ := h
  obtain ⟨t, rfl⟩ := rx
  cases rv
  have hw := StrLaws.words_weight z
  have go : ∀ (l : List (Str × Tok)) (k : Nat), l.map (·.1) = Txt.words z → EP X pins σ Q (.ref s.heap.objs.size) { s with toks := k, heap := s.heap.push { cls := .type "list", data := .seq (strValues l).toArray } } := fun l k e => by
    refine new_strs I l k ?_ ?_
    · have : l.length = (Txt.words z).length := by rw [← e, List.length_map]
      omega
    · rw [e]; exact q
  have hl : (Builtin.Str.spaceWords z (z.length + 1)).length ≤ sizeLine := by
    have h1 := (StrLaws.sw_weight z).1
    have h2 := StrLaws.len_le_wsum (Builtin.Str.spaceWords z (z.length + 1))
    omega
  refine call_meets F.slot_str_split (typeIs_str _ _ _) F.entry_str_split
    (F.args_str_split_1 _) (meets_str_split_space z t (by omega) hl) ?_
  cases hw : Builtin.Str.spaceWords z (z.length + 1) == [(0, z.length)]
  · simp only [Bool.false_eq_true, if_false]
    rw [strsFrom_eq]
    exact go (numbered s.toks (wordsOf z)) _ ((numbered_texts _ _).trans (by unfold Txt.words; rw [if_neg (ne_true_of_eq_false hw)]))
  · simp only [if_true]
    exact go [(z, t)] s.toks (by unfold Txt.words; rw [if_pos hw]; rfl)
def rStarts : V → List V → Hp → VK → Prop := fun x vs H Q => ∃ z y, x = .str z ∧ vs = [.str y] ∧ Q (.bl (Txt.startswith z y)) H
theorem mt_starts : MtR X "str.startswith" rStarts := by
  intro pins s σ H x vs v us Q I rx rv h
  obtain ⟨z, y, rfl, rfl, q⟩ := h
  obtain ⟨t, rfl⟩ := rx
  obtain ⟨_, rfl, t2, rfl⟩ := rv.one
  exact SC.startswith ⟨.bl _, H, I, rfl, q⟩
def rLstrip : V → List V → Hp → VK → Prop := fun x vs H Q => ∃ z y, x = .str z ∧ vs = [.str y] ∧ z.length ≤ sizeLine ∧ Q (.str (Txt.lstripChars z y)) H
theorem mt_lstrip : MtR X "str.lstrip" rLstrip := by
  intro pins s σ H x vs v us Q I rx rv h
  obtain ⟨z, y, rfl, rfl, hz, q⟩ := h
  obtain ⟨t, rfl⟩ := rx
  obtain ⟨_, rfl, t2, rfl⟩ := rv.one
  exact SC.lstripChars (fun t' k => ⟨.str _, H, I.tok k, ⟨t', rfl⟩, q⟩) hz
def rIntS : List V → Hp → VK → Prop := fun xs H Q => ∃ z n, xs = [.str z] ∧ intText? z = some n ∧ z.length ≤ 640 ∧ Q (.int n) H
theorem call_intS : CallR X (.type "int") rIntS := by
  intro pins s σ H xs us Q I r h
  obtain ⟨z, n, rfl, hn, hl, q⟩ := h
  obtain ⟨u, rfl, t, rfl⟩ := vals1 r
  exact PySem.W.KIN.call_text hn hl ⟨.int n, H, I.tok _, ⟨_, rfl⟩, q⟩
theorem pt_truthK (K : PySem.W.Frag) {a : Expr} {ta : TE} (ha : PE X a ta) (he : ∀ whole, isTrue a X.env whole = (do let v ← whole; standAt a.pos; holding [v] (truthy v))) (h : X.K = K := by rfl) :
    PT X a (fun σ H Q => ta σ H fun x H' => ∃ k, TruV K x H' k ∧ Q k H') := by subst h; exact pt_truth ha he
end
end L2

set_option Elab.async false
set_option linter.all false
set_option maxRecDepth 100000
set_option maxHeartbeats 4000000
namespace J
open PySem L2
/-! ### a walk over a text -/
theorem for_str {z : Str} {g : TG} {tb : TS} {D : Ends} {σ : St} {H : Hp} (Pv : Nat → St → Hp → Prop) (h0 : Pv 0 σ H)
    (hs : ∀ i c σ H, z.cps.toList[i]? = some c → Pv i σ H → g (.str ⟨#[c]⟩) σ H fun σ2 H2 => tb { D with nx := Pv (i + 1), ct := Pv (i + 1), bk := D.nx } σ2 H2) (hd : ∀ σ H, Pv z.cps.toList.length σ H → D.nx σ H) :
    ∃ W : Nat → Nat → St → Hp → Prop, (∃ m, W 0 m σ H) ∧ ∀ i m σ H, W i m σ H →
      ((Its z).stop i H ∧ D.nx σ H) ∨ ((Its z).go i H ∧ ∃ N : St → Hp → Prop, (∀ σ' H', N σ' H' → ∃ m', m' < m ∧ W (i + 1) m' σ' H') ∧ ∀ x H', (Its z).yld i H x H' → g x σ H' fun σ2 H2 => tb { D with nx := N, ct := N, bk := D.nx } σ2 H2) := by
  refine ⟨fun i m σ H => m = z.cps.size - i ∧ i ≤ z.cps.size ∧ Pv i σ H, ⟨z.cps.size, by simp, Nat.zero_le _, h0⟩, ?_⟩
  rintro i m σ H ⟨rfl, hi, p⟩
  by_cases hlt : i < z.cps.size
  · refine .inr ⟨hlt, Pv (i + 1), fun σ' H' p' => ⟨z.cps.size - (i + 1), by omega, rfl, hlt, p'⟩, fun x H' y => ?_⟩
    obtain ⟨e, c, hc, rfl⟩ := y
    subst e
    exact hs i c σ _ (by rw [Array.getElem?_toList]; exact hc) p
  · have e : i = z.cps.size := by omega
    subst e
    exact .inl ⟨Nat.le_refl _, hd σ H (by rw [Array.length_toList]; exact p)⟩
/-! ### signs -/
theorem str_ext {a b : Str} (h : a.cps.toList = b.cps.toList) : a = b := Str.ext' (Array.toList_inj.mp h)
theorem len_list (x : Str) : x.length = x.cps.toList.length := by simp [Str.length]
/-- all signs of x are signs of sg, and there is one -/
def onlyB (sg x : Str) : Bool := x.cps.toList.all (fun c => decide (c ∈ sg.cps.toList)) && !decide (x = "")
theorem in_str (x : Str) (c : Nat) : (!(Builtin.Str.occurrences x ⟨#[c]⟩ 0 x.length 1).isEmpty) = decide (c ∈ x.cps.toList) := StrLaws.found_one x c
def LET : Str := "abcdefghijklmnopqrstuvwxyz"
def FIG : Str := "0123456789"
def kept : List Str := ["jars", "set", "say", "when", "else", "while", "with", "end", "add", "sub", "mul", "less", "same", "not", "both"]
def isNm (x : Str) : Bool := onlyB LET x && !inV (.str x) (kept.map V.str)
def figs (w : Str) : Str := if Txt.startswith w "-" = true then Txt.slice w (some 1) none else w
def isNum (w : Str) : Bool := decide (w = "0") || (onlyB FIG (figs w) && !decide ((figs w).cps.toList.head? = some 48))
def numV (w : Str) : Int := if Txt.startswith w "-" = true then -((NumText.digitsVal (figs w).cps.toList : Nat) : Int) else ((NumText.digitsVal w.cps.toList : Nat) : Int)
theorem dash_mk : Str.ofString "-" = ⟨#[45]⟩ := by decide
theorem starts_dash (w : Str) : Txt.startswith w "-" = decide (w.cps.toList.head? = some 45) := by
  have h := StrLaws.subAt_one w 45 0
  rw [← dash_mk] at h
  unfold Txt.startswith
  rw [Bool.eq_iff_iff, Bool.and_eq_true, decide_eq_true_eq, decide_eq_true_eq, List.head?_eq_getElem?]
  exact h
theorem slice1 (w : Str) : (Txt.slice w (some 1) none).cps.toList = w.cps.toList.drop 1 := by
  by_cases h : 1 ≤ w.cps.toList.length
  · have e : Txt.slice w (some 1) none = _ := StrLaws.sliceText_from (x := w) (i := 1) ⟨by decide, by omega⟩
    rw [e]
    show (w.cps.toList.drop 1).take _ = _
    exact List.take_of_length_le (by rw [List.length_drop]; omega)
  · have h0 : w.length = 0 := by rw [len_list]; omega
    have := len_e h0
    subst this
    decide +kernel
theorem drop_tw {α : Type} (p : α → Bool) : ∀ l : List α, l.drop (l.takeWhile p).length = l.dropWhile p
  | [] => rfl
  | a :: l => by
    rw [List.takeWhile_cons, List.dropWhile_cons]
    cases h : p a
    · simp
    · simpa using drop_tw p l
theorem lstrip_dash (w : Str) : (Txt.lstripChars w "-").cps.toList = w.cps.toList.dropWhile (fun c => c == 45) := by
  have e : Txt.lstripChars w "-" = Builtin.Str.strSub w (stripLo (Str.ofString "-").cps.contains true w) (stripHi (Str.ofString "-").cps.contains false w (stripLo (Str.ofString "-").cps.contains true w)) := PyProof.Rows.stripBy_eq _ _ _ _
  rw [e, StrLaws.strSub_toList]
  have h1 : (Str.ofString "-").cps.contains = fun c => c == 45 := by
    funext c
    rw [dash_mk]
    simp [Bool.beq_eq_decide_eq]
  show List.take (w.length - (w.cps.toList.takeWhile (Str.ofString "-").cps.contains).length) (w.cps.toList.drop (w.cps.toList.takeWhile (Str.ofString "-").cps.contains).length) = _
  rw [h1, drop_tw]
  refine List.take_of_length_le ?_
  have := congrArg List.length (drop_tw (fun c => c == 45) w.cps.toList)
  rw [List.length_drop] at this
  rw [len_list]
  omega
/-- the figures of a number that is read -/
theorem fig_sign {c : Nat} : c ∈ FIG.cps.toList ↔ 48 ≤ c ∧ c ≤ 57 := by
  have e : FIG.cps.toList = [48, 49, 50, 51, 52, 53, 54, 55, 56, 57] := by decide +kernel
  rw [e]
  simp only [List.mem_cons, List.not_mem_nil, or_false]
  omega
theorem let_sign {c : Nat} : c ∈ LET.cps.toList ↔ 97 ≤ c ∧ c ≤ 122 := by
  have e : LET.cps.toList = [97, 98, 99, 100, 101, 102, 103, 104, 105, 106, 107, 108, 109, 110, 111, 112, 113, 114, 115, 116, 117, 118, 119, 120, 121, 122] := by decide +kernel
  rw [e]
  simp only [List.mem_cons, List.not_mem_nil, or_false]
  omega
theorem only_all {sg x : Str} (h : onlyB sg x = true) : ∀ c ∈ x.cps.toList, c ∈ sg.cps.toList := by
  unfold onlyB at h
  rw [Bool.and_eq_true, List.all_eq_true] at h
  exact fun c m => of_decide_eq_true (h.1 c m)
theorem only_ne {sg x : Str} (h : onlyB sg x = true) : x ≠ "" := by
  unfold onlyB at h
  rw [Bool.and_eq_true] at h
  intro e
  rw [e] at h
  exact absurd h.2 (by decide)
theorem dw_self {l : List Nat} (h : ∀ c ∈ l, 48 ≤ c ∧ c ≤ 57) : l.dropWhile (fun c => c == 45) = l := by
  cases l with
  | nil => rfl
  | cons c l =>
    have := h c List.mem_cons_self
    rw [List.dropWhile_cons, if_neg (by simp; omega)]
theorem figs_list (w : Str) : (figs w).cps.toList = if w.cps.toList.head? = some 45 then w.cps.toList.drop 1 else w.cps.toList := by
  unfold figs
  rw [starts_dash]
  by_cases h : w.cps.toList.head? = some 45
  · rw [if_pos (by simpa using h), if_pos h, slice1]
  · rw [if_neg (by simpa using h), if_neg h]
theorem num_digits {w : Str} (h : isNum w = true) : ∀ c ∈ (figs w).cps.toList, 48 ≤ c ∧ c ≤ 57 := by
  unfold isNum at h
  rw [Bool.or_eq_true] at h
  rcases h with h | h
  · have := of_decide_eq_true h
    subst this
    decide +kernel
  · rw [Bool.and_eq_true] at h
    exact fun c m => fig_sign.mp (only_all h.1 c m)
theorem lstrip_num {w : Str} (h : isNum w = true) : (Txt.lstripChars w "-").cps.toList = (figs w).cps.toList := by
  have hd := num_digits h
  rw [lstrip_dash]
  rw [figs_list] at hd ⊢
  by_cases e : w.cps.toList.head? = some 45
  · rw [if_pos e] at hd ⊢
    match hl : w.cps.toList, e, hd with
    | c :: l, e, hd =>
      have : c = 45 := by simpa using e
      subst this
      rw [List.dropWhile_cons, if_pos (by decide)]
      exact dw_self hd
  · rw [if_neg e] at hd ⊢
    exact dw_self hd
theorem numV_eq (w : Str) : numV w = if Txt.startswith w "-" = true then -((NumText.digitsVal (figs w).cps.toList : Nat) : Int) else ((NumText.digitsVal (figs w).cps.toList : Nat) : Int) := by
  unfold numV
  by_cases h : Txt.startswith w "-" = true
  · rw [if_pos h, if_pos h]
  · rw [if_neg h, if_neg h]
    unfold figs
    rw [if_neg h]
/-! ### a number as it is written -/
theorem numT_nat (n : Nat) : (numT (n : Int)).cps.toList = (Nat.toDigits 10 n).map Char.toNat := PySem.W.KIN.signs_num n
theorem dig_sign {n c : Nat} (h : c ∈ (Nat.toDigits 10 n).map Char.toNat) : 48 ≤ c ∧ c ≤ 57 := by
  obtain ⟨ch, hch, e⟩ := List.mem_map.mp h
  have r := PyProof.Rows.digit_range (Nat.isDigit_of_mem_toDigits (by decide) (by decide) hch)
  rw [← e]
  exact r
theorem dig_ne (n : Nat) : (Nat.toDigits 10 n).map Char.toNat ≠ [] := by
  intro e
  have h := PySem.toDigits_len_ge 10 n
  rw [List.map_eq_nil_iff.mp e] at h
  exact absurd h (by decide)
theorem dig_head : ∀ n : Nat, n ≠ 0 → ((Nat.toDigits 10 n).map Char.toNat).head? ≠ some 48 := by
  intro n
  induction n using Nat.strongRecOn with
  | _ m ih =>
    intro h0
    by_cases h : m < 10
    · rw [Nat.toDigits_of_lt_base h]
      have : ∀ d : Nat, d < 10 → d ≠ 0 → ([Nat.digitChar d].map Char.toNat).head? ≠ some 48 := by decide
      exact this m h h0
    · have hm : m % 10 < 10 := Nat.mod_lt m (by decide)
      have t : Nat.toDigits 10 (m / 10) ++ Nat.toDigits 10 (m % 10) = Nat.toDigits 10 (10 * (m / 10) + m % 10) := Nat.toDigits_append_toDigits (by decide) (by omega) hm
      rw [Nat.div_add_mod] at t
      rw [← t, List.map_append]
      have := ih (m / 10) (by omega) (by omega)
      have ne := dig_ne (m / 10)
      rw [List.head?_append]
      cases e : ((Nat.toDigits 10 (m / 10)).map Char.toNat).head? with
      | none => exact absurd (List.head?_eq_none_iff.mp e) ne
      | some c => rw [e] at this; simpa using this
theorem not_dash {n : Nat} : ((Nat.toDigits 10 n).map Char.toNat).head? ≠ some 45 := fun e => by
  have h := dig_sign (List.mem_of_mem_head? e)
  omega
/-- how a number lies in its text -/
theorem numT_figs (i : Int) : (figs (numT i)).cps.toList = (Nat.toDigits 10 i.natAbs).map Char.toNat ∧ Txt.startswith (numT i) "-" = decide (i < 0) := by
  by_cases h : i < 0
  · obtain ⟨n, rfl⟩ : ∃ n : Nat, i = -((n : Int) + 1) := ⟨(-i - 1).toNat, by omega⟩
    have e : (numT (-((n : Int) + 1))).cps.toList = 45 :: (Nat.toDigits 10 (n + 1)).map Char.toNat := by
      rw [numT_neg, app_list, show (n : Int) + 1 = ((n + 1 : Nat) : Int) from rfl, numT_nat, dash_mk]
      rfl
    rw [figs_list, starts_dash, e]
    have ea : (-((n : Int) + 1)).natAbs = n + 1 := by omega
    rw [ea]
    exact ⟨by simp, by simp⟩
  · obtain ⟨n, rfl⟩ := Int.eq_ofNat_of_zero_le (show 0 ≤ i by omega)
    rw [figs_list, starts_dash, numT_nat, if_neg not_dash]
    exact ⟨rfl, by simp only [not_dash]; simp⟩
theorem numT_isNum (i : Int) : isNum (numT i) = true := by
  unfold isNum
  obtain ⟨h1, h2⟩ := numT_figs i
  by_cases h0 : i = 0
  · subst h0
    decide +kernel
  · have hn : i.natAbs ≠ 0 := by omega
    rw [Bool.or_eq_true]
    refine .inr ?_
    rw [Bool.and_eq_true]
    refine ⟨?_, ?_⟩
    · unfold onlyB
      rw [Bool.and_eq_true, List.all_eq_true]
      refine ⟨fun c m => ?_, ?_⟩
      · rw [h1] at m
        exact decide_eq_true (fig_sign.mpr (dig_sign m))
      · rw [Bool.not_eq_true', decide_eq_false_iff_not]
        intro e
        rw [e] at h1
        exact dig_ne _ h1.symm
    · rw [h1, Bool.not_eq_true', decide_eq_false_iff_not]
      exact dig_head _ hn
theorem numT_val (i : Int) : numV (numT i) = i := by
  obtain ⟨h1, h2⟩ := numT_figs i
  rw [numV_eq, h1, h2, PySem.W.KIN.val_back]
  by_cases h : i < 0
  · rw [if_pos (by simpa using h)]; omega
  · rw [if_neg (by simpa using h)]; omega
theorem fig_wd {x : Str} (h0 : x.length ≠ 0) (h : ∀ c ∈ x.cps.toList, (48 ≤ c ∧ c ≤ 57) ∨ c = 45) : Wd x := ⟨h0, fun c m => by have := h c m; omega⟩
theorem numT_signs (i : Int) : (∀ c ∈ (numT i).cps.toList, (48 ≤ c ∧ c ≤ 57) ∨ c = 45) ∧ (numT i).length ≠ 0 := by
  by_cases h : i < 0
  · obtain ⟨n, rfl⟩ : ∃ n : Nat, i = -((n : Int) + 1) := ⟨(-i - 1).toNat, by omega⟩
    have e : (numT (-((n : Int) + 1))).cps.toList = 45 :: (Nat.toDigits 10 (n + 1)).map Char.toNat := by
      rw [numT_neg, app_list, show (n : Int) + 1 = ((n + 1 : Nat) : Int) from rfl, numT_nat, dash_mk]
      rfl
    rw [len_list, e]
    refine ⟨fun c m => ?_, by simp⟩
    rcases List.mem_cons.mp m with rfl | m
    · exact .inr rfl
    · exact .inl (dig_sign m)
  · obtain ⟨n, rfl⟩ := Int.eq_ofNat_of_zero_le (show 0 ≤ i by omega)
    rw [len_list, numT_nat]
    exact ⟨fun c m => .inl (dig_sign m), fun e => dig_ne n (List.length_eq_zero_iff.mp e)⟩
theorem numT_wd (i : Int) : Wd (numT i) := fig_wd (numT_signs i).2 (numT_signs i).1
/-- it is no name and no kept word -/
theorem num_notName {w : Str} (h0 : w.length ≠ 0) (h : ∀ c ∈ w.cps.toList, (48 ≤ c ∧ c ≤ 57) ∨ c = 45) : onlyB LET w = false := by
  cases e : onlyB LET w
  · rfl
  · exfalso
    match hl : w.cps.toList with
    | [] => rw [len_list, hl] at h0; exact h0 rfl
    | c :: l =>
      have m : c ∈ w.cps.toList := by rw [hl]; exact List.mem_cons_self
      have a := let_sign.mp (only_all e c m)
      have b := h c m
      omega
theorem nm_wd {x : Str} (h : isNm x = true) : Wd x := by
  unfold isNm at h
  rw [Bool.and_eq_true] at h
  refine ⟨fun e => only_ne h.1 ?_, fun c m => ?_⟩
  · have := len_e e
    subst this; rfl
  · have := let_sign.mp (only_all h.1 c m)
    omega
/-- a digit as a number -/
theorem int_digit {c : Nat} (h : 48 ≤ c ∧ c ≤ 57) : intText? ⟨#[c]⟩ = some ((c - 48 : Nat) : Int) := by
  have := PySem.intText_digits (x := ⟨#[c]⟩) (fun d m => by rw [List.mem_singleton.mp m]; exact h) (by simp) (by show 1 ≤ 4300; decide)
  rw [this]
  show some (((0 * 10 + (c - 48) : Nat)) : Int) = _
  congr 2
  omega
end J

set_option Elab.async false
set_option linter.all false
set_option maxRecDepth 100000
set_option maxHeartbeats 4000000
namespace J
open PySem L2
/-- a def of a class, as a caller wants it -/
structure MDef (K : PySem.W.Frag) (m q : Str) (st : Stmt) (ps : List Str) (f : Addr) (fd : FuncData) : Prop where
  F : Fun K m q st f fd
  b : Binds K fd ps []
/-! ### attributes by name -/
/-- these attributes and no others -/
structure Has (fs m : List (Str × V)) : Prop where
  at_ : ∀ f, fs.lookup f = m.lookup f
  len : fs.length ≤ 50
theorem Has.nil : Has [] [] := ⟨fun _ => rfl, by decide⟩
theorem keysL {f : Str} : ∀ {fs : List (Str × V)} {v w : V}, fs.lookup f = some w → (putF f v fs).length = fs.length
  | [], _, _, h => by simp at h
  | (k, x) :: r, v, w, h => by
    rw [show putF f v ((k, x) :: r) = (if k = f then (k, v) :: r else (k, x) :: putF f v r) from rfl]
    by_cases e : k = f
    · rw [if_pos e]; rfl
    · rw [if_neg e, List.length_cons, List.length_cons]
      have h' : r.lookup f = some w := by
        rw [List.lookup_cons] at h
        have : (f == k) = false := by
          rw [beq_eq_false_iff_ne]; exact fun z => e z.symm
        rw [this] at h
        exact h
      rw [keysL h']
theorem Has.put {fs m m' : List (Str × V)} {f : Str} {v w : V} (h : Has fs m) (hw : m.lookup f = some w) (hm : ∀ g, m'.lookup g = if g = f then some v else m.lookup g) : Has (putF f v fs) m' :=
  ⟨fun g => by rw [lookup_putF, hm, h.at_], by rw [keysL ((h.at_ f).trans hw)]; exact h.len⟩
theorem Has.new {fs m m' : List (Str × V)} {f : Str} {v : V} (h : Has fs m) (hl : fs.length ≤ 49) (hm : ∀ g, m'.lookup g = if g = f then some v else m.lookup g) : Has (putF f v fs) m' ∧ (putF f v fs).length ≤ fs.length + 1 :=
  ⟨⟨fun g => by rw [lookup_putF, hm, h.at_], by have := length_putF f v fs; omega⟩, length_putF f v fs⟩
/-! ### the machine's object -/
theorem lk_cons (f g : Str) (v : V) (r : List (Str × V)) : List.lookup f ((g, v) :: r) = if f = g then some v else List.lookup f r := by
  rw [List.lookup_cons]
  by_cases h : f = g
  · subst h; simp
  · have : (f == g) = false := by rw [beq_eq_false_iff_ne]; exact h
    rw [this, if_neg h]
/-! ### a run of the machine, in n cards, to its end -/
end J
namespace J
open PySem L2
theorem lk_snoc {m : List (Str × V)} {f : Str} {v : V} (h : m.lookup f = none) (g : Str) : (m ++ [(f, v)]).lookup g = if g = f then some v else m.lookup g := by
  induction m with
  | nil => rw [List.nil_append, lk_cons]
  | cons x m ih =>
    obtain ⟨k, y⟩ := x
    rw [lk_cons] at h
    rw [List.cons_append, lk_cons, lk_cons]
    by_cases e : f = k
    · rw [if_pos e] at h; cases h
    · rw [if_neg e] at h
      by_cases e1 : g = k
      · rw [if_pos e1, if_pos e1]
        rw [if_neg]
        intro z
        exact e (z.symm.trans e1)
      · rw [if_neg e1, if_neg e1]
        exact ih h
theorem Has.snoc {fs m : List (Str × V)} {f : Str} {v : V} (h : Has fs m) (hl : fs.length ≤ 49) (hn : m.lookup f = none) : Has (putF f v fs) (m ++ [(f, v)]) ∧ (putF f v fs).length ≤ fs.length + 1 := h.new hl (lk_snoc hn)
end J

set_option Elab.async false
set_option linter.all false
set_option maxRecDepth 100000
set_option maxHeartbeats 4000000
namespace J
open PySem L2
/-! ### the reader's object -/
def rdf (lw : Addr) (k : Int) : List (Str × V) := [("words", .ref lw), ("place", .int k)]
theorem rdf_words (lw : Addr) (k : Int) : (rdf lw k).lookup ("words" : Str) = some (.ref lw) := by
  unfold rdf; rw [lk_cons, if_pos rfl]
theorem rdf_place (lw : Addr) (k : Int) : (rdf lw k).lookup ("place" : Str) = some (.int k) := by
  unfold rdf; rw [lk_cons, if_neg (by decide +kernel), lk_cons, if_pos rfl]
theorem rdf_no {lw : Addr} {k : Int} {m : Str} (h : ¬ m = "words" ∧ ¬ m = "place") : (rdf lw k).lookup m = none := by
  unfold rdf; rw [lk_cons, if_neg h.1, lk_cons, if_neg h.2]; rfl
theorem rdf_put (lw : Addr) (k k' : Int) (g : Str) : (rdf lw k').lookup g = if g = "place" then some (.int k') else (rdf lw k).lookup g := by
  by_cases h : g = "place"
  · subst h; rw [if_pos rfl]; exact rdf_place ..
  · rw [if_neg h]; unfold rdf; simp only [lk_cons, if_neg h]
structure RdAt (C : Addr) (H : Hp) (p lw : Addr) (ws : List Str) (k : Nat) : Prop where
  ob : ∃ dx fs, H p = some (.ins C dx fs) ∧ Has fs (rdf lw (k : Int))
  ew : H lw = some (.lst (ws.map V.str))
theorem RdAt.ne {C : Addr} {H : Hp} {p lw : Addr} {ws : List Str} {k : Nat} (h : RdAt C H p lw ws k) : p ≠ lw := by
  obtain ⟨dx, fs, e, _⟩ := h.ob
  exact ne_of e h.ew (fun z => by cases z)
theorem RdAt.tup {C : Addr} {H H' : Hp} {p lw : Addr} {ws : List Str} {k : Nat} (h : RdAt C H p lw ws k) (B : But p H H') : TupLe H H' := fun a xs e => by
  obtain ⟨dx, fs, e1, _⟩ := h.ob
  exact B a _ (ne_of e e1 (fun z => by cases z)) e
theorem RdAt.neT {C : Addr} {H : Hp} {p lw : Addr} {ws : List Str} {k : Nat} (h : RdAt C H p lw ws k) {a : Addr} {o : HO} (e : H a = some o) (hn : ∀ C dx fs, o ≠ .ins C dx fs) : a ≠ p := by
  obtain ⟨dx, fs, e1, _⟩ := h.ob
  exact ne_of e e1 (fun z => hn _ _ _ z)
/-- the place is stored -/
theorem RdAt.put {C : Addr} {H : Hp} {p lw dx : Addr} {ws : List Str} {k k' : Nat} {fs' : List (Str × V)} (h : RdAt C H p lw ws k) (hf : Has fs' (rdf lw (k' : Int))) : RdAt C (upd H p (.ins C dx fs')) p lw ws k' ∧ But p H (upd H p (.ins C dx fs')) :=
  ⟨⟨⟨dx, fs', upd_same, hf⟩, by rw [upd_ne h.ne.symm]; exact h.ew⟩, but_upd _⟩
/-- something else changes -/
theorem RdAt.but {C : Addr} {H H' : Hp} {p lw : Addr} {ws : List Str} {k : Nat} (h : RdAt C H p lw ws k) (S : Same H H') : RdAt C H' p lw ws k := by
  obtain ⟨dx, fs, e, hf⟩ := h.ob
  exact ⟨⟨dx, fs, S _ _ e, hf⟩, S _ _ h.ew⟩
theorem RdAt.upd {C : Addr} {H : Hp} {p lw l : Addr} {ws : List Str} {k : Nat} (h : RdAt C H p lw ws k) (n1 : l ≠ p) (n2 : l ≠ lw) (o : HO) : RdAt C (upd H l o) p lw ws k := by
  obtain ⟨dx, fs, e, hf⟩ := h.ob
  exact ⟨⟨dx, fs, by rw [upd_ne n1.symm]; exact e, hf⟩, by rw [upd_ne n2.symm]; exact h.ew⟩
theorem But.at {p l : Addr} {H H' : Hp} (B : But p H H') (h : H l = none) (o : HO) : But p H (L2.upd H' l o) := fun b u n q => by rw [upd_ne (ne_of_none q h)]; exact B b u n q
/-- the word at a place; none is told as an empty one -/
def atW (ws : List Str) (k : Nat) : Str := (ws[k]?).getD ""
theorem atW_of {ws : List Str} {k : Nat} {x : Str} {r : List Str} (h : ws.drop k = x :: r) : atW ws k = x ∧ ws.drop (k + 1) = r ∧ ws[k]? = some x := by
  have h1 : ws[k]? = some x := by
    have := List.getElem?_drop (xs := ws) (i := k) (j := 0)
    rw [h] at this
    simpa using this.symm
  refine ⟨by unfold atW; rw [h1]; rfl, ?_, h1⟩
  have : ws.drop (k + 1) = (ws.drop k).drop 1 := by rw [List.drop_drop]
  rw [this, h]
  rfl
theorem drop_of {ws a b : List Str} {k : Nat} (h : ws.drop k = a ++ b) : ws.drop (k + a.length) = b := by
  have : ws.drop (k + a.length) = (ws.drop k).drop a.length := by rw [List.drop_drop]
  rw [this, h]
  simp
/-! ### words that are kept -/
theorem inV_iff {x : Str} : ∀ {ns : List Str}, inV (.str x) (ns.map V.str) = true ↔ x ∈ ns
  | [] => by constructor <;> intro h <;> cases h
  | y :: ns => by
    show (eqV (.str y) (.str x) || inV (.str x) (ns.map V.str)) = true ↔ _
    rw [Bool.or_eq_true, inV_iff, List.mem_cons]
    have : eqV (.str y) (.str x) = true ↔ x = y := by
      constructor
      · intro h
        have h2 : y = x := by simpa [eqV] using h
        exact h2.symm
      · intro h
        subst h
        simp [eqV]
    rw [this]
theorem inV_no {x : Str} {ns : List Str} (h : x ∉ ns) : inV (.str x) (ns.map V.str) = false := by
  cases e : inV (.str x) (ns.map V.str)
  · rfl
  · exact absurd (inV_iff.mp e) h
theorem flatS (ns : List Str) : (ns.map V.str).all flatV = true := by
  rw [List.all_map, List.all_eq_true]
  intro x _
  rfl
theorem nm_kept {x : Str} (h : isNm x = true) : x ∉ kept := by
  unfold isNm at h
  rw [Bool.and_eq_true, Bool.not_eq_true'] at h
  intro m
  rw [inV_iff.mpr m] at h
  exact absurd h.2 (by decide)
theorem kept_let : ∀ x ∈ kept, onlyB LET x = true := by decide +kernel
theorem nm_no {x : Str} {ns : List Str} (h : isNm x = true) (hs : ∀ y ∈ ns, y ∈ kept) : inV (.str x) (ns.map V.str) = false := inV_no fun m => nm_kept h (hs x m)
theorem num_no {i : Int} {ns : List Str} (hs : ∀ y ∈ ns, y ∈ kept) : inV (.str (numT i)) (ns.map V.str) = false := inV_no fun m => by
  have h1 := kept_let _ (hs _ m)
  rw [num_notName (numT_signs i).2 (numT_signs i).1] at h1
  exact absurd h1 (by decide)
theorem num_nm (i : Int) : isNm (numT i) = false := by
  unfold isNm
  rw [num_notName (numT_signs i).2 (numT_signs i).1]
  rfl
theorem kept_nm {x : Str} (h : x ∈ kept) : isNm x = false := by
  unfold isNm
  rw [inV_iff.mpr h]
  simp
/-! ### what can be read: names are names, no number is too long -/
def Sm.gd : Sm Str → Prop
  | .num i => (numT i).length ≤ 1000
  | .name x => isNm x = true
  | .op _ a b => a.gd ∧ b.gd
def Ts.gd : Ts → Prop
  | .less a b => a.gd ∧ b.gd
  | .same a b => a.gd ∧ b.gd
  | .not t => t.gd
  | .both t u => t.gd ∧ u.gd
def Bk.gd : Bk → Prop
  | .nil => True
  | .set x a r => isNm x = true ∧ a.gd ∧ a.dp ≤ 20 ∧ r.gd
  | .say a r => a.gd ∧ a.dp ≤ 20 ∧ r.gd
  | .when t b c r => t.gd ∧ t.dp ≤ 20 ∧ b.gd ∧ c.gd ∧ r.gd
  | .whil t b r => t.gd ∧ t.dp ≤ 20 ∧ b.gd ∧ r.gd
  | .wit x a b r => isNm x = true ∧ a.gd ∧ a.dp ≤ 20 ∧ b.gd ∧ r.gd
/-- its words, in their order -/
def Bk.ws : Bk → List Str
  | .nil => []
  | .set x a r => "set" :: x :: (a.words ++ r.ws)
  | .say a r => "say" :: (a.words ++ r.ws)
  | .when t b c r => "when" :: (t.words ++ (b.ws ++ (("else" : Str) :: (c.ws ++ (("end" : Str) :: r.ws)))))
  | .whil t b r => "while" :: (t.words ++ (b.ws ++ (("end" : Str) :: r.ws)))
  | .wit x a b r => "with" :: x :: (a.words ++ (b.ws ++ (("end" : Str) :: r.ws)))
theorem Bk.app_assoc : ∀ a b c : Bk, (a.app b).app c = a.app (b.app c)
  | .nil, _, _ => rfl
  | .set x s r, b, c => congrArg (Bk.set x s) (Bk.app_assoc r b c)
  | .say s r, b, c => congrArg (Bk.say s) (Bk.app_assoc r b c)
  | .when t d e r, b, c => congrArg (Bk.when t d e) (Bk.app_assoc r b c)
  | .whil t d r, b, c => congrArg (Bk.whil t d) (Bk.app_assoc r b c)
  | .wit x s d r, b, c => congrArg (Bk.wit x s d) (Bk.app_assoc r b c)
def ordW : List Str := ["set", "say", "when", "while", "with"]
def sumW : List Str := ["add", "sub", "mul"]
end J

set_option Elab.async false
set_option linter.all false
set_option maxRecDepth 100000
set_option maxHeartbeats 4000000
namespace J
open PySem L2
/-! ### the names that are drawn -/
def tailA : Nat → List Nat
  | 0 => []
  | 1 => [103]
  | 2 => [103, 104]
  | 3 => [103, 104, 105, 106, 107, 108, 109]
  | 4 => [103, 103, 103]
  | 5 => [103, 103, 103, 103]
  | 6 => [103, 104, 103, 103, 103]
  | 7 => [103, 104, 105, 106, 107, 108, 109, 103, 103, 103]
  | _ => [103, 103, 103, 103, 103, 103]
def ghi : List Nat := [103, 104, 105, 106, 107, 108]
def lett (i : Int) : Nat := 97 + (i % 26).toNat
def namA (cell : Int) (j : Nat) : List Nat := lett (cell / 5 + 7 * (0 + (j : Int)) * (if decide (0 < cell % 3) = true then 1 else 0)) :: (if cell % 3 = 2 then [] else tailA j)
def namB (size spot cell : Int) (j : Nat) : List Nat := ghi.take spot.toNat ++ [lett (cell / 5 + 7 * (0 + (j : Int)))] ++ (ghi.drop (spot + 1).toNat).take (size - (spot + 1)).toNat
def keptL : List (List Nat) := [[106, 97, 114, 115], [115, 101, 116], [115, 97, 121], [119, 104, 101, 110], [101, 108, 115, 101], [119, 104, 105, 108, 101], [119, 105, 116, 104], [101, 110, 100], [97, 100, 100], [115, 117, 98], [109, 117, 108], [108, 101, 115, 115], [115, 97, 109, 101], [110, 111, 116], [98, 111, 116, 104]]
theorem keptL_eq : kept.map (fun x => x.cps.toList) = keptL := by decide +kernel
theorem isNm_of {x : Str} {l : List Nat} (e : x.cps.toList = l) (h : (l.all (fun c => decide (97 ≤ c) && decide (c ≤ 122)) && !l.isEmpty && !keptL.contains l) = true) : isNm x = true := by
  rw [Bool.and_eq_true, Bool.and_eq_true] at h
  obtain ⟨⟨h1, h2⟩, h3⟩ := h
  unfold isNm onlyB
  rw [Bool.and_eq_true, Bool.and_eq_true]
  refine ⟨⟨?_, ?_⟩, ?_⟩
  · rw [List.all_eq_true] at h1 ⊢
    intro c m
    rw [e] at m
    have := h1 c m
    rw [Bool.and_eq_true, decide_eq_true_eq, decide_eq_true_eq] at this
    exact decide_eq_true (let_sign.mpr this)
  · rw [Bool.not_eq_true', decide_eq_false_iff_not]
    intro z
    rw [z] at e
    have : l = [] := by rw [← e]; decide
    rw [this] at h2
    exact absurd h2 (by decide)
  · rw [Bool.not_eq_true'] at h3 ⊢
    refine inV_no fun m => ?_
    have : l ∈ keptL := by rw [← keptL_eq, ← e]; exact List.mem_map.mpr ⟨x, m, rfl⟩
    rw [List.contains_iff_mem.mpr this] at h3
    exact absurd h3 (by decide)
def okL (l : List Nat) : Bool := l.all (fun c => decide (97 ≤ c) && decide (c ≤ 122)) && !l.isEmpty && !keptL.contains l
theorem okA : ∀ r < 26, ∀ j < 9, okL ((97 + r) :: tailA j) = true := by decide +kernel
theorem okB : ∀ r < 26, ∀ n < 7, ∀ m < n, okL (ghi.take m ++ [97 + r] ++ (ghi.drop (m + 1)).take (n - (m + 1))) = true := by decide +kernel
theorem lett_lt (i : Int) : ∃ r < 26, lett i = 97 + r := ⟨(i % 26).toNat, by omega, rfl⟩
theorem namA_nm {x : Str} {cell : Int} {j : Nat} (hj : j < 9) (e : x.cps.toList = namA cell j) : isNm x = true := by
  obtain ⟨r, hr, el⟩ := lett_lt (cell / 5 + 7 * (0 + (j : Int)) * (if decide (0 < cell % 3) = true then 1 else 0))
  unfold namA at e
  rw [el] at e
  by_cases h2 : cell % 3 = 2
  · rw [if_pos h2] at e
    exact isNm_of e (okA r hr 0 (by decide))
  · rw [if_neg h2] at e
    exact isNm_of e (okA r hr j hj)
theorem namB_nm {x : Str} {size spot cell : Int} {j : Nat} (h1 : 0 ≤ spot) (h2 : spot < size) (h3 : size ≤ 6) (e : x.cps.toList = namB size spot cell j) : isNm x = true := by
  obtain ⟨r, hr, el⟩ := lett_lt (cell / 5 + 7 * (0 + (j : Int)))
  unfold namB at e
  rw [el] at e
  have := okB r hr size.toNat (by omega) spot.toNat (by omega)
  have e1 : (spot + 1).toNat = spot.toNat + 1 := by omega
  have e2 : (size - (spot + 1)).toNat = size.toNat - (spot.toNat + 1) := by omega
  rw [e1, e2] at e
  exact isNm_of e this
theorem tail_inj : ∀ i < 9, ∀ j < 9, tailA i = tailA j → i = j := by decide +kernel
theorem namA_inj {cell : Int} {i j : Nat} (hi : i < 9) (hj : j < 9) (e : namA cell i = namA cell j) : i = j := by
  unfold namA lett at e
  rw [List.cons.injEq] at e
  obtain ⟨e1, e2⟩ := e
  by_cases h0 : decide (0 < cell % 3) = true
  · rw [if_pos h0] at e1
    omega
  · have h0' : ¬ 0 < cell % 3 := by simpa using h0
    have h2 : ¬ cell % 3 = 2 := by omega
    rw [if_neg h2, if_neg h2] at e2
    exact tail_inj i hi j hj e2
theorem namB_inj {size spot cell : Int} {i j : Nat} (hi : i < 9) (hj : j < 9) (e : namB size spot cell i = namB size spot cell j) : i = j := by
  unfold namB lett at e
  rw [List.append_assoc, List.append_assoc] at e
  have e1 := List.append_cancel_left e
  rw [List.singleton_append, List.singleton_append, List.cons.injEq] at e1
  omega
theorem nodup_by {ns : List Str} (h : ∀ (i j : Nat) (x : Str), ns[i]? = some x → ns[j]? = some x → i = j) : ns.Nodup := by
  unfold List.Nodup
  rw [List.pairwise_iff_getElem]
  intro i j hi hj hij e
  have := h i j ns[i] (List.getElem?_eq_getElem hi) (by rw [e]; exact List.getElem?_eq_getElem hj)
  omega
structure NmOk (ns : List Str) : Prop where
  nm : ∀ x ∈ ns, isNm x = true
  nd : ns.Nodup
  len : ns.length ≤ 9
  sm : ∀ x ∈ ns, x.length ≤ 100
theorem nmOk_of {ns : List Str} {f : Nat → List Nat} (hl : ns.length ≤ 9) (h : ∀ i x, ns[i]? = some x → x.cps.toList = f i) (hn : ∀ i < 9, ∀ x : Str, x.cps.toList = f i → isNm x = true ∧ x.length ≤ 100) (hi : ∀ i < 9, ∀ j < 9, f i = f j → i = j) : NmOk ns := by
  have lt : ∀ i x, ns[i]? = some x → i < 9 := fun i x e => by have := (List.getElem?_eq_some_iff.mp e).1; omega
  have at_ : ∀ x ∈ ns, ∃ i < 9, x.cps.toList = f i := fun x m => by
    obtain ⟨i, e⟩ := List.getElem?_of_mem m
    exact ⟨i, lt i x e, h i x e⟩
  refine ⟨fun x m => ?_, nodup_by fun i j x e1 e2 => hi i (lt i x e1) j (lt j x e2) ((h i x e1).symm.trans (h j x e2)), hl, fun x m => ?_⟩
  · obtain ⟨i, h9, e⟩ := at_ x m
    exact (hn i h9 x e).1
  · obtain ⟨i, h9, e⟩ := at_ x m
    exact (hn i h9 x e).2
theorem namA_ok {ns : List Str} {cell : Int} (hl : ns.length ≤ 9) (h : ∀ i x, ns[i]? = some x → x.cps.toList = namA cell i) : NmOk ns :=
  nmOk_of hl h (fun i hi x e => ⟨namA_nm hi e, by
    rw [len_list, e]
    unfold namA
    rw [List.length_cons]
    have : ∀ i < 9, (tailA i).length ≤ 20 := by decide +kernel
    have := this i hi
    split
    · simp
    · omega⟩) fun i hi j hj e => namA_inj hi hj e
theorem namB_ok {ns : List Str} {size spot cell : Int} (h1 : 0 ≤ spot) (h2 : spot < size) (h3 : size ≤ 6) (hl : ns.length ≤ 9) (h : ∀ i x, ns[i]? = some x → x.cps.toList = namB size spot cell i) : NmOk ns :=
  nmOk_of hl h (fun i hi x e => ⟨namB_nm h1 h2 h3 e, by
    rw [len_list, e]
    unfold namB
    rw [List.length_append, List.length_append, List.length_take, List.length_take]
    have : ghi.length = 6 := rfl
    rw [List.length_drop, this]
    show min _ 6 + 1 + _ ≤ 100
    omega⟩) fun i hi j hj e => namB_inj hi hj e
/-- the letter at a place -/
theorem at_let {i : Int} (h0 : 0 ≤ i) (h1 : i < 26) : atI LET.cps.toList i = some (97 + i.toNat) := by
  obtain ⟨n, rfl⟩ := Int.eq_ofNat_of_zero_le h0
  have e : LET.cps.toList = [97, 98, 99, 100, 101, 102, 103, 104, 105, 106, 107, 108, 109, 110, 111, 112, 113, 114, 115, 116, 117, 118, 119, 120, 121, 122] := by decide +kernel
  refine atI_nat ?_
  rw [e]
  have : ∀ n < 26, ([97, 98, 99, 100, 101, 102, 103, 104, 105, 106, 107, 108, 109, 110, 111, 112, 113, 114, 115, 116, 117, 118, 119, 120, 121, 122] : List Nat)[n]? = some (97 + n) := by decide +kernel
  exact this n (by omega)
theorem at_lett (i : Int) : atI LET.cps.toList (i % 26) = some (lett i) := at_let (by omega) (by omega)
theorem more_tail {k : Nat} (h : k < 9) : ∃ z : Str, z.length ≤ 7 ∧ atI [V.str "", V.str "g", V.str "gh", V.str "ghijklm"] ((0 + (k : Int)) % 4) = some (.str z) ∧ (z ++ repS "g" ((0 + (k : Int)) / 4 * 3)).cps.toList = tailA k := by
  have h9 : k = 0 ∨ k = 1 ∨ k = 2 ∨ k = 3 ∨ k = 4 ∨ k = 5 ∨ k = 6 ∨ k = 7 ∨ k = 8 := by omega
  rcases h9 with h | h | h | h | h | h | h | h | h <;> subst h
  · exact ⟨"", by decide, rfl, by decide +kernel⟩
  · exact ⟨"g", by decide, rfl, by decide +kernel⟩
  · exact ⟨"gh", by decide, rfl, by decide +kernel⟩
  · exact ⟨"ghijklm", by decide, rfl, by decide +kernel⟩
  · exact ⟨"", by decide, rfl, by decide +kernel⟩
  · exact ⟨"g", by decide, rfl, by decide +kernel⟩
  · exact ⟨"gh", by decide, rfl, by decide +kernel⟩
  · exact ⟨"ghijklm", by decide, rfl, by decide +kernel⟩
  · exact ⟨"", by decide, rfl, by decide +kernel⟩
theorem ghi_list : (Str.ofString "ghijkl").cps.toList = ghi := by decide
theorem sl_to {j : Int} (h0 : 0 ≤ j) (h1 : j ≤ 6) : (Txt.slice "ghijkl" none (some j)).cps.toList = ghi.take j.toNat := by
  have e : Txt.slice "ghijkl" none (some j) = _ := StrLaws.sliceText_to (x := "ghijkl") (j := j) ⟨h0, by rw [ghi_list]; exact h1⟩
  rw [e, ghi_list]
  show (ghi.drop 0).take _ = _
  rw [List.drop_zero, Int.sub_zero]
theorem sl_fromto {i j : Int} (h0 : 0 ≤ i) (h1 : i ≤ j) (h2 : j ≤ 6) : (Txt.slice "ghijkl" (some i) (some j)).cps.toList = (ghi.drop i.toNat).take (j - i).toNat := by
  have e : Txt.slice "ghijkl" (some i) (some j) = _ := StrLaws.sliceText_plain (x := "ghijkl") (i := i) (j := j) ⟨h0, h1, by rw [ghi_list]; exact h2⟩
  rw [e, ghi_list]
end J

set_option Elab.async false
set_option linter.all false
set_option maxRecDepth 100000
set_option maxHeartbeats 4000000
namespace J
open PySem L2
/-! ### what is drawn can be read -/
def Bk.nms : Bk → Prop
  | .nil => True
  | .set x a r => isNm x = true ∧ a.gd ∧ r.nms
  | .say a r => a.gd ∧ r.nms
  | .when t b c r => t.gd ∧ b.nms ∧ c.nms ∧ r.nms
  | .whil t b r => t.gd ∧ b.nms ∧ r.nms
  | .wit x a b r => isNm x = true ∧ a.gd ∧ b.nms ∧ r.nms
theorem Bk.gd_of : ∀ {b : Bk}, b.nms → b.fit → b.gd
  | .nil, _, _ => trivial
  | .set _ _ _, h, f => ⟨h.1, h.2.1, f.2.1.2.1, Bk.gd_of h.2.2 f.2.2⟩
  | .say _ _, h, f => ⟨h.1, f.1.2.1, Bk.gd_of h.2 f.2⟩
  | .when _ _ _ _, h, f => ⟨h.1, f.1.2.1, Bk.gd_of h.2.1 f.2.1, Bk.gd_of h.2.2.1 f.2.2.1, Bk.gd_of h.2.2.2 f.2.2.2⟩
  | .whil _ _ _, h, f => ⟨h.1, f.1.2.1, Bk.gd_of h.2.1 f.2.1, Bk.gd_of h.2.2 f.2.2⟩
  | .wit _ _ _ _, h, f => ⟨h.1, h.2.1, f.2.1.2.1, Bk.gd_of h.2.2.1 f.2.2.1, Bk.gd_of h.2.2.2 f.2.2.2⟩
theorem num_gd {i : Int} (h : i.natAbs < 10 ^ 40) : (Sm.num i : Sm Str).gd := Nat.le_trans (numT_len h) (by decide)
theorem leaf_gd {salt p1 p2 : Int} {sc : List Str} (h : ∀ x ∈ sc, isNm x = true) : (leafF salt p1 p2 sc).gd := by
  rcases leaf_ways salt p1 p2 sc with ⟨x, e, hx⟩ | ⟨i, e, hi⟩ <;> rw [e]
  · exact h x hx
  · exact num_gd hi
theorem turned_gd {o : Sm Str} {l : Int} (ho : o.gd) (hl : (Sm.num l : Sm Str).gd) : ∀ k : Nat, (turned o l k).gd
  | 0 => ho
  | k + 1 => ⟨turned_gd ho hl k, hl⟩
theorem small_gd {i : Int} (h : i.natAbs ≤ 100) : (Sm.num i : Sm Str).gd := num_gd (Nat.lt_of_le_of_lt h (by decide))
theorem sum_gd {salt : Int} {sc : List Str} (h : ∀ x ∈ sc, isNm x = true) : (sumF salt sc).gd := by
  have a := leaf_gd (salt := salt) (p1 := 1009) (p2 := 1013) h
  have b := leaf_gd (salt := salt) (p1 := 1019) (p2 := 1021) h
  have l0 := drw_lo (n := salt) (p := 1061) (show (0 : Int) < 4 by decide)
  have l4 := drw_hi (n := salt) (p := 1061) (show (0 : Int) < 4 by decide)
  have c := small_gd (i := drw salt 1061 4) (by omega)
  have c1 := small_gd (i := drw salt 1061 4 - 1) (by omega)
  unfold sumF
  dsimp only
  split
  · exact a
  · split
    · exact ⟨a, b⟩
    · split
      · exact ⟨a, b⟩
      · split
        · exact ⟨a, c1⟩
        · split
          · exact turned_gd a c _
          · split
            · exact ⟨⟨⟨c, b, a⟩, b⟩, a, c⟩
            · exact ⟨⟨a, b⟩, c, b⟩
theorem test_gd {salt : Int} {sc : List Str} (h : ∀ x ∈ sc, isNm x = true) : (testF salt sc).gd := by
  have a := leaf_gd (salt := salt) (p1 := 1009) (p2 := 1013) h
  have b := leaf_gd (salt := salt) (p1 := 1019) (p2 := 1021) h
  have s := sum_gd (salt := salt) h
  have l0 := drw_lo (n := salt) (p := 1069) (show (0 : Int) < 9 by decide)
  have l4 := drw_hi (n := salt) (p := 1069) (show (0 : Int) < 9 by decide)
  have c := small_gd (i := drw salt 1069 9 - 1) (by omega)
  have d := small_gd (i := -6) (by decide)
  have one : (if drw salt 1097 3 = 1 then sumF salt sc else leafF salt 1009 1013 sc).gd := by
    split
    · exact s
    · exact a
  unfold testF
  dsimp only
  generalize (if drw salt 1097 3 = 1 then sumF salt sc else leafF salt 1009 1013 sc) = o at one
  split
  · exact ⟨one, b⟩
  · split
    · exact ⟨one, c⟩
    · split
      · exact ⟨⟨⟨one, c⟩, one, b⟩, ⟨one, b⟩, one, c⟩
      · split
        · exact ⟨⟨one, c⟩, d, one⟩
        · exact ⟨one, c⟩
def Hd.nms : Hd → Prop
  | .whil t => t.gd
  | .when t => t.gd
  | .els t b => t.gd ∧ b.nms
  | .wit x a => isNm x = true ∧ a.gd
theorem Bk.nms_app : ∀ {b c : Bk}, b.nms → c.nms → (b.app c).nms
  | .nil, _, _, h => h
  | .set _ _ _, _, h, g => ⟨h.1, h.2.1, Bk.nms_app h.2.2 g⟩
  | .say _ _, _, h, g => ⟨h.1, Bk.nms_app h.2 g⟩
  | .when _ _ _ _, _, h, g => ⟨h.1, h.2.1, h.2.2.1, Bk.nms_app h.2.2.2 g⟩
  | .whil _ _ _, _, h, g => ⟨h.1, h.2.1, Bk.nms_app h.2.2 g⟩
  | .wit _ _ _ _, _, h, g => ⟨h.1, h.2.1, h.2.2.1, Bk.nms_app h.2.2.2 g⟩
theorem end_nms {salt : Int} {t : Ts} (h : t.gd) : (endF salt t).nms := by
  unfold endF
  split
  · rename_i x s2
    split
    · have hx : isNm x = true := (show (Ts.less (.name x) s2).gd from h).1
      exact ⟨hx, ⟨hx, small_gd (i := 1) (by decide)⟩, trivial⟩
    · trivial
  · trivial
structure Gs.Nms (g : Gs) : Prop where
  bs : ∀ b ∈ g.bs, b.nms
  hs : ∀ h ∈ g.hs, h.nms
  sc : ∀ x ∈ g.sc, isNm x = true
theorem closeF_nms {salt : Int} {g : Gs} (h : g.Nms) : (closeF salt g).Nms := by
  obtain ⟨bs, hs, sc⟩ := g
  obtain ⟨h1, h2, h3⟩ := h
  unfold closeF
  split
  · rename_i t hs' b bs' e1 e2
    simp only at e1 e2
    subst e1 e2
    exact ⟨cons2 trivial (all2 h1).2, cons2 ⟨(all2 h2).1, (all2 h1).1⟩ (all2 h2).2, h3⟩
  · rename_i t b0 hs' b b1 bs' e1 e2
    simp only at e1 e2
    subst e1 e2
    have q := all2 (all2 h1).2
    exact ⟨cons2 (Bk.nms_app q.1 ⟨(all2 h2).1.1, (all2 h2).1.2, (all2 h1).1, trivial⟩) q.2, (all2 h2).2, h3⟩
  · rename_i t hs' b b1 bs' e1 e2
    simp only at e1 e2
    subst e1 e2
    have q := all2 (all2 h1).2
    exact ⟨cons2 (Bk.nms_app q.1 ⟨(all2 h2).1, Bk.nms_app (all2 h1).1 (end_nms (all2 h2).1), trivial⟩) q.2, (all2 h2).2, h3⟩
  · rename_i x a hs' b b1 bs' e1 e2
    simp only at e1 e2
    subst e1 e2
    have q := all2 (all2 h1).2
    exact ⟨cons2 (Bk.nms_app q.1 ⟨(all2 h2).1.1, (all2 h2).1.2, (all2 h1).1, trivial⟩) q.2, (all2 h2).2, fun y hy => h3 y (List.dropLast_subset _ hy)⟩
  · exact ⟨h1, h2, h3⟩
theorem addF_nms {o : Bk} {g : Gs} (h : g.Nms) (ho : o.nms) : (addF o g).Nms := by
  obtain ⟨bs, hs, sc⟩ := g
  obtain ⟨h1, h2, h3⟩ := h
  unfold addF
  split
  · rename_i b bs' e
    simp only at e
    subst e
    exact ⟨cons2 (Bk.nms_app (all2 h1).1 ho) (all2 h1).2, h2, h3⟩
  · exact ⟨h1, h2, h3⟩
theorem getD_nm {l : List Str} {i : Nat} (hi : i < l.length) (h : ∀ x ∈ l, isNm x = true) : isNm ((l[i]?).getD "") = true := by
  rw [List.getElem?_eq_getElem hi]
  exact h _ (List.getElem_mem hi)
theorem drw_ix {salt p : Int} {n : Nat} (h : 0 < n) : (drw salt p (n : Int)).toNat < n := by
  have h1 := drw_lo (n := salt) (p := p) (m := (n : Int)) (by omega)
  have h2 := drw_hi (n := salt) (p := p) (m := (n : Int)) (by omega)
  omega
theorem jar_nm {salt : Int} {sc : List Str} (h : ∀ x ∈ sc, isNm x = true) : isNm (jarF salt sc) = true := by
  unfold jarF
  refine getD_nm (drw_ix (by unfold jarsF; rw [List.length_append]; show 0 < _ + 2; omega)) fun x hx => ?_
  unfold jarsF at hx
  rcases List.mem_append.mp hx with hx | hx
  · exact h x (List.take_subset _ _ hx)
  · rcases List.mem_cons.mp hx with rfl | hx
    · decide +kernel
    · rw [List.mem_singleton.mp hx]; decide +kernel
theorem stepF_nms {more : List Str} {k : Nat} {cell : Int} {g : Gs} (h : g.Nms) (hm : ∀ x ∈ more, isNm x = true) : (stepF more k cell g).Nms := by
  have hn : ∀ x ∈ g.sc ++ more, isNm x = true := fun x hx => by
    rcases List.mem_append.mp hx with hx | hx
    · exact h.sc x hx
    · exact hm x hx
  unfold stepF
  dsimp only
  split
  · refine ⟨cons2 trivial h.bs, cons2 ?_ h.hs, ?_⟩
    · unfold headF
      split
      · exact test_gd hn
      · split
        · exact test_gd hn
        · exact ⟨jar_nm hn, sum_gd hn⟩
    · show ∀ x ∈ (if cell % 9 = 2 then g.sc ++ [jarF (cell + 7919 * k) (g.sc ++ more)] else g.sc), isNm x = true
      split
      · intro x hx
        rcases List.mem_append.mp hx with hx | hx
        · exact h.sc x hx
        · rw [List.mem_singleton.mp hx]; exact jar_nm hn
      · exact h.sc
  · split
    · exact closeF_nms h
    · split
      · rename_i hc
        exact addF_nms h ⟨getD_nm (drw_ix (List.length_pos_iff.mpr hc.2)) hn, sum_gd hn, trivial⟩
      · exact addF_nms h ⟨sum_gd hn, trivial⟩
theorem foldF_nms {more : List Str} (hm : ∀ x ∈ more, isNm x = true) : ∀ (cs : List Int) {k : Nat} {g : Gs}, g.Nms → (foldF more k cs g).Nms
  | [], _, _, h => h
  | c :: cs, k, g, h => foldF_nms hm cs (stepF_nms (k := k) (cell := c) h hm)
theorem closes_nms : ∀ (n : Nat) {g : Gs}, g.Nms → (closes n g).Nms
  | 0, _, h => h
  | n + 1, g, h => closes_nms n (closeF_nms h)
theorem grown_nms {cells : List Int} {names more : List Str} (hn : ∀ x ∈ names, isNm x = true) (hm : ∀ x ∈ more, isNm x = true) : (grownF cells names more).nms := by
  have h := closes_nms 400 (foldF_nms hm cells (k := 0) (g := ⟨[.nil], [], names⟩) ⟨cons2 trivial (by simp), by simp, hn⟩)
  unfold grownF
  split
  · rename_i b bs e
    exact h.bs b (by rw [e]; simp)
  · trivial
/-! ### words -/
theorem o3_wd (o : O3) : Wd o.w := by
  have : ∀ x ∈ kept, x.length ≠ 0 ∧ ∀ c ∈ x.cps.toList, 33 ≤ c ∧ c ≤ 126 := by decide +kernel
  cases o <;> exact this _ (by decide +kernel)
theorem kept_wd {x : Str} (h : x ∈ kept) : Wd x := (by decide +kernel : ∀ x ∈ kept, x.length ≠ 0 ∧ ∀ c ∈ x.cps.toList, 33 ≤ c ∧ c ≤ 126) x h
theorem wd_app {a b : List Str} (h : ∀ x ∈ a, Wd x) (g : ∀ x ∈ b, Wd x) : ∀ x ∈ a ++ b, Wd x := fun x m => by
  rcases List.mem_append.mp m with m | m
  · exact h x m
  · exact g x m
theorem Sm.wds : ∀ {s : Sm Str}, s.gd → ∀ x ∈ s.words, Wd x
  | .num i, _, x, m => by rw [List.mem_singleton.mp m]; exact numT_wd i
  | .name y, h, x, m => by rw [List.mem_singleton.mp m]; exact nm_wd h
  | .op o a b, h, x, m => cons2 (P := Wd) (o3_wd o) (wd_app (Sm.wds h.1) (Sm.wds h.2)) x m
theorem Ts.wds : ∀ {t : Ts}, t.gd → ∀ x ∈ t.words, Wd x
  | .less a b, h, x, m => cons2 (P := Wd) (kept_wd (by decide +kernel)) (wd_app (Sm.wds h.1) (Sm.wds h.2)) x m
  | .same a b, h, x, m => cons2 (P := Wd) (kept_wd (by decide +kernel)) (wd_app (Sm.wds h.1) (Sm.wds h.2)) x m
  | .not t, h, x, m => cons2 (P := Wd) (kept_wd (by decide +kernel)) (Ts.wds (t := t) h) x m
  | .both t u, h, x, m => cons2 (P := Wd) (kept_wd (by decide +kernel)) (wd_app (Ts.wds h.1) (Ts.wds h.2)) x m
/-- the rows of a block are made of its words -/
theorem rows_wds : ∀ {b : Bk} {l : Str}, b.nms → Bl l → (b.rows l).flatMap wds = b.ws ∧ ∀ r ∈ b.rows l, Pl r
  | .nil, _, _, _ => ⟨rfl, fun r m => by cases m⟩
  | .set x a r, l, h, hl => by
    obtain ⟨h1, h2⟩ := rows_wds (b := r) h.2.2 hl
    have hw : ∀ y ∈ ("set" : Str) :: x :: a.words, Wd y := cons2 (P := Wd) (kept_wd (by decide +kernel)) (cons2 (P := Wd) (nm_wd h.1) (Sm.wds h.2.1))
    refine ⟨?_, cons2 (row_pl hl hw) h2⟩
    show wds (rowT l _) ++ (r.rows l).flatMap wds = _
    rw [wds_row hl hw, h1]
    rfl
  | .say a r, l, h, hl => by
    obtain ⟨h1, h2⟩ := rows_wds (b := r) h.2 hl
    have hw : ∀ y ∈ ("say" : Str) :: a.words, Wd y := cons2 (P := Wd) (kept_wd (by decide +kernel)) (Sm.wds h.1)
    refine ⟨?_, cons2 (row_pl hl hw) h2⟩
    show wds (rowT l _) ++ (r.rows l).flatMap wds = _
    rw [wds_row hl hw, h1]
    rfl
  | .when t b c r, l, h, hl => by
    obtain ⟨h1, h2⟩ := rows_wds (b := r) h.2.2.2 hl
    obtain ⟨b1, b2⟩ := rows_wds (b := b) h.2.1 hl.two
    obtain ⟨c1, c2⟩ := rows_wds (b := c) h.2.2.1 hl.two
    have hw : ∀ y ∈ ("when" : Str) :: t.words, Wd y := cons2 (P := Wd) (kept_wd (by decide +kernel)) (Ts.wds h.1)
    have he : Wd "else" := kept_wd (by decide +kernel)
    have hd : Wd "end" := kept_wd (by decide +kernel)
    refine ⟨?_, ?_⟩
    · show wds (rowT l _) ++ (b.rows (l ++ "  ") ++ ((l ++ "else") :: (c.rows (l ++ "  ") ++ ((l ++ "end") :: r.rows l)))).flatMap wds = _
      rw [wds_row hl hw, List.flatMap_append, List.flatMap_cons, List.flatMap_append, List.flatMap_cons, b1, c1, h1, wds_one hl he, wds_one hl hd]
      rfl
    · refine cons2 (row_pl hl hw) fun x m => ?_
      rcases List.mem_append.mp m with m | m
      · exact b2 x m
      · refine cons2 (P := Pl) (hl.pl.app he.pl) (fun x m => ?_) x m
        rcases List.mem_append.mp m with m | m
        · exact c2 x m
        · exact cons2 (P := Pl) (hl.pl.app hd.pl) h2 x m
  | .whil t b r, l, h, hl => by
    obtain ⟨h1, h2⟩ := rows_wds (b := r) h.2.2 hl
    obtain ⟨b1, b2⟩ := rows_wds (b := b) h.2.1 hl.two
    have hw : ∀ y ∈ ("while" : Str) :: t.words, Wd y := cons2 (P := Wd) (kept_wd (by decide +kernel)) (Ts.wds h.1)
    have hd : Wd "end" := kept_wd (by decide +kernel)
    refine ⟨?_, ?_⟩
    · show wds (rowT l _) ++ (b.rows (l ++ "  ") ++ ((l ++ "end") :: r.rows l)).flatMap wds = _
      rw [wds_row hl hw, List.flatMap_append, List.flatMap_cons, b1, h1, wds_one hl hd]
      rfl
    · refine cons2 (row_pl hl hw) fun x m => ?_
      rcases List.mem_append.mp m with m | m
      · exact b2 x m
      · exact cons2 (P := Pl) (hl.pl.app hd.pl) h2 x m
  | .wit x a b r, l, h, hl => by
    obtain ⟨h1, h2⟩ := rows_wds (b := r) h.2.2.2 hl
    obtain ⟨b1, b2⟩ := rows_wds (b := b) h.2.2.1 hl.two
    have hw : ∀ y ∈ ("with" : Str) :: x :: a.words, Wd y := cons2 (P := Wd) (kept_wd (by decide +kernel)) (cons2 (P := Wd) (nm_wd h.1) (Sm.wds h.2.1))
    have hd : Wd "end" := kept_wd (by decide +kernel)
    refine ⟨?_, ?_⟩
    · show wds (rowT l _) ++ (b.rows (l ++ "  ") ++ ((l ++ "end") :: r.rows l)).flatMap wds = _
      rw [wds_row hl hw, List.flatMap_append, List.flatMap_cons, b1, h1, wds_one hl hd]
      rfl
    · refine cons2 (row_pl hl hw) fun x m => ?_
      rcases List.mem_append.mp m with m | m
      · exact b2 x m
      · exact cons2 (P := Pl) (hl.pl.app hd.pl) h2 x m
/-- how many words, and how long they are -/
theorem ws_len : ∀ {b : Bk}, b.fit → b.ws.length ≤ 200 * b.n ∧ ∀ x ∈ b.ws, x.length ≤ 100
  | .nil, _ => ⟨Nat.le_refl _, fun x m => by cases m⟩
  | .set x a r, h => by
    obtain ⟨h1, h2⟩ := ws_len h.2.2
    have f := h.2.1.2.2
    refine ⟨?_, cons2 (by decide) (cons2 h.1 fun y m => ?_)⟩
    · show (a.words ++ r.ws).length + 1 + 1 ≤ 200 * (r.n + 1)
      have : a.words.length ≤ 190 := f.1
      rw [List.length_append]; omega
    · rcases List.mem_append.mp m with m | m
      · exact f.2 y m
      · exact h2 y m
  | .say a r, h => by
    obtain ⟨h1, h2⟩ := ws_len h.2
    have f := h.1.2.2
    refine ⟨?_, cons2 (by decide) fun y m => ?_⟩
    · show (a.words ++ r.ws).length + 1 ≤ 200 * (r.n + 1)
      have : a.words.length ≤ 190 := f.1
      rw [List.length_append]; omega
    · rcases List.mem_append.mp m with m | m
      · exact f.2 y m
      · exact h2 y m
  | .when t b c r, h => by
    obtain ⟨h1, h2⟩ := ws_len h.2.2.2
    obtain ⟨b1, b2⟩ := ws_len h.2.1
    obtain ⟨c1, c2⟩ := ws_len h.2.2.1
    have f := h.1.2.2
    refine ⟨?_, cons2 (by decide) fun y m => ?_⟩
    · show (t.words ++ (b.ws ++ (("else" : Str) :: (c.ws ++ (("end" : Str) :: r.ws))))).length + 1 ≤ 200 * (b.n + c.n + r.n + 1)
      have : t.words.length ≤ 190 := f.1
      simp only [List.length_append, List.length_cons]; omega
    · rcases List.mem_append.mp m with m | m
      · exact f.2 y m
      · rcases List.mem_append.mp m with m | m
        · exact b2 y m
        · refine cons2 (P := fun y : Str => y.length ≤ 100) (by decide) (fun y m => ?_) y m
          rcases List.mem_append.mp m with m | m
          · exact c2 y m
          · exact cons2 (P := fun y : Str => y.length ≤ 100) (by decide) h2 y m
  | .whil t b r, h => by
    obtain ⟨h1, h2⟩ := ws_len h.2.2
    obtain ⟨b1, b2⟩ := ws_len h.2.1
    have f := h.1.2.2
    refine ⟨?_, cons2 (by decide) fun y m => ?_⟩
    · show (t.words ++ (b.ws ++ (("end" : Str) :: r.ws))).length + 1 ≤ 200 * (b.n + r.n + 1)
      have : t.words.length ≤ 190 := f.1
      simp only [List.length_append, List.length_cons]; omega
    · rcases List.mem_append.mp m with m | m
      · exact f.2 y m
      · rcases List.mem_append.mp m with m | m
        · exact b2 y m
        · exact cons2 (P := fun y : Str => y.length ≤ 100) (by decide) h2 y m
  | .wit x a b r, h => by
    obtain ⟨h1, h2⟩ := ws_len h.2.2.2
    obtain ⟨b1, b2⟩ := ws_len h.2.2.1
    have f := h.2.1.2.2
    refine ⟨?_, cons2 (by decide) (cons2 h.1 fun y m => ?_)⟩
    · show (a.words ++ (b.ws ++ (("end" : Str) :: r.ws))).length + 1 + 1 ≤ 200 * (b.n + r.n + 1)
      have : a.words.length ≤ 190 := f.1
      simp only [List.length_append, List.length_cons]; omega
    · rcases List.mem_append.mp m with m | m
      · exact f.2 y m
      · rcases List.mem_append.mp m with m | m
        · exact b2 y m
        · exact cons2 (P := fun y : Str => y.length ≤ 100) (by decide) h2 y m
theorem row_sz {l : Str} {ws : List Str} {n : Nat} (h : Fits 100 n ws) (hn : n ≤ 200) : (rowT l ws).length ≤ l.length + 25000 := by
  have := h.len
  show (l ++ Txt.join " " ws).length ≤ _
  rw [Str.length_append]
  have : 100 * n ≤ 20000 := by omega
  omega
theorem rows_sz : ∀ {b : Bk} {l : Str}, b.fit → ∀ r ∈ b.rows l, r.length ≤ l.length + 2 * b.dp + 25000
  | .nil, _, _, r, m => by cases m
  | .set x a r, l, h, z, m => by
    refine cons2 (P := fun z : Str => z.length ≤ l.length + 2 * r.dp + 25000) ?_ (fun z m => rows_sz h.2.2 z m) z m
    have : (rowT l (("set" : Str) :: x :: a.words)).length ≤ l.length + 25000 := row_sz ((h.2.1.2.2.cons (x := x) h.1).cons (x := "set") (by decide)) (by decide)
    omega
  | .say a r, l, h, z, m => by
    refine cons2 (P := fun z : Str => z.length ≤ l.length + 2 * r.dp + 25000) ?_ (fun z m => rows_sz h.2 z m) z m
    have : (rowT l (("say" : Str) :: a.words)).length ≤ l.length + 25000 := row_sz (h.1.2.2.cons (x := "say") (by decide)) (by decide)
    omega
  | .when t b c r, l, h, z, m => by
    have e2 := two_sp
    have e4 : (Str.ofString "else").length = 4 := by decide
    have e3 : (Str.ofString "end").length = 3 := by decide
    have hb := fun z m => rows_sz (l := l ++ "  ") h.2.1 z m
    have hc := fun z m => rows_sz (l := l ++ "  ") h.2.2.1 z m
    have hr := fun z m => rows_sz (l := l) h.2.2.2 z m
    have hd : (Bk.when t b c r).dp = max (max (b.dp + 1) (c.dp + 1)) r.dp := rfl
    have h0 : (rowT l (("when" : Str) :: t.words)).length ≤ l.length + 25000 := row_sz (h.1.2.2.cons (x := "when") (by decide)) (by decide)
    rcases List.mem_cons.mp m with rfl | m
    · omega
    rcases List.mem_append.mp m with m | m
    · have := hb z m; rw [Str.length_append] at this; omega
    rcases List.mem_cons.mp m with rfl | m
    · rw [Str.length_append]; omega
    rcases List.mem_append.mp m with m | m
    · have := hc z m; rw [Str.length_append] at this; omega
    rcases List.mem_cons.mp m with rfl | m
    · rw [Str.length_append]; omega
    · have := hr z m; omega
  | .whil t b r, l, h, z, m => by
    have e2 := two_sp
    have e3 : (Str.ofString "end").length = 3 := by decide
    have hb := fun z m => rows_sz (l := l ++ "  ") h.2.1 z m
    have hr := fun z m => rows_sz (l := l) h.2.2 z m
    have hd : (Bk.whil t b r).dp = max (b.dp + 1) r.dp := rfl
    have h0 : (rowT l (("while" : Str) :: t.words)).length ≤ l.length + 25000 := row_sz (h.1.2.2.cons (x := "while") (by decide)) (by decide)
    rcases List.mem_cons.mp m with rfl | m
    · omega
    rcases List.mem_append.mp m with m | m
    · have := hb z m; rw [Str.length_append] at this; omega
    rcases List.mem_cons.mp m with rfl | m
    · rw [Str.length_append]; omega
    · have := hr z m; omega
  | .wit x a b r, l, h, z, m => by
    have e2 := two_sp
    have e3 : (Str.ofString "end").length = 3 := by decide
    have hb := fun z m => rows_sz (l := l ++ "  ") h.2.2.1 z m
    have hr := fun z m => rows_sz (l := l) h.2.2.2 z m
    have hd : (Bk.wit x a b r).dp = max (b.dp + 1) r.dp := rfl
    have h0 : (rowT l (("with" : Str) :: x :: a.words)).length ≤ l.length + 25000 := row_sz ((h.2.1.2.2.cons (x := x) h.1).cons (x := "with") (by decide)) (by decide)
    rcases List.mem_cons.mp m with rfl | m
    · omega
    rcases List.mem_append.mp m with m | m
    · have := hb z m; rw [Str.length_append] at this; omega
    rcases List.mem_cons.mp m with rfl | m
    · rw [Str.length_append]; omega
    · have := hr z m; omega
theorem grown_nms' {cells : List Int} {names : List Str} (h : NmOk names) : (grownF cells names []).nms := grown_nms h.nm (by simp)
/-- all the words of what is shown -/
theorem shown_wds {ns : List Str} {b : Bk} (hn : ∀ x ∈ ns, isNm x = true) (hb : b.nms) : (rowT "" (("jars" : Str) :: ns) :: b.rows "").flatMap wds = ("jars" : Str) :: (ns ++ b.ws) ∧ ∀ r ∈ rowT "" (("jars" : Str) :: ns) :: b.rows "", Pl r := by
  obtain ⟨h1, h2⟩ := rows_wds hb Bl.e
  have hw : ∀ y ∈ ("jars" : Str) :: ns, Wd y := cons2 (P := Wd) (kept_wd (by decide +kernel)) fun x m => nm_wd (hn x m)
  refine ⟨?_, cons2 (row_pl Bl.e hw) h2⟩
  rw [List.flatMap_cons, wds_row Bl.e hw, h1]
  rfl
theorem Bk.ws_wd : ∀ {b : Bk}, b.nms → ∀ x ∈ b.ws, Wd x
  | .nil, _, x, m => by cases m
  | .set y a r, h, x, m => cons2 (P := Wd) (kept_wd (by decide +kernel)) (cons2 (P := Wd) (nm_wd h.1) (wd_app (Sm.wds h.2.1) (Bk.ws_wd h.2.2))) x m
  | .say a r, h, x, m => cons2 (P := Wd) (kept_wd (by decide +kernel)) (wd_app (Sm.wds h.1) (Bk.ws_wd h.2)) x m
  | .when t b c r, h, x, m => cons2 (P := Wd) (kept_wd (by decide +kernel)) (wd_app (Ts.wds h.1) (wd_app (Bk.ws_wd h.2.1) (cons2 (P := Wd) (kept_wd (by decide +kernel)) (wd_app (Bk.ws_wd h.2.2.1) (cons2 (P := Wd) (kept_wd (by decide +kernel)) (Bk.ws_wd h.2.2.2)))))) x m
  | .whil t b r, h, x, m => cons2 (P := Wd) (kept_wd (by decide +kernel)) (wd_app (Ts.wds h.1) (wd_app (Bk.ws_wd h.2.1) (cons2 (P := Wd) (kept_wd (by decide +kernel)) (Bk.ws_wd h.2.2)))) x m
  | .wit y a b r, h, x, m => cons2 (P := Wd) (kept_wd (by decide +kernel)) (cons2 (P := Wd) (nm_wd h.1) (wd_app (Sm.wds h.2.1) (wd_app (Bk.ws_wd h.2.2.1) (cons2 (P := Wd) (kept_wd (by decide +kernel)) (Bk.ws_wd h.2.2.2))))) x m
end J

set_option Elab.async false
set_option linter.all false
set_option maxRecDepth 100000
set_option maxHeartbeats 4000000
namespace W10
open PySem L2 J
def top (i : Nat) : Stmt := PySem.Challenge.pw_jarcards_k10_whole_shown_and_read.main.body.getD i (.Pass ⟨0, 0, 0, 0⟩)
abbrev s_number_text : Stmt := top 9
theorem sc_number_text : FnScope ["number", "lots", "rest", "sign"] ["number"] (defScope s_number_text) := ⟨rfl, rfl, rfl, by decide +kernel, rfl, by decide +kernel, by decide +kernel⟩
abbrev s_part_words : Stmt := top 10
theorem sc_part_words : FnScope ["part", "words", "inner"] ["part"] (defScope s_part_words) := ⟨rfl, rfl, rfl, by decide +kernel, rfl, by decide +kernel, by decide +kernel⟩
abbrev s_head_words : Stmt := top 11
theorem sc_head_words : FnScope ["order"] ["order"] (defScope s_head_words) := ⟨rfl, rfl, rfl, by decide +kernel, rfl, by decide +kernel, by decide +kernel⟩
abbrev s_block_rows : Stmt := top 12
theorem sc_block_rows : FnScope ["block", "lead", "rows", "order", "word"] ["block", "lead"] (defScope s_block_rows) := ⟨rfl, rfl, rfl, by decide +kernel, rfl, by decide +kernel, by decide +kernel⟩
abbrev s_shown : Stmt := top 13
theorem sc_shown : FnScope ["program"] ["program"] (defScope s_shown) := ⟨rfl, rfl, rfl, by decide +kernel, rfl, by decide +kernel, by decide +kernel⟩
abbrev s_only_of : Stmt := top 14
theorem sc_only_of : FnScope ["signs", "text", "sign"] ["signs", "text"] (defScope s_only_of) := ⟨rfl, rfl, rfl, by decide +kernel, rfl, by decide +kernel, by decide +kernel⟩
abbrev s_is_name : Stmt := top 15
theorem sc_is_name : FnScope ["word"] ["word"] (defScope s_is_name) := ⟨rfl, rfl, rfl, by decide +kernel, rfl, by decide +kernel, by decide +kernel⟩
abbrev s_is_number : Stmt := top 16
theorem sc_is_number : FnScope ["word", "figures"] ["word"] (defScope s_is_number) := ⟨rfl, rfl, rfl, by decide +kernel, rfl, by decide +kernel, by decide +kernel⟩
abbrev s_number_of : Stmt := top 17
theorem sc_number_of : FnScope ["word", "number", "figure"] ["word"] (defScope s_number_of) := ⟨rfl, rfl, rfl, by decide +kernel, rfl, by decide +kernel, by decide +kernel⟩
abbrev s_Reader_init : Stmt := inClass (top 18) 0
theorem sc_Reader_init : FnScope ["self", "words"] ["self", "words"] (defScope s_Reader_init) := ⟨rfl, rfl, rfl, by decide +kernel, rfl, by decide +kernel, by decide +kernel⟩
abbrev s_Reader_coming : Stmt := inClass (top 18) 1
theorem sc_Reader_coming : FnScope ["self"] ["self"] (defScope s_Reader_coming) := ⟨rfl, rfl, rfl, by decide +kernel, rfl, by decide +kernel, by decide +kernel⟩
abbrev s_Reader_taken : Stmt := inClass (top 18) 2
theorem sc_Reader_taken : FnScope ["self", "word"] ["self"] (defScope s_Reader_taken) := ⟨rfl, rfl, rfl, by decide +kernel, rfl, by decide +kernel, by decide +kernel⟩
abbrev s_Reader_need : Stmt := inClass (top 18) 3
theorem sc_Reader_need : FnScope ["self", "wanted"] ["self", "wanted"] (defScope s_Reader_need) := ⟨rfl, rfl, rfl, by decide +kernel, rfl, by decide +kernel, by decide +kernel⟩
abbrev s_Reader_read_name : Stmt := inClass (top 18) 4
theorem sc_Reader_read_name : FnScope ["self", "word"] ["self"] (defScope s_Reader_read_name) := ⟨rfl, rfl, rfl, by decide +kernel, rfl, by decide +kernel, by decide +kernel⟩
abbrev s_Reader_read_names : Stmt := inClass (top 18) 5
theorem sc_Reader_read_names : FnScope ["self", "names", "name"] ["self"] (defScope s_Reader_read_names) := ⟨rfl, rfl, rfl, by decide +kernel, rfl, by decide +kernel, by decide +kernel⟩
abbrev s_Reader_read_sum : Stmt := inClass (top 18) 6
theorem sc_Reader_read_sum : FnScope ["self", "word", "first"] ["self"] (defScope s_Reader_read_sum) := ⟨rfl, rfl, rfl, by decide +kernel, rfl, by decide +kernel, by decide +kernel⟩
abbrev s_Reader_read_test : Stmt := inClass (top 18) 7
theorem sc_Reader_read_test : FnScope ["self", "word", "first"] ["self"] (defScope s_Reader_read_test) := ⟨rfl, rfl, rfl, by decide +kernel, rfl, by decide +kernel, by decide +kernel⟩
abbrev s_Reader_read_block : Stmt := inClass (top 18) 8
theorem sc_Reader_read_block : FnScope ["self", "block", "word", "name", "test", "first", "start"] ["self"] (defScope s_Reader_read_block) := ⟨rfl, rfl, rfl, by decide +kernel, rfl, by decide +kernel, by decide +kernel⟩
abbrev s_read : Stmt := top 19
theorem sc_read : FnScope ["rows", "words", "row", "reader", "names", "block"] ["rows"] (defScope s_read) := ⟨rfl, rfl, rfl, by decide +kernel, rfl, by decide +kernel, by decide +kernel⟩
abbrev s_law_draw : Stmt := top 21
theorem sc_law_draw : FnScope ["_law_number", "_law_prime", "_law_many"] ["_law_number", "_law_prime", "_law_many"] (defScope s_law_draw) := ⟨rfl, rfl, rfl, by decide +kernel, rfl, by decide +kernel, by decide +kernel⟩
abbrev s_law_whole : Stmt := top 22
theorem sc_law_whole : FnScope ["_law_found"] ["_law_found"] (defScope s_law_whole) := ⟨rfl, rfl, rfl, by decide +kernel, rfl, by decide +kernel, by decide +kernel⟩
abbrev s_law_at : Stmt := top 23
theorem sc_law_at : FnScope ["_law_script", "_law_k"] ["_law_script", "_law_k"] (defScope s_law_at) := ⟨rfl, rfl, rfl, by decide +kernel, rfl, by decide +kernel, by decide +kernel⟩
abbrev s_law_alike : Stmt := top 24
theorem sc_law_alike : FnScope ["_law_found", "_law_due", "_law_left", "_law_right", "_law_one", "_law_two"] ["_law_found", "_law_due"] (defScope s_law_alike) := ⟨rfl, rfl, rfl, by decide +kernel, rfl, by decide +kernel, by decide +kernel⟩
abbrev s_law_leaf : Stmt := top 25
theorem sc_law_leaf : FnScope ["_law_salt", "_law_prime", "_law_second", "_law_scope", "_law_spot", "_law_number"] ["_law_salt", "_law_prime", "_law_second", "_law_scope"] (defScope s_law_leaf) := ⟨rfl, rfl, rfl, by decide +kernel, rfl, by decide +kernel, by decide +kernel⟩
abbrev s_law_sum_of : Stmt := top 26
theorem sc_law_sum_of : FnScope ["_law_salt", "_law_scope", "_law_way", "_law_less", "_law_one", "_law_two", "_law_turn", "_law_deep"] ["_law_salt", "_law_scope"] (defScope s_law_sum_of) := ⟨rfl, rfl, rfl, by decide +kernel, rfl, by decide +kernel, by decide +kernel⟩
abbrev s_law_test_of : Stmt := top 27
theorem sc_law_test_of : FnScope ["_law_salt", "_law_scope", "_law_way", "_law_one", "_law_least", "_law_other"] ["_law_salt", "_law_scope"] (defScope s_law_test_of) := ⟨rfl, rfl, rfl, by decide +kernel, rfl, by decide +kernel, by decide +kernel⟩
abbrev s_law_head_of : Stmt := top 28
theorem sc_law_head_of : FnScope ["_law_way", "_law_salt", "_law_scope", "_law_jars", "_law_jar"] ["_law_way", "_law_salt", "_law_scope"] (defScope s_law_head_of) := ⟨rfl, rfl, rfl, by decide +kernel, rfl, by decide +kernel, by decide +kernel⟩
abbrev s_law_close : Stmt := top 29
theorem sc_law_close : FnScope ["_law_blocks", "_law_heads", "_law_scope", "_law_salt", "_law_head", "_law_block", "_law_test"] ["_law_blocks", "_law_heads", "_law_scope", "_law_salt"] (defScope s_law_close) := ⟨rfl, rfl, rfl, by decide +kernel, rfl, by decide +kernel, by decide +kernel⟩
abbrev s_law_grown : Stmt := top 30
theorem sc_law_grown : FnScope ["_law_cells", "_law_names", "_law_more", "_law_blocks", "_law_heads", "_law_scope", "_law_k", "_law_way", "_law_salt", "_law_near", "_law_name"] ["_law_cells", "_law_names", "_law_more"] (defScope s_law_grown) := ⟨rfl, rfl, rfl, by decide +kernel, rfl, by decide +kernel, by decide +kernel⟩
abbrev s_law_names_of : Stmt := top 31
theorem sc_law_names_of : FnScope ["_law_cell", "_law_made", "_law_k", "_law_letter", "_law_more", "_law_size", "_law_spot", "_law_letters"] ["_law_cell"] (defScope s_law_names_of) := ⟨rfl, rfl, rfl, by decide +kernel, rfl, by decide +kernel, by decide +kernel⟩
abbrev s_law_texts : Stmt := top 32
theorem sc_law_texts : FnScope ["_law_found", "_law_row"] ["_law_found"] (defScope s_law_texts) := ⟨rfl, rfl, rfl, by decide +kernel, rfl, by decide +kernel, by decide +kernel⟩
abbrev s_law_laid : Stmt := top 33
theorem sc_law_laid : FnScope ["_law_rows", "_law_cells", "_law_words", "_law_row", "_law_made", "_law_k", "_law_cell"] ["_law_rows", "_law_cells"] (defScope s_law_laid) := ⟨rfl, rfl, rfl, by decide +kernel, rfl, by decide +kernel, by decide +kernel⟩
abbrev s_law : Stmt := top 34
theorem sc_law : FnScope ["_law_script", "_law_names", "_law_program", "_law_rows", "_law_handed", "_law_found"] ["_law_script"] (defScope s_law) := ⟨rfl, rfl, rfl, by decide +kernel, rfl, by decide +kernel, by decide +kernel⟩
set_option genInjectivity false in
set_option genSizeOf false in
structure Txt (K : PySem.W.Frag) (mg : Str → Option Value) where
  c_Reader : Addr
  cl_Reader : Cls K c_Reader
  mg_Reader : mg "Reader" = some (.ref c_Reader)
  na_Reader_words : NoAttr K c_Reader "words"
  na_Reader_place : NoAttr K c_Reader "place"
  f_number_text : Addr
  fd_number_text : FuncData
  number_text : Def K mg "number_text" s_number_text ["number"] f_number_text fd_number_text
  f_part_words : Addr
  fd_part_words : FuncData
  part_words : Def K mg "part_words" s_part_words ["part"] f_part_words fd_part_words
  f_head_words : Addr
  fd_head_words : FuncData
  head_words : Def K mg "head_words" s_head_words ["order"] f_head_words fd_head_words
  f_block_rows : Addr
  fd_block_rows : FuncData
  block_rows : Def K mg "block_rows" s_block_rows ["block", "lead"] f_block_rows fd_block_rows
  f_shown : Addr
  fd_shown : FuncData
  shown : Def K mg "shown" s_shown ["program"] f_shown fd_shown
  f_only_of : Addr
  fd_only_of : FuncData
  only_of : Def K mg "only_of" s_only_of ["signs", "text"] f_only_of fd_only_of
  f_is_name : Addr
  fd_is_name : FuncData
  is_name : Def K mg "is_name" s_is_name ["word"] f_is_name fd_is_name
  f_is_number : Addr
  fd_is_number : FuncData
  is_number : Def K mg "is_number" s_is_number ["word"] f_is_number fd_is_number
  f_number_of : Addr
  fd_number_of : FuncData
  number_of : Def K mg "number_of" s_number_of ["word"] f_number_of fd_number_of
  f_Reader_init : Addr
  fd_Reader_init : FuncData
  Reader_init : MDef K "__init__" "Reader.__init__" s_Reader_init ["self", "words"] f_Reader_init fd_Reader_init
  me_Reader_init : Meth K c_Reader "__init__" f_Reader_init
  f_Reader_coming : Addr
  fd_Reader_coming : FuncData
  Reader_coming : MDef K "coming" "Reader.coming" s_Reader_coming ["self"] f_Reader_coming fd_Reader_coming
  me_Reader_coming : Meth K c_Reader "coming" f_Reader_coming
  f_Reader_taken : Addr
  fd_Reader_taken : FuncData
  Reader_taken : MDef K "taken" "Reader.taken" s_Reader_taken ["self"] f_Reader_taken fd_Reader_taken
  me_Reader_taken : Meth K c_Reader "taken" f_Reader_taken
  f_Reader_need : Addr
  fd_Reader_need : FuncData
  Reader_need : MDef K "need" "Reader.need" s_Reader_need ["self", "wanted"] f_Reader_need fd_Reader_need
  me_Reader_need : Meth K c_Reader "need" f_Reader_need
  f_Reader_read_name : Addr
  fd_Reader_read_name : FuncData
  Reader_read_name : MDef K "read_name" "Reader.read_name" s_Reader_read_name ["self"] f_Reader_read_name fd_Reader_read_name
  me_Reader_read_name : Meth K c_Reader "read_name" f_Reader_read_name
  f_Reader_read_names : Addr
  fd_Reader_read_names : FuncData
  Reader_read_names : MDef K "read_names" "Reader.read_names" s_Reader_read_names ["self"] f_Reader_read_names fd_Reader_read_names
  me_Reader_read_names : Meth K c_Reader "read_names" f_Reader_read_names
  f_Reader_read_sum : Addr
  fd_Reader_read_sum : FuncData
  Reader_read_sum : MDef K "read_sum" "Reader.read_sum" s_Reader_read_sum ["self"] f_Reader_read_sum fd_Reader_read_sum
  me_Reader_read_sum : Meth K c_Reader "read_sum" f_Reader_read_sum
  f_Reader_read_test : Addr
  fd_Reader_read_test : FuncData
  Reader_read_test : MDef K "read_test" "Reader.read_test" s_Reader_read_test ["self"] f_Reader_read_test fd_Reader_read_test
  me_Reader_read_test : Meth K c_Reader "read_test" f_Reader_read_test
  f_Reader_read_block : Addr
  fd_Reader_read_block : FuncData
  Reader_read_block : MDef K "read_block" "Reader.read_block" s_Reader_read_block ["self"] f_Reader_read_block fd_Reader_read_block
  me_Reader_read_block : Meth K c_Reader "read_block" f_Reader_read_block
  f_read : Addr
  fd_read : FuncData
  read : Def K mg "read" s_read ["rows"] f_read fd_read
  f_law_draw : Addr
  fd_law_draw : FuncData
  law_draw : Def K mg "_law_draw" s_law_draw ["_law_number", "_law_prime", "_law_many"] f_law_draw fd_law_draw
  f_law_whole : Addr
  fd_law_whole : FuncData
  law_whole : Def K mg "_law_whole" s_law_whole ["_law_found"] f_law_whole fd_law_whole
  f_law_at : Addr
  fd_law_at : FuncData
  law_at : Def K mg "_law_at" s_law_at ["_law_script", "_law_k"] f_law_at fd_law_at
  f_law_alike : Addr
  fd_law_alike : FuncData
  law_alike : Def K mg "_law_alike" s_law_alike ["_law_found", "_law_due"] f_law_alike fd_law_alike
  f_law_leaf : Addr
  fd_law_leaf : FuncData
  law_leaf : Def K mg "_law_leaf" s_law_leaf ["_law_salt", "_law_prime", "_law_second", "_law_scope"] f_law_leaf fd_law_leaf
  f_law_sum_of : Addr
  fd_law_sum_of : FuncData
  law_sum_of : Def K mg "_law_sum_of" s_law_sum_of ["_law_salt", "_law_scope"] f_law_sum_of fd_law_sum_of
  f_law_test_of : Addr
  fd_law_test_of : FuncData
  law_test_of : Def K mg "_law_test_of" s_law_test_of ["_law_salt", "_law_scope"] f_law_test_of fd_law_test_of
  f_law_head_of : Addr
  fd_law_head_of : FuncData
  law_head_of : Def K mg "_law_head_of" s_law_head_of ["_law_way", "_law_salt", "_law_scope"] f_law_head_of fd_law_head_of
  f_law_close : Addr
  fd_law_close : FuncData
  law_close : Def K mg "_law_close" s_law_close ["_law_blocks", "_law_heads", "_law_scope", "_law_salt"] f_law_close fd_law_close
  f_law_grown : Addr
  fd_law_grown : FuncData
  law_grown : Def K mg "_law_grown" s_law_grown ["_law_cells", "_law_names", "_law_more"] f_law_grown fd_law_grown
  f_law_names_of : Addr
  fd_law_names_of : FuncData
  law_names_of : Def K mg "_law_names_of" s_law_names_of ["_law_cell"] f_law_names_of fd_law_names_of
  f_law_texts : Addr
  fd_law_texts : FuncData
  law_texts : Def K mg "_law_texts" s_law_texts ["_law_found"] f_law_texts fd_law_texts
  f_law_laid : Addr
  fd_law_laid : FuncData
  law_laid : Def K mg "_law_laid" s_law_laid ["_law_rows", "_law_cells"] f_law_laid fd_law_laid
  f_law : Addr
  fd_law : FuncData
  law : Def K mg "law" s_law ["_law_script"] f_law fd_law
  mk_Reader : Mk K c_Reader f_Reader_init
  a_ORDER_WORDS : Addr
  m_ORDER_WORDS : mg "ORDER_WORDS" = some (.ref a_ORDER_WORDS)
  k_ORDER_WORDS : ∀ H : Hp, TpK K H a_ORDER_WORDS [.str "set", .str "say", .str "when", .str "while", .str "with"]
  a_SUM_WORDS : Addr
  m_SUM_WORDS : mg "SUM_WORDS" = some (.ref a_SUM_WORDS)
  k_SUM_WORDS : ∀ H : Hp, TpK K H a_SUM_WORDS [.str "add", .str "sub", .str "mul"]
  a_KEPT : Addr
  m_KEPT : mg "KEPT" = some (.ref a_KEPT)
  k_KEPT : ∀ H : Hp, TpK K H a_KEPT [.str "jars", .str "set", .str "say", .str "when", .str "else", .str "while", .str "with", .str "end", .str "add", .str "sub", .str "mul", .str "less", .str "same", .str "not", .str "both"]
  t_LETTERS : Tok
  m_LETTERS : mg "LETTERS" = some (.str "abcdefghijklmnopqrstuvwxyz" t_LETTERS)
  t_FIGURES : Tok
  m_FIGURES : mg "FIGURES" = some (.str "0123456789" t_FIGURES)
  b_len : mg "len" = none
  b_range : mg "range" = none
  b_isinstance : mg "isinstance" = none
  b_list : mg "list" = none
  b_tuple : mg "tuple" = none
  b_str : mg "str" = none
  b_int : mg "int" = none
  b_bool : mg "bool" = none
  b_abs : mg "abs" = none
  b_reversed : mg "reversed" = none
section
variable {P : Program} {w : World} {K : PySem.W.Frag} {mg : Str → Option Value} {base : Heap}
/-! ### only_of, is_name, is_number, number_of -/
def spOnly : Sp := fun vs H Q _ => ∃ (sg x : Str), vs = [.str sg, .str x] ∧ Q (.bl (onlyB sg x)) H
theorem ok_only_of (T : Txt K mg) : FnOk P w K mg base CX0 1 T.f_only_of T.fd_only_of ["signs", "text"] spOnly := by
  refine T.only_of.F.ok sc_only_of (fun vs H Q E h => ?_) (fun cdv A outer s H vs Q E hr h => ?_)
  · obtain ⟨sg, x, rfl, _⟩ := h; rfl
  obtain ⟨sg, x, rfl, q⟩ := h
  refine ⟨_, (pss_cons (ps_for PassesOwn.never rfl (pi_str (pv 1)) (pg_name (i := 2) sc_only_of.nd rfl (Or.inl rfl)) (pss_one (ps_if (pt_cmpR op_notIn_str (pv 2) (pv 0) (by with_unfolding_all rfl)) (pss_one (ps_ret pe_bl)) pss_nil)))
    (pss_one (ps_ret (pe_cmpR op_ne (pv 1) pe_str (nomark _))))), ?_⟩
  try dsimp only [kx, kxb]
  refine ⟨_, rfl, _, rfl, ?_⟩
  refine for_str (z := x) (fun i σ' H' => (∃ o, σ' = [some (.str sg), some (.str x), o]) ∧ H' = H ∧ (x.cps.toList.take i).all (fun c => decide (c ∈ sg.cps.toList)) = true) ⟨⟨none, rfl⟩, rfl, rfl⟩ ?_ ?_
  · rintro i c σ' H' hc ⟨⟨o, rfl⟩, rfl, ha⟩
    refine ⟨_, rfl, _, rfl, _, _, rfl, rfl, _, rfl, ?_⟩
    rw [in_str]
    by_cases hm : c ∈ sg.cps.toList
    · refine iteF' (by simp [hm]) ⟨⟨_, rfl⟩, rfl, ?_⟩
      have hl := (List.getElem?_eq_some_iff.mp hc).1
      rw [List.take_add_one, hc, List.all_append, ha]
      simpa using hm
    · refine iteT' (by simp [hm]) ?_
      have e : onlyB sg x = false := by
        unfold onlyB
        rw [Bool.and_eq_false_iff]
        refine .inl ?_
        cases hh : x.cps.toList.all fun c => decide (c ∈ sg.cps.toList)
        · rfl
        · exact absurd (of_decide_eq_true (List.all_eq_true.mp hh c (List.mem_of_getElem? hc))) hm
      rw [e] at q
      exact q
  · rintro σ' H' ⟨⟨o, rfl⟩, rfl, ha⟩
    rw [List.take_length] at ha
    refine ⟨_, rfl, rfl, ?_⟩
    have e : onlyB sg x = !decide (V.str x = V.str "") := by
      unfold onlyB
      rw [ha]
      have : decide (V.str x = V.str "") = decide (x = "") := decide_eq_decide.mpr ⟨fun z => by injection z, fun z => by rw [z]⟩
      rw [this]
      rfl
    rw [e] at q
    exact q
def spName1 : Sp := fun vs H Q _ => ∃ (x : Str), vs = [.str x] ∧ Q (.bl (isNm x)) H
theorem ok_is_name (T : Txt K mg) : FnOk P w K mg base CX0 2 T.f_is_name T.fd_is_name ["word"] spName1 := by
  have G_only_of := ok_only_of (P := P) (w := w) (base := base) T
  refine T.is_name.F.ok sc_is_name (fun vs H Q E h => ?_) (fun cdv A outer s H vs Q E hr h => ?_)
  · obtain ⟨x, rfl, _⟩ := h; rfl
  obtain ⟨x, rfl, q⟩ := h
  refine ⟨_, (pss_one (ps_ret (pe_and (pe_call G_only_of hr rfl T.only_of.m T.only_of.F.kp T.only_of.b .nil pass0 (pa_cons (pe_glob (v := .str "abcdefghijklmnopqrstuvwxyz") rfl T.m_LETTERS ⟨_, rfl⟩) (pa_cons (pv 0) pa_nil))) (pe_one (pe_cmpR op_notIn_seq (pv 0) (pe_glob (v := .ref T.a_KEPT) rfl T.m_KEPT rfl) (by with_unfolding_all rfl)))))), ?_⟩
  try dsimp only [kx, kxb]
  refine ⟨_, rfl, LET, x, rfl, _, rfl, ?_⟩
  unfold isNm at q
  cases h : onlyB LET x
  · rw [h] at q
    exact iteF' rfl q
  · rw [h] at q
    refine iteT' rfl ?_
    exact ⟨_, rfl, _, _, rfl, .inr (T.k_KEPT H).sq, rfl, by decide +kernel, q⟩
def spNum1 : Sp := fun vs H Q _ => ∃ (x : Str), vs = [.str x] ∧ x.length ≤ 1000 ∧ Q (.bl (isNum x)) H
theorem ok_is_number (T : Txt K mg) : FnOk P w K mg base CX0 2 T.f_is_number T.fd_is_number ["word"] spNum1 := by
  have G_only_of := ok_only_of (P := P) (w := w) (base := base) T
  refine T.is_number.F.ok sc_is_number (fun vs H Q E h => ?_) (fun cdv A outer s H vs Q E hr h => ?_)
  · obtain ⟨x, rfl, _⟩ := h; rfl
  obtain ⟨x, rfl, hx, q⟩ := h
  refine ⟨_, (pss_cons (ps_set (i := 1) sc_is_number.nd rfl (Or.inl rfl) (pe_ifExp (pt_val (pe_bm PySem.F.plainAttrs_str PySem.F.slot_str_startswith PySem.F.type_str_startswith mt_starts (pv 0) (pa_cons pe_str pa_nil))) (pe_slice sl_str (pv 0) (po_some pe_int) po_none) (pv 0)))
    (pss_one (ps_ret (pe_or (pe_cmpR op_eq (pv 0) pe_str (nomark _)) (pe_one (pe_and (pe_call G_only_of hr rfl T.only_of.m T.only_of.F.kp T.only_of.b .nil pass0 (pa_cons (pe_glob (v := .str "0123456789") rfl T.m_FIGURES ⟨_, rfl⟩) (pa_cons (pv 1) pa_nil))) (pe_one (pe_cmpR op_ne (pe_ix ix_str (pv 1) pe_int (fun _ _ => rfl)) pe_str (nomark _))))))))), ?_⟩
  try dsimp only [kx, kxb]
  have key : ∀ f : Str, f = figs x → tRet (tOrV (tOp rEq (tVar 0) (tC (V.str "0"))) (tAndV (tCall spOnly [] E0 (tCons (tC (V.str "0123456789")) (tCons (tVar 1) tNil))) (tOp rNe (tOp rIxS (tVar 1) (tC (V.int 0))) (tC (V.str "0")))))
      { nx := fun x H' => Q V.non H', rt := Q } [some (.str x), some (.str f)] H := fun f hf => by
    refine ⟨_, rfl, rfl, _, rfl, ?_⟩
    have dv : decide (V.str x = V.str "0") = decide (x = "0") := decide_eq_decide.mpr ⟨fun z => by injection z, fun z => by rw [z]⟩
    unfold isNum at q
    rw [← hf] at q
    rw [dv]
    cases h0 : decide (x = "0")
    · rw [h0] at q
      refine iteF' rfl ⟨_, rfl, FIG, f, rfl, _, rfl, ?_⟩
      cases h1 : onlyB FIG f
      · rw [h1] at q
        exact iteF' rfl q
      · rw [h1] at q
        refine iteT' rfl ?_
        have hne := only_ne h1
        have hfl : f.length ≤ x.length := by
          rw [hf, len_list, len_list, figs_list]
          split
          · rw [List.length_drop]; omega
          · omega
        match hl : f.cps.toList with
        | [] => exact absurd (str_ext (by rw [hl]; decide)) hne
        | c :: l =>
          rw [hl] at q
          refine ⟨_, rfl, f, _, c, rfl, rfl, by rw [sizeLine_eq]; omega, by rw [hl]; exact atI_nat (j := 0) rfl, rfl, ?_⟩
          have e : decide (V.str ⟨#[c]⟩ = V.str "0") = decide ((c :: l).head? = some 48) := decide_eq_decide.mpr ⟨fun z => by
            injection z with z
            have : (⟨#[c]⟩ : Str).cps.toList = (Str.ofString "0").cps.toList := by rw [z]
            have e48 : (Str.ofString "0").cps.toList = [48] := by decide
            rw [e48] at this
            simpa using this, fun z => by
            have : c = 48 := by simpa using z
            subst this
            decide⟩
          rw [e]
          exact q
    · rw [h0] at q
      exact iteT' rfl q
  refine ⟨_, rfl, rfl, _, _, rfl, rfl, _, rfl, ?_⟩
  by_cases hs : Txt.startswith x "-" = true
  · refine iteT' hs ⟨_, rfl, _, rfl, _, rfl, by rw [sizeLine_eq]; omega, ?_⟩
    exact key _ (by unfold figs; rw [if_pos hs])
  · refine iteF' (eq_false_of_ne_true hs) ⟨_, rfl, ?_⟩
    exact key _ (by unfold figs; rw [if_neg hs])
def spNumOf : Sp := fun vs H Q _ => ∃ (x : Str), vs = [.str x] ∧ x.length ≤ 1000 ∧ isNum x = true ∧ Q (.int (numV x)) H
theorem ok_number_of (T : Txt K mg) : FnOk P w K mg base CX0 1 T.f_number_of T.fd_number_of ["word"] spNumOf := by
  refine T.number_of.F.ok sc_number_of (fun vs H Q E h => ?_) (fun cdv A outer s H vs Q E hr h => ?_)
  · obtain ⟨x, rfl, _⟩ := h; rfl
  obtain ⟨x, rfl, hx, hn, q⟩ := h
  refine ⟨_, (pss_cons (ps_set (i := 1) sc_number_of.nd rfl (Or.inl rfl) pe_int)
    (pss_cons (ps_for PassesOwn.never rfl (pi_str (pe_bm PySem.F.plainAttrs_str PySem.F.slot_str_lstrip PySem.F.type_str_lstrip mt_lstrip (pv 0) (pa_cons pe_str pa_nil))) (pg_name (i := 2) sc_number_of.nd rfl (Or.inl rfl)) (pss_one (ps_set (i := 1) sc_number_of.nd rfl (Or.inl rfl) (pe_op op_add (pe_op op_mulB (pv 1) pe_int) (pe_callTy call_intS rfl T.b_int bt_int (pa_cons (pv 2) pa_nil))))))
    (pss_one (ps_ret (pe_ifExp (pt_val (pe_bm PySem.F.plainAttrs_str PySem.F.slot_str_startswith PySem.F.type_str_startswith mt_starts (pv 0) (pa_cons pe_str pa_nil))) (pe_un un_neg (pv 1)) (pv 1)))))), ?_⟩
  try dsimp only [kx, kxb]
  refine ⟨_, rfl, rfl, _, _, rfl, rfl, by rw [sizeLine_eq]; omega, _, rfl, ?_⟩
  have hl := lstrip_num hn
  have hd := num_digits hn
  refine for_str (fun i σ' H' => (∃ o, σ' = [some (.str x), some (.int ((NumText.digitsVal ((figs x).cps.toList.take i) : Nat) : Int)), o]) ∧ H' = H) ⟨⟨none, rfl⟩, rfl⟩ ?_ ?_
  · rintro i c σ' H' hc ⟨⟨o, rfl⟩, rfl⟩
    rw [hl] at hc
    have hcd := hd c (List.mem_of_getElem? hc)
    refine ⟨_, rfl, _, _, rfl, rfl, CMul.ok (.inr ⟨by decide, by decide⟩), _, rfl, _, _, rfl, int_digit hcd, by show 1 ≤ 640; decide, _, _, rfl, rfl, ⟨some (.str ⟨#[c]⟩), ?_⟩, rfl⟩
    rw [List.take_add_one, hc]
    have := NumText.digitsVal_snoc ((figs x).cps.toList.take i) c
    rw [show (some c).toList = [c] from rfl, this]
    congr 4
  · rintro σ' H' ⟨⟨o, rfl⟩, rfl⟩
    rw [hl, List.take_length]
    refine ⟨_, rfl, rfl, _, _, rfl, rfl, _, rfl, ?_⟩
    rw [numV_eq] at q
    by_cases hs : Txt.startswith x "-" = true
    · rw [if_pos hs] at q
      exact iteT' hs ⟨_, rfl, _, rfl, q⟩
    · rw [if_neg hs] at q
      exact iteF' (eq_false_of_ne_true hs) ⟨_, rfl, q⟩
end
end W10

set_option Elab.async false
set_option linter.all false
set_option maxRecDepth 100000
set_option maxHeartbeats 4000000
namespace W10
open PySem L2 J
section
variable {P : Program} {w : World} {K : PySem.W.Frag} {mg : Str → Option Value} {base : Heap}
/-! ### the reader: what is coming, what is taken -/
def spComing (C : Addr) : Sp := fun vs H Q _ => ∃ (p lw : Addr) (ws : List Str) (k : Nat), vs = [.ref p] ∧ RdAt C H p lw ws k ∧ Q (.str (atW ws k)) H
theorem ok_Reader_coming (T : Txt K mg) : FnOk P w K mg base CX0 1 T.f_Reader_coming T.fd_Reader_coming ["self"] (spComing T.c_Reader) := by
  refine T.Reader_coming.F.ok sc_Reader_coming (fun vs H Q E h => ?_) (fun cdv A outer s H vs Q E hr h => ?_)
  · obtain ⟨p, lw, ws, k, rfl, _⟩ := h; rfl
  obtain ⟨p, lw, ws, k, rfl, hR, q⟩ := h
  refine ⟨_, (pss_one (ps_ret (pe_ifExp (pt_cmpR op_lt (pe_fld (pv 0) rfl) (pe_callB call_len_seq rfl T.b_len PySem.boot_len (pa_cons (pe_fld (pv 0) rfl) pa_nil)) (nomark _)) (pe_ix ix_list (pe_fld (pv 0) rfl) (pe_fld (pv 0) rfl) (fun _ _ => rfl)) pe_str))), ?_⟩
  try dsimp only [kx, kxb]
  obtain ⟨dx, fs, e, hf⟩ := hR.ob
  refine ⟨_, rfl, p, T.c_Reader, dx, fs, _, rfl, e, T.cl_Reader, T.na_Reader_place, (hf.at_ _).trans (rdf_place ..), _, rfl, p, T.c_Reader, dx, fs, _, rfl, e, T.cl_Reader, T.na_Reader_words, (hf.at_ _).trans (rdf_words ..), _, _, rfl, .inl (SqL.of hR.ew), _, _, rfl, rfl, _, rfl, ?_⟩
  rw [List.length_map]
  by_cases hk : k < ws.length
  · refine iteT' (decide_eq_true (by omega)) ?_
    have hv : ws[k]? = some ws[k] := List.getElem?_eq_getElem hk
    have e2 : atW ws k = ws[k] := by unfold atW; rw [hv]; rfl
    rw [e2] at q
    exact ⟨_, rfl, p, T.c_Reader, dx, fs, _, rfl, e, T.cl_Reader, T.na_Reader_words, (hf.at_ _).trans (rdf_words ..), _, rfl, p, T.c_Reader, dx, fs, _, rfl, e, T.cl_Reader, T.na_Reader_place, (hf.at_ _).trans (rdf_place ..), _, _, _, _, rfl, rfl, SqL.of hR.ew, atI_nat (by rw [List.getElem?_map, hv]; rfl), q⟩
  · refine iteF' (decide_eq_false (by omega)) ?_
    have e2 : atW ws k = "" := by unfold atW; rw [List.getElem?_eq_none (by omega)]; rfl
    rw [e2] at q
    exact q
def spTakenR (C : Addr) : Sp := fun vs H Q _ => ∃ (p lw : Addr) (ws : List Str) (k : Nat), vs = [.ref p] ∧ RdAt C H p lw ws k ∧ ∀ H', RdAt C H' p lw ws (k + 1) → But p H H' → Q (.str (atW ws k)) H'
theorem ok_Reader_taken (T : Txt K mg) : FnOk P w K mg base CX0 2 T.f_Reader_taken T.fd_Reader_taken ["self"] (spTakenR T.c_Reader) := by
  have G_Reader_coming := ok_Reader_coming (P := P) (w := w) (base := base) T
  refine T.Reader_taken.F.ok sc_Reader_taken (fun vs H Q E h => ?_) (fun cdv A outer s H vs Q E hr h => ?_)
  · obtain ⟨p, lw, ws, k, rfl, _⟩ := h; rfl
  obtain ⟨p, lw, ws, k, rfl, hR, q⟩ := h
  refine ⟨_, (pss_cons (ps_set (i := 1) sc_Reader_taken.nd rfl (Or.inl rfl) (pe_meth0 (pv 0) T.cl_Reader T.me_Reader_coming G_Reader_coming hr T.Reader_coming.b .nil pass0))
    (pss_cons (ps_fldaug (pv 0) pe_int in_add)
    (pss_one (ps_ret (pv 1))))), ?_⟩
  try dsimp only [kx, kxb]
  obtain ⟨dx, fs, e, hf⟩ := hR.ob
  refine ⟨_, rfl, p, dx, fs, rfl, e, (hf.at_ _).trans (rdf_no ⟨by decide +kernel, by decide +kernel⟩), p, lw, ws, k, rfl, hR, ?_⟩
  refine ⟨_, rfl, p, T.c_Reader, dx, fs, _, rfl, e, T.cl_Reader, T.na_Reader_place, (hf.at_ _).trans (rdf_place ..), _, _, rfl, rfl, dx, fs, e, Nat.lt_of_le_of_lt hf.len (by decide), ?_⟩
  have hf2 : Has (putF "place" (.int ((k : Int) + 1)) fs) (rdf lw ((k + 1 : Nat) : Int)) := hf.put (rdf_place ..) (rdf_put _ _ _)
  have r := hR.put (dx := dx) hf2
  exact ⟨_, rfl, q _ r.1 r.2⟩
def spNeed (C : Addr) : Sp := fun vs H Q _ => ∃ (p lw : Addr) (ws : List Str) (k : Nat) (x : Str), vs = [.ref p, .str x] ∧ atW ws k = x ∧ RdAt C H p lw ws k ∧ ∀ H', RdAt C H' p lw ws (k + 1) → But p H H' → Q .non H'
theorem ok_Reader_need (T : Txt K mg) : FnOk P w K mg base CX0 3 T.f_Reader_need T.fd_Reader_need ["self", "wanted"] (spNeed T.c_Reader) := by
  have G_Reader_taken := ok_Reader_taken (P := P) (w := w) (base := base) T
  refine T.Reader_need.F.ok sc_Reader_need (fun vs H Q E h => ?_) (fun cdv A outer s H vs Q E hr h => ?_)
  · obtain ⟨p, lw, ws, k, x, rfl, _⟩ := h; rfl
  obtain ⟨p, lw, ws, k, x, rfl, hx, hR, q⟩ := h
  refine ⟨_, (pss_one (ps_if (pt_cmpR op_ne (pe_meth0 (pv 0) T.cl_Reader T.me_Reader_taken G_Reader_taken hr T.Reader_taken.b .nil pass0) (pv 1) (nomark _)) (pss_one ps_never) pss_nil)), ?_⟩
  try dsimp only [kx, kxb]
  obtain ⟨dx, fs, e, hf⟩ := hR.ob
  refine ⟨_, rfl, p, dx, fs, rfl, e, (hf.at_ _).trans (rdf_no ⟨by decide +kernel, by decide +kernel⟩), p, lw, ws, k, rfl, hR, fun H' hR' B => ?_⟩
  rw [hx]
  exact ⟨_, rfl, rfl, _, rfl, iteF' (by simp) (q _ hR' B)⟩
def spRName (C : Addr) : Sp := fun vs H Q _ => ∃ (p lw : Addr) (ws : List Str) (k : Nat), vs = [.ref p] ∧ RdAt C H p lw ws k ∧ isNm (atW ws k) = true ∧ ∀ H', RdAt C H' p lw ws (k + 1) → But p H H' → Q (.str (atW ws k)) H'
theorem ok_Reader_read_name (T : Txt K mg) : FnOk P w K mg base CX0 3 T.f_Reader_read_name T.fd_Reader_read_name ["self"] (spRName T.c_Reader) := by
  have G_Reader_taken := ok_Reader_taken (P := P) (w := w) (base := base) T
  have G_is_name := ok_is_name (P := P) (w := w) (base := base) T
  refine T.Reader_read_name.F.ok sc_Reader_read_name (fun vs H Q E h => ?_) (fun cdv A outer s H vs Q E hr h => ?_)
  · obtain ⟨p, lw, ws, k, rfl, _⟩ := h; rfl
  obtain ⟨p, lw, ws, k, rfl, hR, hn, q⟩ := h
  refine ⟨_, (pss_cons (ps_set (i := 1) sc_Reader_read_name.nd rfl (Or.inl rfl) (pe_meth0 (pv 0) T.cl_Reader T.me_Reader_taken G_Reader_taken hr T.Reader_taken.b .nil pass0))
    (pss_cons (ps_if (pt_not (pt_val (pe_call G_is_name hr rfl T.is_name.m T.is_name.F.kp T.is_name.b .nil pass0 (pa_cons (pv 1) pa_nil)))) (pss_one ps_never) pss_nil)
    (pss_one (ps_ret (pv 1))))), ?_⟩
  try dsimp only [kx, kxb]
  obtain ⟨dx, fs, e, hf⟩ := hR.ob
  refine ⟨_, rfl, p, dx, fs, rfl, e, (hf.at_ _).trans (rdf_no ⟨by decide +kernel, by decide +kernel⟩), p, lw, ws, k, rfl, hR, fun H' hR' B => ?_⟩
  refine ⟨_, rfl, _, rfl, _, rfl, ?_⟩
  rw [hn]
  exact iteF' rfl ⟨_, rfl, q _ hR' B⟩
def spRNames (C : Addr) : Sp := fun vs H Q _ => ∃ (p lw : Addr) (ws ns : List Str) (k : Nat) (rest : List Str), vs = [.ref p] ∧ RdAt C H p lw ws k ∧ ws.drop k = ns ++ rest ∧ (∀ x ∈ ns, isNm x = true) ∧ ns.Nodup ∧ isNm (atW ws (k + ns.length)) = false ∧ ns.length ≤ 1000 ∧
  ∀ r H', RdAt C H' p lw ws (k + ns.length) → But p H H' → H r = none → H' r = some (.lst (ns.map V.str)) → Q (.ref r) H'
def PRNames (C : Addr) (H : Hp) (p lw D : Addr) (ws ns : List Str) (k m : Nat) (σ : St) (H' : Hp) : Prop :=
  ∃ o a b, σ = [some (.ref p), some (.ref D), o] ∧ ns = a ++ b ∧ m = b.length ∧ RdAt C H' p lw ws (k + a.length) ∧ But p H H' ∧ H' D = some (.lst (a.map V.str))
theorem ok_Reader_read_names (T : Txt K mg) : FnOk P w K mg base CX0 3 T.f_Reader_read_names T.fd_Reader_read_names ["self"] (spRNames T.c_Reader) := by
  have G_Reader_coming := (ok_Reader_coming (P := P) (w := w) (base := base) T).mono (show 1 ≤ 2 by omega)
  have G_Reader_taken := ok_Reader_taken (P := P) (w := w) (base := base) T
  have G_is_name := ok_is_name (P := P) (w := w) (base := base) T
  refine T.Reader_read_names.F.ok sc_Reader_read_names (fun vs H Q E h => ?_) (fun cdv A outer s H vs Q E hr h => ?_)
  · obtain ⟨p, lw, ws, ns, k, rest, rfl, _⟩ := h; rfl
  obtain ⟨p, lw, ws, ns, k, rest, rfl, hR, hw, hnm, hnd, hend, hlen, q⟩ := h
  refine ⟨_, (pss_cons (ps_set (i := 1) sc_Reader_read_names.nd rfl (Or.inl rfl) (pe_lst pa_nil))
    (pss_cons (ps_while PassesOwn.never (pt_val (pe_call G_is_name hr rfl T.is_name.m T.is_name.F.kp T.is_name.b .nil pass0 (pa_cons (pe_meth0 (pv 0) T.cl_Reader T.me_Reader_coming G_Reader_coming hr T.Reader_coming.b .nil pass0) pa_nil))) (pss_cons (ps_set (i := 2) sc_Reader_read_names.nd rfl (Or.inl rfl) (pe_meth0 (pv 0) T.cl_Reader T.me_Reader_taken G_Reader_taken hr T.Reader_taken.b .nil pass0))
    (pss_cons (ps_if (pt_cmpR op_in_seq (pv 2) (pv 1) (by with_unfolding_all rfl)) (pss_one ps_never) pss_nil)
    (pss_one (ps_expr (pe_bm PySem.F.plainAttrs_list PySem.F.slot_list_append PySem.F.type_list_append mt_append (pv 1) (pa_cons (pv 2) pa_nil)))))))
    (pss_one (ps_ret (pv 1))))), ?_⟩
  try dsimp only [kx, kxb]
  refine ⟨Nat.zero_le _, fun D hD => ?_⟩
  have S0 := same_new hD (.lst [])
  have eD : upd H D (.lst []) D = some (.lst (List.map V.str [])) := upd_same
  generalize upd H D (.lst []) = H0 at S0 eD
  refine ⟨PRNames T.c_Reader H p lw D ws ns k, ⟨ns.length, none, [], ns, rfl, rfl, rfl, hR.but S0, .of S0, eD⟩, ?_⟩
  rintro m σ' H1 ⟨o, a, b, rfl, hab, rfl, hR1, B1, eD1⟩
  have nDp : D ≠ p := hR1.neT eD1 (fun _ _ _ z => by cases z)
  obtain ⟨dx, fs, e, hf⟩ := hR1.ob
  refine ⟨_, rfl, p, dx, fs, rfl, e, (hf.at_ _).trans (rdf_no ⟨by decide +kernel, by decide +kernel⟩), p, lw, ws, _, rfl, hR1, _, rfl, _, rfl, ?_⟩
  have hdr : ws.drop (k + a.length) = b ++ rest := drop_of (by rw [hw, hab, List.append_assoc])
  cases b with
  | nil =>
    rw [List.append_nil] at hab
    subst hab
    refine iteF' hend ⟨_, rfl, ?_⟩
    exact q D H1 hR1 B1 hD eD1
  | cons x b =>
    obtain ⟨h1, h2, h3⟩ := atW_of hdr
    rw [h1]
    refine iteT' (hnm x (by rw [hab]; simp)) ⟨_, fun _ _ z => z, ?_⟩
    refine ⟨_, rfl, p, dx, fs, rfl, e, (hf.at_ _).trans (rdf_no ⟨by decide +kernel, by decide +kernel⟩), p, lw, ws, _, rfl, hR1, fun H2 hR2 B2 => ?_⟩
    rw [h1]
    have eD2 := B2 _ _ nDp eD1
    have hxa : x ∉ a := by
      rw [hab] at hnd
      exact fun m => (List.nodup_append.mp hnd).2.2 x m x List.mem_cons_self rfl
    refine ⟨_, rfl, _, rfl, _, _, rfl, .inl (SqL.of eD2), rfl, flatS a, _, rfl, iteF' (inV_no hxa) ?_⟩
    have hal : a.length ≤ 1000 := by
      have := congrArg List.length hab
      rw [List.length_append] at this
      omega
    refine ⟨_, rfl, .inl ⟨rfl, _, SqL.of eD2⟩, _, rfl, D, _, _, rfl, rfl, eD2, by rw [List.length_map, sizeLine_eq]; omega, ?_⟩
    refine ⟨b.length, by simp, _, a ++ [x], b, rfl, by rw [hab]; simp, rfl, ?_, ?_, ?_⟩
    · have : k + (a ++ [x]).length = k + a.length + 1 := by simp; omega
      rw [this]
      exact hR2.upd nDp (fun z => by
        subst z
        have := hR.ew
        rw [hD] at this
        cases this) _
    · exact (B1.trans B2).at hD _
    · rw [upd_same, List.map_append]; rfl
end
end W10

set_option Elab.async false
set_option linter.all false
set_option maxRecDepth 100000
set_option maxHeartbeats 4000000
namespace W10
open PySem L2 J
section
variable {P : Program} {w : World} {K : PySem.W.Frag} {mg : Str → Option Value} {base : Heap}
/-! ### read_sum, read_test -/
theorem rd_no {C : Addr} {H : Hp} {p lw : Addr} {ws : List Str} {k : Nat} (h : RdAt C H p lw ws k) (m : Str) (hm : ¬ m = "words" ∧ ¬ m = "place") : ∃ dx fs, H p = some (.ins C dx fs) ∧ fs.lookup m = none := by
  obtain ⟨dx, fs, e, hf⟩ := h.ob
  exact ⟨dx, fs, e, (hf.at_ _).trans (rdf_no hm)⟩
def spRSum (C : Addr) (n : Nat) : Sp := fun vs H Q _ => ∃ (p lw : Addr) (ws : List Str) (k : Nat) (s : Sm Str) (rest : List Str), vs = [.ref p] ∧ RdAt C H p lw ws k ∧ s.dp ≤ n ∧ s.gd ∧ ws.drop k = s.words ++ rest ∧
  ∀ u H', RdAt C H' p lw ws (k + s.words.length) → But p H H' → IsSum H' u s → Q u H'
theorem ok_Reader_read_sum (T : Txt K mg) : ∀ n : Nat, FnOk P w K mg base CX0 (n + 3) T.f_Reader_read_sum T.fd_Reader_read_sum ["self"] (spRSum T.c_Reader n)
  | 0 => by
    have no : ∀ vs H Q E, ¬ spRSum T.c_Reader 0 vs H Q E := fun vs H Q E h => by
      obtain ⟨p, lw, ws, k, s, rest, _, _, h1, _⟩ := h
      cases s <;> exact absurd h1 (Nat.not_succ_le_zero _)
    exact ⟨fun vs H Q E h => absurd h (no vs H Q E), fun A outer s H args us vs Q E _ _ _ _ h => absurd h (no vs H Q E)⟩
  | n + 1 => by
    have G_Reader_read_sum := ok_Reader_read_sum T n
    have G_Reader_taken := (ok_Reader_taken (P := P) (w := w) (base := base) T).mono (show 2 ≤ n + 3 by omega)
    have G_is_name := (ok_is_name (P := P) (w := w) (base := base) T).mono (show 2 ≤ n + 3 by omega)
    have G_is_number := (ok_is_number (P := P) (w := w) (base := base) T).mono (show 2 ≤ n + 3 by omega)
    have G_number_of := (ok_number_of (P := P) (w := w) (base := base) T).mono (show 1 ≤ n + 3 by omega)
    refine T.Reader_read_sum.F.ok sc_Reader_read_sum (fun vs H Q E h => ?_) (fun cdv A outer s H vs Q E hr h => ?_)
    · obtain ⟨p, lw, ws, k, s, rest, rfl, _⟩ := h; rfl
    obtain ⟨p, lw, ws, k, s, rest, rfl, hR, hd, hg, hw, q⟩ := h
    refine ⟨_, (pss_cons (ps_set (i := 1) sc_Reader_read_sum.nd rfl (Or.inl rfl) (pe_meth0 (pv 0) T.cl_Reader T.me_Reader_taken G_Reader_taken hr T.Reader_taken.b .nil pass0))
    (pss_cons (ps_if (pt_cmpR op_in_seq (pv 1) (pe_glob (v := .ref T.a_SUM_WORDS) rfl T.m_SUM_WORDS rfl) (by with_unfolding_all rfl)) (pss_cons (ps_set (i := 2) sc_Reader_read_sum.nd rfl (Or.inl rfl) (pe_meth0 (pv 0) T.cl_Reader T.me_Reader_read_sum G_Reader_read_sum hr T.Reader_read_sum.b .nil pass0))
    (pss_one (ps_ret (pe_tup (pa_cons (pv 1) (pa_cons (pv 2) (pa_cons (pe_meth0 (pv 0) T.cl_Reader T.me_Reader_read_sum G_Reader_read_sum hr T.Reader_read_sum.b .nil pass0) pa_nil))))))) pss_nil)
    (pss_cons (ps_if (pt_val (pe_call G_is_name hr rfl T.is_name.m T.is_name.F.kp T.is_name.b .nil pass0 (pa_cons (pv 1) pa_nil))) (pss_one (ps_ret (pe_tup (pa_cons pe_str (pa_cons (pv 1) pa_nil))))) pss_nil)
    (pss_cons (ps_if (pt_val (pe_call G_is_number hr rfl T.is_number.m T.is_number.F.kp T.is_number.b .nil pass0 (pa_cons (pv 1) pa_nil))) (pss_one (ps_ret (pe_tup (pa_cons pe_str (pa_cons (pe_call G_number_of hr rfl T.number_of.m T.number_of.F.kp T.number_of.b .nil pass0 (pa_cons (pv 1) pa_nil)) pa_nil))))) pss_nil)
    (pss_one ps_never))))), ?_⟩
    try dsimp only [kx, kxb]
    have two : (2 : Nat) ≤ sizeLine := by decide
    have three : (3 : Nat) ≤ sizeLine := by decide
    obtain ⟨dx, fs, e, hn⟩ := rd_no hR "taken" ⟨by decide +kernel, by decide +kernel⟩
    refine ⟨_, rfl, p, dx, fs, rfl, e, hn, p, lw, ws, k, rfl, hR, fun H1 hR1 B1 => ?_⟩
    cases s with
    | num i =>
      obtain ⟨h1, h2, _⟩ := atW_of (r := rest) hw
      rw [h1]
      refine ⟨_, rfl, _, _, rfl, .inr (T.k_SUM_WORDS H1).sq, rfl, by decide +kernel, _, rfl, iteF' (num_no (ns := sumW) (by decide +kernel)) ?_⟩
      refine ⟨_, rfl, _, rfl, _, rfl, iteF' (num_nm i) ?_⟩
      refine ⟨_, rfl, _, rfl, hg, _, rfl, iteT' (numT_isNum i) ?_⟩
      refine ⟨_, rfl, _, rfl, hg, numT_isNum i, two, fun t ht => ?_⟩
      rw [numT_val]
      exact q _ _ (hR1.but (same_new ht _)) (B1.trans (.of (same_new ht _))) (.num upd_same)
    | name x =>
      obtain ⟨h1, h2, _⟩ := atW_of (r := rest) hw
      rw [h1]
      refine ⟨_, rfl, _, _, rfl, .inr (T.k_SUM_WORDS H1).sq, rfl, by decide +kernel, _, rfl, iteF' (nm_no (ns := sumW) hg (by decide +kernel)) ?_⟩
      refine ⟨_, rfl, _, rfl, _, rfl, iteT' hg ?_⟩
      refine ⟨_, rfl, two, fun t ht => ?_⟩
      exact q _ _ (hR1.but (same_new ht _)) (B1.trans (.of (same_new ht _))) (.name upd_same)
    | op o a b =>
      have hd2 : max a.dp b.dp + 1 ≤ n + 1 := hd
      obtain ⟨h1, h2, _⟩ := atW_of (x := o.w) (r := a.words ++ (b.words ++ rest)) (by rw [hw]; show o.w :: (a.words ++ b.words) ++ rest = _; simp)
      rw [h1]
      refine ⟨_, rfl, _, _, rfl, .inr (T.k_SUM_WORDS H1).sq, rfl, by decide +kernel, _, rfl, iteT' (by cases o <;> decide +kernel) ?_⟩
      obtain ⟨dx1, fs1, e1, hn1⟩ := rd_no hR1 "read_sum" ⟨by decide +kernel, by decide +kernel⟩
      refine ⟨_, rfl, p, dx1, fs1, rfl, e1, hn1, p, lw, ws, _, a, _, rfl, hR1, by omega, hg.1, h2, fun u H2 hR2 B2 hu => ?_⟩
      have h3 := drop_of h2
      obtain ⟨dx2, fs2, e2, hn2⟩ := rd_no hR2 "read_sum" ⟨by decide +kernel, by decide +kernel⟩
      refine ⟨_, rfl, _, rfl, _, rfl, p, dx2, fs2, rfl, e2, hn2, p, lw, ws, _, b, _, rfl, hR2, by omega, hg.2, h3, fun v H3 hR3 B3 hv => ⟨three, fun t ht => ?_⟩⟩
      have S := same_new ht (.tup [V.str o.w, u, v])
      have ek : k + 1 + a.words.length + b.words.length = k + (Sm.op o a b).words.length := by
        show _ = k + (o.w :: (a.words ++ b.words)).length
        rw [List.length_cons, List.length_append]
        omega
      rw [ek] at hR3
      exact q _ _ (hR3.but S) (B1.trans (B2.trans (B3.trans (.of S)))) (.op upd_same (hu.mono ((hR2.tup B3).trans S.tup)) (hv.mono S.tup))
def spRTest (C : Addr) (n : Nat) : Sp := fun vs H Q _ => ∃ (p lw : Addr) (ws : List Str) (k : Nat) (s : Ts) (rest : List Str), vs = [.ref p] ∧ RdAt C H p lw ws k ∧ s.dp ≤ n ∧ s.gd ∧ ws.drop k = s.words ++ rest ∧
  ∀ u H', RdAt C H' p lw ws (k + s.words.length) → But p H H' → IsTest H' u s → Q u H'
theorem ok_Reader_read_test (T : Txt K mg) : ∀ n : Nat, FnOk P w K mg base CX0 (n + 3) T.f_Reader_read_test T.fd_Reader_read_test ["self"] (spRTest T.c_Reader n)
  | 0 => by
    have no : ∀ vs H Q E, ¬ spRTest T.c_Reader 0 vs H Q E := fun vs H Q E h => by
      obtain ⟨p, lw, ws, k, s, rest, _, _, h1, _⟩ := h
      cases s <;> exact absurd h1 (Nat.not_succ_le_zero _)
    exact ⟨fun vs H Q E h => absurd h (no vs H Q E), fun A outer s H args us vs Q E _ _ _ _ h => absurd h (no vs H Q E)⟩
  | n + 1 => by
    have G_Reader_read_test := ok_Reader_read_test T n
    have G_Reader_read_sum := ok_Reader_read_sum (P := P) (w := w) (base := base) T n
    have G_Reader_taken := (ok_Reader_taken (P := P) (w := w) (base := base) T).mono (show 2 ≤ n + 3 by omega)
    refine T.Reader_read_test.F.ok sc_Reader_read_test (fun vs H Q E h => ?_) (fun cdv A outer s H vs Q E hr h => ?_)
    · obtain ⟨p, lw, ws, k, s, rest, rfl, _⟩ := h; rfl
    obtain ⟨p, lw, ws, k, s, rest, rfl, hR, hd, hg, hw, q⟩ := h
    refine ⟨_, (pss_cons (ps_set (i := 1) sc_Reader_read_test.nd rfl (Or.inl rfl) (pe_meth0 (pv 0) T.cl_Reader T.me_Reader_taken G_Reader_taken hr T.Reader_taken.b .nil pass0))
    (pss_cons (ps_if (pt_cmpR op_eq (pv 1) pe_str (nomark _)) (pss_one (ps_ret (pe_tup (pa_cons pe_str (pa_cons (pe_meth0 (pv 0) T.cl_Reader T.me_Reader_read_test G_Reader_read_test hr T.Reader_read_test.b .nil pass0) pa_nil))))) pss_nil)
    (pss_cons (ps_if (pt_cmpR op_eq (pv 1) pe_str (nomark _)) (pss_cons (ps_set (i := 2) sc_Reader_read_test.nd rfl (Or.inl rfl) (pe_meth0 (pv 0) T.cl_Reader T.me_Reader_read_test G_Reader_read_test hr T.Reader_read_test.b .nil pass0))
    (pss_one (ps_ret (pe_tup (pa_cons pe_str (pa_cons (pv 2) (pa_cons (pe_meth0 (pv 0) T.cl_Reader T.me_Reader_read_test G_Reader_read_test hr T.Reader_read_test.b .nil pass0) pa_nil))))))) pss_nil)
    (pss_cons (ps_if (pt_cmpR op_in_seq (pv 1) (pe_tup (pa_cons pe_str (pa_cons pe_str pa_nil))) (by with_unfolding_all rfl)) (pss_cons (ps_set (i := 2) sc_Reader_read_test.nd rfl (Or.inl rfl) (pe_meth0 (pv 0) T.cl_Reader T.me_Reader_read_sum G_Reader_read_sum hr T.Reader_read_sum.b .nil pass0))
    (pss_one (ps_ret (pe_tup (pa_cons (pv 1) (pa_cons (pv 2) (pa_cons (pe_meth0 (pv 0) T.cl_Reader T.me_Reader_read_sum G_Reader_read_sum hr T.Reader_read_sum.b .nil pass0) pa_nil))))))) pss_nil)
    (pss_one ps_never))))), ?_⟩
    try dsimp only [kx, kxb]
    have two : (2 : Nat) ≤ sizeLine := by decide
    have three : (3 : Nat) ≤ sizeLine := by decide
    obtain ⟨dx, fs, e, hn⟩ := rd_no hR "taken" ⟨by decide +kernel, by decide +kernel⟩
    refine ⟨_, rfl, p, dx, fs, rfl, e, hn, p, lw, ws, k, rfl, hR, fun H1 hR1 B1 => ?_⟩
    cases s with
    | not t =>
      have hd2 : t.dp + 1 ≤ n + 1 := hd
      obtain ⟨h1, h2, _⟩ := atW_of (r := t.words ++ rest) hw
      rw [h1]
      refine ⟨_, rfl, rfl, _, rfl, iteT' (by decide +kernel) ?_⟩
      obtain ⟨dx1, fs1, e1, hn1⟩ := rd_no hR1 "read_test" ⟨by decide +kernel, by decide +kernel⟩
      refine ⟨_, rfl, p, dx1, fs1, rfl, e1, hn1, p, lw, ws, _, t, _, rfl, hR1, by omega, hg, h2, fun u H2 hR2 B2 hu => ⟨two, fun r hr2 => ?_⟩⟩
      have S := same_new hr2 (.tup [V.str "not", u])
      have ek : k + 1 + t.words.length = k + (Ts.not t).words.length := by
        show _ = k + (t.words.length + 1)
        omega
      rw [ek] at hR2
      exact q _ _ (hR2.but S) (B1.trans (B2.trans (.of S))) (.not upd_same (hu.mono S.tup))
    | both t t2 =>
      have hd2 : max t.dp t2.dp + 1 ≤ n + 1 := hd
      obtain ⟨h1, h2, _⟩ := atW_of (x := "both") (r := t.words ++ (t2.words ++ rest)) (by rw [hw]; show _ :: (t.words ++ t2.words) ++ rest = _; simp)
      rw [h1]
      refine ⟨_, rfl, rfl, _, rfl, iteF' (by decide +kernel) ⟨_, rfl, rfl, _, rfl, iteT' (by decide +kernel) ?_⟩⟩
      obtain ⟨dx1, fs1, e1, hn1⟩ := rd_no hR1 "read_test" ⟨by decide +kernel, by decide +kernel⟩
      refine ⟨_, rfl, p, dx1, fs1, rfl, e1, hn1, p, lw, ws, _, t, _, rfl, hR1, by omega, hg.1, h2, fun u H2 hR2 B2 hu => ?_⟩
      have h3 := drop_of h2
      obtain ⟨dx2, fs2, e2, hn2⟩ := rd_no hR2 "read_test" ⟨by decide +kernel, by decide +kernel⟩
      refine ⟨_, rfl, _, rfl, p, dx2, fs2, rfl, e2, hn2, p, lw, ws, _, t2, _, rfl, hR2, by omega, hg.2, h3, fun v H3 hR3 B3 hv => ⟨three, fun r hr2 => ?_⟩⟩
      have S := same_new hr2 (.tup [V.str "both", u, v])
      have ek : k + 1 + t.words.length + t2.words.length = k + (Ts.both t t2).words.length := by
        show _ = k + ((t.words ++ t2.words).length + 1)
        rw [List.length_append]
        omega
      rw [ek] at hR3
      exact q _ _ (hR3.but S) (B1.trans (B2.trans (B3.trans (.of S)))) (.both upd_same (hu.mono ((hR2.tup B3).trans S.tup)) (hv.mono S.tup))
    | less a b =>
      have hd2 : max a.dp b.dp + 1 ≤ n + 1 := hd
      obtain ⟨h1, h2, _⟩ := atW_of (x := "less") (r := a.words ++ (b.words ++ rest)) (by rw [hw]; show _ :: (a.words ++ b.words) ++ rest = _; simp)
      rw [h1]
      refine ⟨_, rfl, rfl, _, rfl, iteF' (by decide +kernel) ⟨_, rfl, rfl, _, rfl, iteF' (by decide +kernel) ?_⟩⟩
      refine ⟨_, rfl, two, fun r0 hr0 => ?_⟩
      have S0 := same_new hr0 (.tup [V.str "less", V.str "same"])
      refine ⟨_, _, rfl, .inr (SqT.of upd_same), rfl, by decide +kernel, _, rfl, iteT' (by decide +kernel) ?_⟩
      have hR0 := hR1.but S0
      generalize upd H1 r0 (.tup [V.str "less", V.str "same"]) = H0 at S0 hR0
      obtain ⟨dx1, fs1, e1, hn1⟩ := rd_no hR0 "read_sum" ⟨by decide +kernel, by decide +kernel⟩
      refine ⟨_, rfl, p, dx1, fs1, rfl, e1, hn1, p, lw, ws, _, a, _, rfl, hR0, by omega, hg.1, h2, fun u H2 hR2 B2 hu => ?_⟩
      have h3 := drop_of h2
      obtain ⟨dx2, fs2, e2, hn2⟩ := rd_no hR2 "read_sum" ⟨by decide +kernel, by decide +kernel⟩
      refine ⟨_, rfl, _, rfl, _, rfl, p, dx2, fs2, rfl, e2, hn2, p, lw, ws, _, b, _, rfl, hR2, by omega, hg.2, h3, fun v H3 hR3 B3 hv => ⟨three, fun r hr2 => ?_⟩⟩
      have S := same_new hr2 (.tup [V.str "less", u, v])
      have ek : k + 1 + a.words.length + b.words.length = k + (Ts.less a b).words.length := by
        show _ = k + ((a.words ++ b.words).length + 1)
        rw [List.length_append]
        omega
      rw [ek] at hR3
      exact q _ _ (hR3.but S) (B1.trans ((But.of S0).trans (B2.trans (B3.trans (.of S))))) (.less upd_same (hu.mono ((hR2.tup B3).trans S.tup)) (hv.mono S.tup))
    | same a b =>
      have hd2 : max a.dp b.dp + 1 ≤ n + 1 := hd
      obtain ⟨h1, h2, _⟩ := atW_of (x := "same") (r := a.words ++ (b.words ++ rest)) (by rw [hw]; show _ :: (a.words ++ b.words) ++ rest = _; simp)
      rw [h1]
      refine ⟨_, rfl, rfl, _, rfl, iteF' (by decide +kernel) ⟨_, rfl, rfl, _, rfl, iteF' (by decide +kernel) ?_⟩⟩
      refine ⟨_, rfl, two, fun r0 hr0 => ?_⟩
      have S0 := same_new hr0 (.tup [V.str "less", V.str "same"])
      refine ⟨_, _, rfl, .inr (SqT.of upd_same), rfl, by decide +kernel, _, rfl, iteT' (by decide +kernel) ?_⟩
      have hR0 := hR1.but S0
      generalize upd H1 r0 (.tup [V.str "less", V.str "same"]) = H0 at S0 hR0
      obtain ⟨dx1, fs1, e1, hn1⟩ := rd_no hR0 "read_sum" ⟨by decide +kernel, by decide +kernel⟩
      refine ⟨_, rfl, p, dx1, fs1, rfl, e1, hn1, p, lw, ws, _, a, _, rfl, hR0, by omega, hg.1, h2, fun u H2 hR2 B2 hu => ?_⟩
      have h3 := drop_of h2
      obtain ⟨dx2, fs2, e2, hn2⟩ := rd_no hR2 "read_sum" ⟨by decide +kernel, by decide +kernel⟩
      refine ⟨_, rfl, _, rfl, _, rfl, p, dx2, fs2, rfl, e2, hn2, p, lw, ws, _, b, _, rfl, hR2, by omega, hg.2, h3, fun v H3 hR3 B3 hv => ⟨three, fun r hr2 => ?_⟩⟩
      have S := same_new hr2 (.tup [V.str "same", u, v])
      have ek : k + 1 + a.words.length + b.words.length = k + (Ts.same a b).words.length := by
        show _ = k + ((a.words ++ b.words).length + 1)
        rw [List.length_append]
        omega
      rw [ek] at hR3
      exact q _ _ (hR3.but S) (B1.trans ((But.of S0).trans (B2.trans (B3.trans (.of S))))) (.same upd_same (hu.mono ((hR2.tup B3).trans S.tup)) (hv.mono S.tup))
end
end W10

set_option Elab.async false
set_option linter.all false
set_option maxRecDepth 100000
set_option maxHeartbeats 4000000
namespace W10
open PySem L2 J
section
variable {P : Program} {w : World} {K : PySem.W.Frag} {mg : Str → Option Value} {base : Heap}
/-! ### read_block -/
def spRBlock (C : Addr) (n : Nat) : Sp := fun vs H Q _ => ∃ (p lw : Addr) (ws : List Str) (k : Nat) (b : Bk) (rest : List Str), vs = [.ref p] ∧ RdAt C H p lw ws k ∧ b.dp ≤ n ∧ b.gd ∧ b.n ≤ 10000 ∧ ws.drop k = b.ws ++ rest ∧ atW ws (k + b.ws.length) ∉ ordW ∧
  ∀ r us H', RdAt C H' p lw ws (k + b.ws.length) → But p H H' → H r = none → H' r = some (.lst us) → IsBk H' (fun a => H a ≠ none) us b → Q (.ref r) H'
def MB (H : Hp) (D : Addr) : Addr → Prop := fun x => H x ≠ none ∨ x = D
/-- the list so far and what is still to come -/
structure RBk (C : Addr) (H : Hp) (p lw D : Addr) (ws : List Str) (k1 : Nat) (us : List V) (a : Bk) (H1 : Hp) : Prop where
  rd : RdAt C H1 p lw ws k1
  bt : But p H H1
  ed : H1 D = some (.lst us)
  bk : IsBk H1 (MB H D) us a
theorem RBk.nd {C : Addr} {H : Hp} {p lw D : Addr} {ws : List Str} {k1 : Nat} {us : List V} {a : Bk} {H1 : Hp} (h : RBk C H p lw D ws k1 us a H1) : D ≠ p := h.rd.neT h.ed (fun _ _ _ z => by cases z)
theorem RBk.step {C : Addr} {H : Hp} {p lw D : Addr} {ws : List Str} {k1 k2 : Nat} {us : List V} {a : Bk} {H1 H2 : Hp} (hp : H p ≠ none) (h : RBk C H p lw D ws k1 us a H1) (hR : RdAt C H2 p lw ws k2) (B : But p H1 H2) : RBk C H p lw D ws k2 us a H2 :=
  ⟨hR, h.bt.trans B, B _ _ h.nd h.ed, h.bk.mono (fun x o n e => B x o (fun z => n (.inl (by rw [z]; exact hp))) e) (h.rd.tup B) (fun _ _ z => z)⟩
theorem RBk.same {C : Addr} {H : Hp} {p lw D : Addr} {ws : List Str} {k1 : Nat} {us : List V} {a : Bk} {H1 H2 : Hp} (h : RBk C H p lw D ws k1 us a H1) (S : Same H1 H2) : RBk C H p lw D ws k1 us a H2 :=
  ⟨h.rd.but S, h.bt.trans (.of S), S _ _ h.ed, h.bk.mono (.of S) S.tup (fun _ _ z => z)⟩
theorem RBk.app {C : Addr} {H : Hp} {p lw D : Addr} {ws : List Str} {k1 : Nat} {us : List V} {a o : Bk} {H1 : Hp} {v : V} (hD : H D = none) (hl : H lw ≠ none) (h : RBk C H p lw D ws k1 us a H1) (ho : IsBk H1 (MB H D) [v] o) : RBk C H p lw D ws k1 (us ++ [v]) (a.app o) (upd H1 D (.lst (us ++ [v]))) :=
  ⟨h.rd.upd h.nd (fun z => hl (by rw [← z]; exact hD)) _, h.bt.at hD _, upd_same,
    (h.bk.app ho).mono (out_upd (.inr rfl) _) ((but_upd _).tup h.ed) (fun _ _ z => z)⟩
/-- what an inner block gives -/
theorem RBk.inner {C : Addr} {H : Hp} {p lw D : Addr} {ws : List Str} {k1 : Nat} {us vb : List V} {a b : Bk} {H1 H2 : Hp} {r : Addr} (hp : H p ≠ none) (h : RBk C H p lw D ws k1 us a H1) (hr : H1 r = none) (hb : IsBk H2 (fun x => H1 x ≠ none) vb b) : IsBk H2 (MB H D) vb b ∧ ¬ MB H D r := by
  have hM : ∀ x, MB H D x → H1 x ≠ none := fun x z => by
    rcases z with z | z
    · by_cases e : x = p
      · obtain ⟨dx, fs, e1, _⟩ := h.rd.ob
        rw [e, e1]; exact fun z => by cases z
      · cases hx : H x with
        | none => exact absurd hx z
        | some o => rw [h.bt x o e hx]; exact fun z => by cases z
    · rw [z, h.ed]; exact fun z => by cases z
  exact ⟨hb.mono (fun _ _ _ e => e) (TupLe.refl _) (fun x _ z => hM x z), fun z => hM r z hr⟩
def PRBlock (C : Addr) (H : Hp) (p lw D : Addr) (ws : List Str) (k : Nat) (b : Bk) (rest : List Str) (n m : Nat) (σ : St) (H1 : Hp) : Prop :=
  ∃ o2 o3 o4 o5 o6 k1 us a b1, σ = [some (.ref p), some (.ref D), o2, o3, o4, o5, o6] ∧ RBk C H p lw D ws k1 us a H1 ∧ ws.drop k1 = b1.ws ++ rest ∧ k1 + b1.ws.length = k + b.ws.length ∧ m = b1.n ∧ b1.dp ≤ n ∧ b1.gd ∧ a.app b1 = b
theorem ok_Reader_read_block (T : Txt K mg) : ∀ n : Nat, FnOk P w K mg base CX0 (n + 24) T.f_Reader_read_block T.fd_Reader_read_block ["self"] (spRBlock T.c_Reader n)
  | 0 => by
    have no : ∀ vs H Q E, ¬ spRBlock T.c_Reader 0 vs H Q E := fun vs H Q E h => by
      obtain ⟨p, lw, ws, k, b, rest, _, _, h1, _⟩ := h
      have := b.dp_pos
      omega
    exact ⟨fun vs H Q E h => absurd h (no vs H Q E), fun A outer s H args us vs Q E _ _ _ _ h => absurd h (no vs H Q E)⟩
  | n + 1 => by
    have G_Reader_read_block := ok_Reader_read_block T n
    have G_Reader_coming := (ok_Reader_coming (P := P) (w := w) (base := base) T).mono (show 1 ≤ n + 24 by omega)
    have G_Reader_taken := (ok_Reader_taken (P := P) (w := w) (base := base) T).mono (show 2 ≤ n + 24 by omega)
    have G_Reader_need := (ok_Reader_need (P := P) (w := w) (base := base) T).mono (show 3 ≤ n + 24 by omega)
    have G_Reader_read_name := (ok_Reader_read_name (P := P) (w := w) (base := base) T).mono (show 3 ≤ n + 24 by omega)
    have G_Reader_read_sum := (ok_Reader_read_sum (P := P) (w := w) (base := base) T 20).mono (show 23 ≤ n + 24 by omega)
    have G_Reader_read_test := (ok_Reader_read_test (P := P) (w := w) (base := base) T 20).mono (show 23 ≤ n + 24 by omega)
    refine T.Reader_read_block.F.ok sc_Reader_read_block (fun vs H Q E h => ?_) (fun cdv A outer s H vs Q E hr h => ?_)
    · obtain ⟨p, lw, ws, k, b, rest, rfl, _⟩ := h; rfl
    obtain ⟨p, lw, ws, k, b, rest, rfl, hR, hd, hg, hbn, hw, hend, q⟩ := h
    refine ⟨_, (pss_cons (ps_set (i := 1) sc_Reader_read_block.nd rfl (Or.inl rfl) (pe_lst pa_nil))
    (pss_cons (ps_while PassesOwn.never (pt_cmpR op_in_seq (pe_meth0 (pv 0) T.cl_Reader T.me_Reader_coming G_Reader_coming hr T.Reader_coming.b .nil pass0) (pe_glob (v := .ref T.a_ORDER_WORDS) rfl T.m_ORDER_WORDS rfl) (by with_unfolding_all rfl)) (pss_cons (ps_set (i := 2) sc_Reader_read_block.nd rfl (Or.inl rfl) (pe_meth0 (pv 0) T.cl_Reader T.me_Reader_taken G_Reader_taken hr T.Reader_taken.b .nil pass0))
    (pss_one (ps_if (pt_cmpR op_eq (pv 2) pe_str (nomark _)) (pss_cons (ps_set (i := 3) sc_Reader_read_block.nd rfl (Or.inl rfl) (pe_meth0 (pv 0) T.cl_Reader T.me_Reader_read_name G_Reader_read_name hr T.Reader_read_name.b .nil pass0))
    (pss_one (ps_expr (pe_bm PySem.F.plainAttrs_list PySem.F.slot_list_append PySem.F.type_list_append mt_append (pv 1) (pa_cons (pe_tup (pa_cons pe_str (pa_cons (pv 3) (pa_cons (pe_meth0 (pv 0) T.cl_Reader T.me_Reader_read_sum G_Reader_read_sum hr T.Reader_read_sum.b .nil pass0) pa_nil)))) pa_nil))))) (pss_one (ps_if (pt_cmpR op_eq (pv 2) pe_str (nomark _)) (pss_one (ps_expr (pe_bm PySem.F.plainAttrs_list PySem.F.slot_list_append PySem.F.type_list_append mt_append (pv 1) (pa_cons (pe_tup (pa_cons pe_str (pa_cons (pe_meth0 (pv 0) T.cl_Reader T.me_Reader_read_sum G_Reader_read_sum hr T.Reader_read_sum.b .nil pass0) pa_nil))) pa_nil)))) (pss_one (ps_if (pt_cmpR op_eq (pv 2) pe_str (nomark _)) (pss_cons (ps_set (i := 4) sc_Reader_read_block.nd rfl (Or.inl rfl) (pe_meth0 (pv 0) T.cl_Reader T.me_Reader_read_test G_Reader_read_test hr T.Reader_read_test.b .nil pass0))
    (pss_cons (ps_set (i := 5) sc_Reader_read_block.nd rfl (Or.inl rfl) (pe_meth0 (pv 0) T.cl_Reader T.me_Reader_read_block G_Reader_read_block hr T.Reader_read_block.b .nil pass0))
    (pss_cons (ps_expr (pe_meth (pv 0) T.cl_Reader T.me_Reader_need G_Reader_need hr T.Reader_need.b .nil pass0 (pa_cons pe_str pa_nil)))
    (pss_cons (ps_expr (pe_bm PySem.F.plainAttrs_list PySem.F.slot_list_append PySem.F.type_list_append mt_append (pv 1) (pa_cons (pe_tup (pa_cons pe_str (pa_cons (pv 4) (pa_cons (pv 5) (pa_cons (pe_meth0 (pv 0) T.cl_Reader T.me_Reader_read_block G_Reader_read_block hr T.Reader_read_block.b .nil pass0) pa_nil))))) pa_nil)))
    (pss_one (ps_expr (pe_meth (pv 0) T.cl_Reader T.me_Reader_need G_Reader_need hr T.Reader_need.b .nil pass0 (pa_cons pe_str pa_nil)))))))) (pss_one (ps_if (pt_cmpR op_eq (pv 2) pe_str (nomark _)) (pss_cons (ps_set (i := 4) sc_Reader_read_block.nd rfl (Or.inl rfl) (pe_meth0 (pv 0) T.cl_Reader T.me_Reader_read_test G_Reader_read_test hr T.Reader_read_test.b .nil pass0))
    (pss_cons (ps_expr (pe_bm PySem.F.plainAttrs_list PySem.F.slot_list_append PySem.F.type_list_append mt_append (pv 1) (pa_cons (pe_tup (pa_cons pe_str (pa_cons (pv 4) (pa_cons (pe_meth0 (pv 0) T.cl_Reader T.me_Reader_read_block G_Reader_read_block hr T.Reader_read_block.b .nil pass0) pa_nil)))) pa_nil)))
    (pss_one (ps_expr (pe_meth (pv 0) T.cl_Reader T.me_Reader_need G_Reader_need hr T.Reader_need.b .nil pass0 (pa_cons pe_str pa_nil)))))) (pss_cons (ps_set (i := 3) sc_Reader_read_block.nd rfl (Or.inl rfl) (pe_meth0 (pv 0) T.cl_Reader T.me_Reader_read_name G_Reader_read_name hr T.Reader_read_name.b .nil pass0))
    (pss_cons (ps_set (i := 6) sc_Reader_read_block.nd rfl (Or.inl rfl) (pe_meth0 (pv 0) T.cl_Reader T.me_Reader_read_sum G_Reader_read_sum hr T.Reader_read_sum.b .nil pass0))
    (pss_cons (ps_expr (pe_bm PySem.F.plainAttrs_list PySem.F.slot_list_append PySem.F.type_list_append mt_append (pv 1) (pa_cons (pe_tup (pa_cons pe_str (pa_cons (pv 3) (pa_cons (pv 6) (pa_cons (pe_meth0 (pv 0) T.cl_Reader T.me_Reader_read_block G_Reader_read_block hr T.Reader_read_block.b .nil pass0) pa_nil))))) pa_nil)))
    (pss_one (ps_expr (pe_meth (pv 0) T.cl_Reader T.me_Reader_need G_Reader_need hr T.Reader_need.b .nil pass0 (pa_cons pe_str pa_nil)))))))))))))))))
    (pss_one (ps_ret (pv 1))))), ?_⟩
    try dsimp only [kx, kxb]
    have two : (2 : Nat) ≤ sizeLine := by decide
    have three : (3 : Nat) ≤ sizeLine := by decide
    have four : (4 : Nat) ≤ sizeLine := by decide
    have hp : H p ≠ none := by obtain ⟨dx, fs, e, _⟩ := hR.ob; rw [e]; exact fun z => by cases z
    have hl : H lw ≠ none := by rw [hR.ew]; exact fun z => by cases z
    refine ⟨Nat.zero_le _, fun D hD => ?_⟩
    have S0 := same_new hD (.lst [])
    have eD : upd H D (.lst []) D = some (.lst []) := upd_same
    generalize upd H D (.lst []) = H0 at S0 eD
    refine ⟨PRBlock T.c_Reader H p lw D ws k b rest (n + 1), ⟨b.n, none, none, none, none, none, k, [], .nil, b, rfl, ⟨hR.but S0, .of S0, eD, .nil⟩, hw, rfl, rfl, hd, hg, rfl⟩, ?_⟩
    rintro m σ' H1 ⟨o2, o3, o4, o5, o6, k1, us, a, b1, rfl, hB, hdr, hk1, rfl, hd1, hg1, hab⟩
    have hR1 := hB.rd
    obtain ⟨dx, fs, e, hn⟩ := rd_no hR1 "coming" ⟨by decide +kernel, by decide +kernel⟩
    refine ⟨_, rfl, p, dx, fs, rfl, e, hn, p, lw, ws, k1, rfl, hR1, _, _, rfl, .inr (T.k_ORDER_WORDS H1).sq, rfl, by decide +kernel, _, rfl, ?_⟩
    have hul := hB.bk.len
    have hnn := congrArg Bk.n hab
    rw [Bk.n_app] at hnn
    have hus : us.length < sizeLine := by rw [sizeLine_eq]; omega
    cases b1 with
    | nil =>
      have ek : k1 = k + b.ws.length := hk1
      subst ek
      refine iteF' (inV_no (ns := ordW) hend) ⟨_, rfl, ?_⟩
      rw [Bk.app_nil] at hab
      subst hab
      exact q D us H1 hR1 hB.bt hD hB.ed (hB.bk.mono (fun _ _ _ e => e) (TupLe.refl _) (fun _ _ z => .inl z))
    | set x s r =>
      obtain ⟨h1, h2, _⟩ := atW_of (x := "set") (r := x :: (s.words ++ (r.ws ++ rest))) (by rw [hdr]; simp [Bk.ws])
      rw [h1]
      refine iteT' (by decide +kernel) ⟨_, fun _ _ z => z, ?_⟩
      obtain ⟨dx, fs, e, hn⟩ := rd_no hR1 "taken" ⟨by decide +kernel, by decide +kernel⟩
      refine ⟨_, rfl, p, dx, fs, rfl, e, hn, p, lw, ws, k1, rfl, hR1, fun H2 hR2 B2 => ?_⟩
      rw [h1]
      have hB2 := hB.step hp hR2 B2
      refine ⟨_, rfl, rfl, _, rfl, iteT' (by decide +kernel) ?_⟩
      obtain ⟨dx2, fs2, e2, hn2⟩ := rd_no hR2 "read_name" ⟨by decide +kernel, by decide +kernel⟩
      obtain ⟨h3, h4, _⟩ := atW_of h2
      refine ⟨_, rfl, p, dx2, fs2, rfl, e2, hn2, p, lw, ws, _, rfl, hR2, by rw [h3]; exact hg1.1, fun H3 hR3 B3 => ?_⟩
      rw [h3]
      have hB3 := hB2.step hp hR3 B3
      obtain ⟨dx3, fs3, e3, hn3⟩ := rd_no hR3 "read_sum" ⟨by decide +kernel, by decide +kernel⟩
      refine ⟨_, rfl, .inl ⟨rfl, _, SqL.of hB3.ed⟩, _, rfl, _, rfl, p, dx3, fs3, rfl, e3, hn3, p, lw, ws, _, s, _, rfl, hR3, hg1.2.2.1, hg1.2.1, h4, fun u H4 hR4 B4 hu => ⟨three, fun t ht => ?_⟩⟩
      have hB4 := hB3.step hp hR4 B4
      have S := same_new ht (.tup [V.str "set", V.str x, u])
      have hB5 := hB4.same S
      have ho : IsBk (upd H4 t (.tup [V.str "set", V.str x, u])) (MB H D) [.ref t] (.set x s .nil) := .set upd_same (hu.mono S.tup) .nil
      refine ⟨D, us, _, rfl, rfl, hB5.ed, hus, ?_⟩
      refine ⟨r.n, by show r.n < r.n + 1; omega, _, _, _, _, _, _, _, _, r, rfl, hB5.app hD hl ho, drop_of h4, ?_, rfl, hd1, hg1.2.2.2, ?_⟩
      · rw [← hk1]
        show _ = k1 + (("set" : Str) :: x :: (s.words ++ r.ws)).length
        simp only [List.length_cons, List.length_append]
        omega
      · rw [← hab, Bk.app_assoc]
        rfl
    | say s r =>
      obtain ⟨h1, h2, _⟩ := atW_of (x := "say") (r := s.words ++ (r.ws ++ rest)) (by rw [hdr]; simp [Bk.ws])
      rw [h1]
      refine iteT' (by decide +kernel) ⟨_, fun _ _ z => z, ?_⟩
      obtain ⟨dx, fs, e, hn⟩ := rd_no hR1 "taken" ⟨by decide +kernel, by decide +kernel⟩
      refine ⟨_, rfl, p, dx, fs, rfl, e, hn, p, lw, ws, k1, rfl, hR1, fun H2 hR2 B2 => ?_⟩
      rw [h1]
      have hB2 := hB.step hp hR2 B2
      refine ⟨_, rfl, rfl, _, rfl, iteF' (by decide +kernel) ?_⟩
      refine ⟨_, rfl, rfl, _, rfl, iteT' (by decide +kernel) ?_⟩
      obtain ⟨dx2, fs2, e2, hn2⟩ := rd_no hR2 "read_sum" ⟨by decide +kernel, by decide +kernel⟩
      refine ⟨_, rfl, .inl ⟨rfl, _, SqL.of hB2.ed⟩, _, rfl, p, dx2, fs2, rfl, e2, hn2, p, lw, ws, _, s, _, rfl, hR2, hg1.2.1, hg1.1, h2, fun u H4 hR4 B4 hu => ⟨two, fun t ht => ?_⟩⟩
      have hB4 := hB2.step hp hR4 B4
      have S := same_new ht (.tup [V.str "say", u])
      have hB5 := hB4.same S
      have ho : IsBk (upd H4 t (.tup [V.str "say", u])) (MB H D) [.ref t] (.say s .nil) := .say upd_same (hu.mono S.tup) .nil
      refine ⟨D, us, _, rfl, rfl, hB5.ed, hus, ?_⟩
      refine ⟨r.n, by show r.n < r.n + 1; omega, _, _, _, _, _, _, _, _, r, rfl, hB5.app hD hl ho, drop_of h2, ?_, rfl, hd1, hg1.2.2, ?_⟩
      · rw [← hk1]
        show _ = k1 + (("say" : Str) :: (s.words ++ r.ws)).length
        simp only [List.length_cons, List.length_append]
        omega
      · rw [← hab, Bk.app_assoc]
        rfl
    | when t b2 c2 r =>
      obtain ⟨h1, h2, _⟩ := atW_of (x := "when") (r := t.words ++ (b2.ws ++ (("else" : Str) :: (c2.ws ++ (("end" : Str) :: (r.ws ++ rest)))))) (by rw [hdr]; simp [Bk.ws])
      rw [h1]
      refine iteT' (by decide +kernel) ⟨_, fun _ _ z => z, ?_⟩
      obtain ⟨dx, fs, e, hn⟩ := rd_no hR1 "taken" ⟨by decide +kernel, by decide +kernel⟩
      refine ⟨_, rfl, p, dx, fs, rfl, e, hn, p, lw, ws, k1, rfl, hR1, fun H2 hR2 B2 => ?_⟩
      rw [h1]
      have hB2 := hB.step hp hR2 B2
      refine ⟨_, rfl, rfl, _, rfl, iteF' (by decide +kernel) ?_⟩
      refine ⟨_, rfl, rfl, _, rfl, iteF' (by decide +kernel) ?_⟩
      refine ⟨_, rfl, rfl, _, rfl, iteT' (by decide +kernel) ?_⟩
      obtain ⟨dx2, fs2, e2, hn2⟩ := rd_no hR2 "read_test" ⟨by decide +kernel, by decide +kernel⟩
      have hdd : max (max (b2.dp + 1) (c2.dp + 1)) r.dp ≤ n + 1 := hd1
      have hnn2 : b2.n + c2.n + r.n + 1 ≤ 10000 := by have : (Bk.when t b2 c2 r).n = b2.n + c2.n + r.n + 1 := rfl; omega
      refine ⟨_, rfl, p, dx2, fs2, rfl, e2, hn2, p, lw, ws, _, t, _, rfl, hR2, hg1.2.1, hg1.1, h2, fun u H3 hR3 B3 hu => ?_⟩
      have hB3 := hB2.step hp hR3 B3
      have h4 := drop_of h2
      have h5 := drop_of h4
      obtain ⟨h6, h7, _⟩ := atW_of h5
      have h8 := drop_of h7
      obtain ⟨h9, h10, _⟩ := atW_of h8
      obtain ⟨dx3, fs3, e3, hn3⟩ := rd_no hR3 "read_block" ⟨by decide +kernel, by decide +kernel⟩
      refine ⟨_, rfl, p, dx3, fs3, rfl, e3, hn3, p, lw, ws, _, b2, _, rfl, hR3, by omega, hg1.2.2.1, by omega, h4, by rw [h6]; decide +kernel, fun r1 vb H4 hR4 B4 hr1 er1 hb => ?_⟩
      have hB4 := hB3.step hp hR4 B4
      obtain ⟨hb2, hm⟩ := hB3.inner hp hr1 hb
      have hu4 := hu.mono (hR3.tup B4)
      have nr4 : r1 ≠ p := hR4.neT er1 (fun _ _ _ z => by cases z)
      obtain ⟨dx4, fs4, e4, hn4⟩ := rd_no hR4 "need" ⟨by decide +kernel, by decide +kernel⟩
      refine ⟨_, rfl, p, dx4, fs4, rfl, e4, hn4, p, lw, ws, _, _, rfl, h6, hR4, fun H5 hR5 B5 => ?_⟩
      have hB5 := hB4.step hp hR5 B5
      have hb5 : IsBk H5 (MB H D) vb b2 := hb2.mono (fun x o n e => B5 x o (fun z => n (.inl (by rw [z]; exact hp))) e) (hR4.tup B5) (fun _ _ z => z)
      have er5 := B5 _ _ nr4 er1
      have hu5 := hu4.mono (hR4.tup B5)
      obtain ⟨dx5, fs5, e5, hn5⟩ := rd_no hR5 "read_block" ⟨by decide +kernel, by decide +kernel⟩
      refine ⟨_, rfl, .inl ⟨rfl, _, SqL.of hB5.ed⟩, _, rfl, _, rfl, _, rfl, p, dx5, fs5, rfl, e5, hn5, p, lw, ws, _, c2, _, rfl, hR5, by omega, hg1.2.2.2.1, by omega, h7, by rw [h9]; decide +kernel, fun r2 vc H6 hR6 B6 hr2 er2 hc => ⟨four, fun z hz => ?_⟩⟩
      have hB6 := hB5.step hp hR6 B6
      obtain ⟨hc2, hm2⟩ := hB5.inner hp hr2 hc
      have hb6 : IsBk H6 (MB H D) vb b2 := hb5.mono (fun x o n e => B6 x o (fun z => n (.inl (by rw [z]; exact hp))) e) (hR5.tup B6) (fun _ _ z => z)
      have er6 := B6 _ _ nr4 er5
      have hu6 := hu5.mono (hR5.tup B6)
      have S := same_new hz (.tup [V.str "when", u, .ref r1, .ref r2])
      have hB7 := hB6.same S
      have ho : IsBk (upd H6 z (.tup [V.str "when", u, .ref r1, .ref r2])) (MB H D) [.ref z] (.when t b2 c2 .nil) := .when upd_same (hu6.mono S.tup) hm (S _ _ er6) (hb6.mono (.of S) S.tup (fun _ _ z => z)) hm2 (S _ _ er2) (hc2.mono (.of S) S.tup (fun _ _ z => z)) .nil
      refine ⟨D, us, _, rfl, rfl, hB7.ed, hus, ?_⟩
      have hB8 := hB7.app hD hl ho
      generalize upd (upd H6 z (.tup [V.str "when", u, .ref r1, .ref r2])) D (.lst (us ++ [.ref z])) = H8 at hB8
      have hR8 := hB8.rd
      obtain ⟨dx8, fs8, e8, hn8⟩ := rd_no hR8 "need" ⟨by decide +kernel, by decide +kernel⟩
      refine ⟨_, rfl, p, dx8, fs8, rfl, e8, hn8, p, lw, ws, _, _, rfl, h9, hR8, fun H9 hR9 B9 => ?_⟩
      refine ⟨r.n, by show r.n < b2.n + c2.n + r.n + 1; omega, _, _, _, _, _, _, _, _, r, rfl, hB8.step hp hR9 B9, h10, ?_, rfl, by omega, hg1.2.2.2.2, ?_⟩
      · rw [← hk1]
        show _ = k1 + (("when" : Str) :: (t.words ++ (b2.ws ++ (("else" : Str) :: (c2.ws ++ (("end" : Str) :: r.ws)))))).length
        simp only [List.length_cons, List.length_append]
        omega
      · rw [← hab, Bk.app_assoc]
        rfl
    | whil t b2 r =>
      obtain ⟨h1, h2, _⟩ := atW_of (x := "while") (r := t.words ++ (b2.ws ++ (("end" : Str) :: (r.ws ++ rest)))) (by rw [hdr]; simp [Bk.ws])
      rw [h1]
      refine iteT' (by decide +kernel) ⟨_, fun _ _ z => z, ?_⟩
      obtain ⟨dx, fs, e, hn⟩ := rd_no hR1 "taken" ⟨by decide +kernel, by decide +kernel⟩
      refine ⟨_, rfl, p, dx, fs, rfl, e, hn, p, lw, ws, k1, rfl, hR1, fun H2 hR2 B2 => ?_⟩
      rw [h1]
      have hB2 := hB.step hp hR2 B2
      refine ⟨_, rfl, rfl, _, rfl, iteF' (by decide +kernel) ?_⟩
      refine ⟨_, rfl, rfl, _, rfl, iteF' (by decide +kernel) ?_⟩
      refine ⟨_, rfl, rfl, _, rfl, iteF' (by decide +kernel) ?_⟩
      refine ⟨_, rfl, rfl, _, rfl, iteT' (by decide +kernel) ?_⟩
      obtain ⟨dx2, fs2, e2, hn2⟩ := rd_no hR2 "read_test" ⟨by decide +kernel, by decide +kernel⟩
      have hdd : max (b2.dp + 1) r.dp ≤ n + 1 := hd1
      have hnn2 : b2.n + r.n + 1 ≤ 10000 := by have : (Bk.whil t b2 r).n = b2.n + r.n + 1 := rfl; omega
      refine ⟨_, rfl, p, dx2, fs2, rfl, e2, hn2, p, lw, ws, _, t, _, rfl, hR2, hg1.2.1, hg1.1, h2, fun u H3 hR3 B3 hu => ?_⟩
      have hB3 := hB2.step hp hR3 B3
      have h4 := drop_of h2
      have h5 := drop_of h4
      obtain ⟨h6, h7, _⟩ := atW_of h5
      obtain ⟨dx3, fs3, e3, hn3⟩ := rd_no hR3 "read_block" ⟨by decide +kernel, by decide +kernel⟩
      refine ⟨_, rfl, .inl ⟨rfl, _, SqL.of hB3.ed⟩, _, rfl, _, rfl, p, dx3, fs3, rfl, e3, hn3, p, lw, ws, _, b2, _, rfl, hR3, by omega, hg1.2.2.1, by omega, h4, by rw [h6]; decide +kernel, fun r1 vb H4 hR4 B4 hr1 er1 hb => ⟨three, fun z hz => ?_⟩⟩
      have hB4 := hB3.step hp hR4 B4
      obtain ⟨hb2, hm⟩ := hB3.inner hp hr1 hb
      have hu4 := hu.mono (hR3.tup B4)
      have S := same_new hz (.tup [V.str "while", u, .ref r1])
      have hB5 := hB4.same S
      have ho : IsBk (upd H4 z (.tup [V.str "while", u, .ref r1])) (MB H D) [.ref z] (.whil t b2 .nil) := .whil upd_same (hu4.mono S.tup) hm (S _ _ er1) (hb2.mono (.of S) S.tup (fun _ _ z => z)) .nil
      refine ⟨D, us, _, rfl, rfl, hB5.ed, hus, ?_⟩
      have hB6 := hB5.app hD hl ho
      generalize upd (upd H4 z (.tup [V.str "while", u, .ref r1])) D (.lst (us ++ [.ref z])) = H6 at hB6
      have hR6 := hB6.rd
      obtain ⟨dx6, fs6, e6, hn6⟩ := rd_no hR6 "need" ⟨by decide +kernel, by decide +kernel⟩
      refine ⟨_, rfl, p, dx6, fs6, rfl, e6, hn6, p, lw, ws, _, _, rfl, h6, hR6, fun H7 hR7 B7 => ?_⟩
      refine ⟨r.n, by show r.n < b2.n + r.n + 1; omega, _, _, _, _, _, _, _, _, r, rfl, hB6.step hp hR7 B7, h7, ?_, rfl, by omega, hg1.2.2.2, ?_⟩
      · rw [← hk1]
        show _ = k1 + (("while" : Str) :: (t.words ++ (b2.ws ++ (("end" : Str) :: r.ws)))).length
        simp only [List.length_cons, List.length_append]
        omega
      · rw [← hab, Bk.app_assoc]
        rfl
    | wit x s b2 r =>
      obtain ⟨h1, h2, _⟩ := atW_of (x := "with") (r := x :: (s.words ++ (b2.ws ++ (("end" : Str) :: (r.ws ++ rest))))) (by rw [hdr]; simp [Bk.ws])
      rw [h1]
      refine iteT' (by decide +kernel) ⟨_, fun _ _ z => z, ?_⟩
      obtain ⟨dx, fs, e, hn⟩ := rd_no hR1 "taken" ⟨by decide +kernel, by decide +kernel⟩
      refine ⟨_, rfl, p, dx, fs, rfl, e, hn, p, lw, ws, k1, rfl, hR1, fun H2 hR2 B2 => ?_⟩
      rw [h1]
      have hB2 := hB.step hp hR2 B2
      refine ⟨_, rfl, rfl, _, rfl, iteF' (by decide +kernel) ?_⟩
      refine ⟨_, rfl, rfl, _, rfl, iteF' (by decide +kernel) ?_⟩
      refine ⟨_, rfl, rfl, _, rfl, iteF' (by decide +kernel) ?_⟩
      refine ⟨_, rfl, rfl, _, rfl, iteF' (by decide +kernel) ?_⟩
      obtain ⟨dx2, fs2, e2, hn2⟩ := rd_no hR2 "read_name" ⟨by decide +kernel, by decide +kernel⟩
      obtain ⟨h3, h4, _⟩ := atW_of h2
      have hdd : max (b2.dp + 1) r.dp ≤ n + 1 := hd1
      have hnn2 : b2.n + r.n + 1 ≤ 10000 := by have : (Bk.wit x s b2 r).n = b2.n + r.n + 1 := rfl; omega
      refine ⟨_, rfl, p, dx2, fs2, rfl, e2, hn2, p, lw, ws, _, rfl, hR2, by rw [h3]; exact hg1.1, fun H3 hR3 B3 => ?_⟩
      rw [h3]
      have hB3 := hB2.step hp hR3 B3
      obtain ⟨dx3, fs3, e3, hn3⟩ := rd_no hR3 "read_sum" ⟨by decide +kernel, by decide +kernel⟩
      refine ⟨_, rfl, p, dx3, fs3, rfl, e3, hn3, p, lw, ws, _, s, _, rfl, hR3, hg1.2.2.1, hg1.2.1, h4, fun u H4 hR4 B4 hu => ?_⟩
      have hB4 := hB3.step hp hR4 B4
      have h5 := drop_of h4
      have h6 := drop_of h5
      obtain ⟨h7, h8, _⟩ := atW_of h6
      obtain ⟨dx4, fs4, e4, hn4⟩ := rd_no hR4 "read_block" ⟨by decide +kernel, by decide +kernel⟩
      refine ⟨_, rfl, .inl ⟨rfl, _, SqL.of hB4.ed⟩, _, rfl, _, rfl, _, rfl, p, dx4, fs4, rfl, e4, hn4, p, lw, ws, _, b2, _, rfl, hR4, by omega, hg1.2.2.2.1, by omega, h5, by rw [h7]; decide +kernel, fun r1 vb H5 hR5 B5 hr1 er1 hb => ⟨four, fun z hz => ?_⟩⟩
      have hB5 := hB4.step hp hR5 B5
      obtain ⟨hb2, hm⟩ := hB4.inner hp hr1 hb
      have hu5 := hu.mono (hR4.tup B5)
      have S := same_new hz (.tup [V.str "with", V.str x, u, .ref r1])
      have hB6 := hB5.same S
      have ho : IsBk (upd H5 z (.tup [V.str "with", V.str x, u, .ref r1])) (MB H D) [.ref z] (.wit x s b2 .nil) := .wit upd_same (hu5.mono S.tup) hm (S _ _ er1) (hb2.mono (.of S) S.tup (fun _ _ z => z)) .nil
      refine ⟨D, us, _, rfl, rfl, hB6.ed, hus, ?_⟩
      have hB7 := hB6.app hD hl ho
      generalize upd (upd H5 z (.tup [V.str "with", V.str x, u, .ref r1])) D (.lst (us ++ [.ref z])) = H7 at hB7
      have hR7 := hB7.rd
      obtain ⟨dx7, fs7, e7, hn7⟩ := rd_no hR7 "need" ⟨by decide +kernel, by decide +kernel⟩
      refine ⟨_, rfl, p, dx7, fs7, rfl, e7, hn7, p, lw, ws, _, _, rfl, h7, hR7, fun H8 hR8 B8 => ?_⟩
      refine ⟨r.n, by show r.n < b2.n + r.n + 1; omega, _, _, _, _, _, _, _, _, r, rfl, hB7.step hp hR8 B8, h8, ?_, rfl, by omega, hg1.2.2.2.2, ?_⟩
      · rw [← hk1]
        show _ = k1 + (("with" : Str) :: x :: (s.words ++ (b2.ws ++ (("end" : Str) :: r.ws)))).length
        simp only [List.length_cons, List.length_append]
        omega
      · rw [← hab, Bk.app_assoc]
        rfl
end
end W10

set_option Elab.async false
set_option linter.all false
set_option maxRecDepth 100000
set_option maxHeartbeats 4000000
namespace W10
open PySem L2 J
section
variable {P : Program} {w : World} {K : PySem.W.Frag} {mg : Str → Option Value} {base : Heap}
/-! ### read -/
def spRInit (C : Addr) : Sp := fun vs H Q _ => ∃ (p dx lw : Addr) (ws : List Str), vs = [.ref p, .ref lw] ∧ H p = some (.ins C dx []) ∧ H lw = some (.lst (ws.map V.str)) ∧ ∀ H', RdAt C H' p lw ws 0 → But p H H' → Q .non H'
theorem ok_Reader_init (T : Txt K mg) : FnOk P w K mg base CX0 1 T.f_Reader_init T.fd_Reader_init ["self", "words"] (spRInit T.c_Reader) := by
  refine T.Reader_init.F.ok sc_Reader_init (fun vs H Q E h => ?_) (fun cdv A outer s H vs Q E hr h => ?_)
  · obtain ⟨p, dx, lw, ws, rfl, _⟩ := h; rfl
  obtain ⟨p, dx, lw, ws, rfl, hp, hw, q⟩ := h
  refine ⟨_, (pss_cons (ps_fld (pv 0) (pv 1) rfl)
    (pss_one (ps_fld (pv 0) pe_int rfl))), ?_⟩
  try dsimp only [kx, kxb]
  have npw : p ≠ lw := ne_of hp hw (fun z => by cases z)
  obtain ⟨a1, b1⟩ := Has.nil.snoc (f := "words") (v := .ref lw) (by decide) rfl
  refine ⟨_, rfl, _, rfl, p, T.c_Reader, dx, [], rfl, hp, T.cl_Reader, T.na_Reader_words, (by show 0 < 1000; decide), ?_⟩
  generalize hf1 : putF "words" (.ref lw) [] = fs1 at a1 b1
  obtain ⟨a2, b2⟩ := a1.snoc (f := "place") (v := .int 0) (by show fs1.length ≤ 49; have : ([] : List (Str × V)).length = 0 := rfl; omega) (by show List.lookup _ [(("words" : Str), V.ref lw)] = none; rw [lk_cons, if_neg (by decide +kernel)]; rfl)
  refine ⟨_, rfl, p, T.c_Reader, dx, fs1, rfl, upd_same, T.cl_Reader, T.na_Reader_place, Nat.lt_of_le_of_lt a1.len (by decide), ?_⟩
  generalize hf2 : putF "place" (.int 0) fs1 = fs2 at a2 b2
  rw [upd_upd]
  refine q _ ⟨⟨dx, fs2, upd_same, a2⟩, ?_⟩ (but_upd _)
  rw [upd_ne npw.symm]
  exact hw
theorem split_comp {H' : Hp} {R : V → Hp → Prop} {o0 o1 o3 o4 o5 : Option V} {row : Str} (hz : row.length + 2 ≤ sizeLine) (q : ∀ p H'', Same H' H'' → H' p = none → H'' p = some (.lst ((wds row).map V.str)) → R (.ref p) H'') :
    tComp (iList K (tBM K "str" rSplit1 (tVar 2) (tCons (tC (V.str " ")) tNil))) [] (fun σ H Q => tVar 0 σ H fun x H' => ∃ k, TruV K x H' k ∧ Q k H') (tVar 0) [o0, o1, some (.str row), o3, o4, o5] H' R := by
  refine ⟨_, rfl, rfl, row, rfl, rfl, hz, fun l hl => ⟨l, rfl, ⟨_, SqL.of upd_same⟩, fun D2 hD2 => ?_⟩⟩
  have S1 := same_new hl (.lst ((Txt.split row " ").map V.str))
  have e1 : upd H' l (.lst ((Txt.split row " ").map V.str)) l = some (.lst ((Txt.split row " ").map V.str)) := upd_same
  generalize upd H' l (.lst ((Txt.split row " ").map V.str)) = H1 at S1 e1 hD2
  have hps : ∀ y ∈ Txt.split row " ", y.length ≤ row.length := fun y m => PyProof.Rows.part_short m
  have hpl := (PyProof.Rows.fact_split row " ").2
  rw [← wds_split] at q
  generalize Txt.split row " " = ps at e1 hps hpl q
  refine comp_list (K := K) (xs := ps.map V.str) (fun i H2 => Same H1 H2 ∧ H2 D2 = some (.lst (((ps.take i).filter (fun p => decide (p.length ≠ 0))).map V.str))) ⟨same_new hD2 _, upd_same⟩ (fun i H2 z => SqL.of (z.1 _ _ e1)) ?_ ?_
  · rintro i x H2 hx ⟨S2, e2⟩
    rw [List.getElem?_map] at hx
    cases hp : ps[i]? with
    | none => rw [hp] at hx; cases hx
    | some y =>
      rw [hp] at hx
      cases hx
      have et : ps.take (i + 1) = ps.take i ++ [y] := by rw [List.take_add_one, hp]; rfl
      have hol := List.length_filter_le (fun p : Str => decide (p.length ≠ 0)) (ps.take i)
      have htl : (ps.take i).length < ps.length := by rw [List.length_take]; have := (List.getElem?_eq_some_iff.mp hp).1; omega
      have hyl := hps y (List.mem_of_getElem? hp)
      refine ⟨_, rfl, _, ⟨by omega, rfl⟩, ?_⟩
      rw [et, List.filter_append]
      by_cases h0 : y.length = 0
      · refine iteF' (by simp [h0]) ⟨S2, ?_⟩
        rw [e2]
        simp [h0]
      · refine iteT' (by simp; omega) ⟨_, rfl, _, e2, by rw [List.length_map]; omega, Same.at S2 hD2 _, ?_⟩
        rw [upd_same]
        simp [h0]
  · rintro H2 ⟨S2, e2⟩
    rw [List.length_map, List.take_length] at e2
    exact q D2 H2 (S1.trans S2) (by
      cases e : H' D2 with
      | none => rfl
      | some o => rw [S1 _ _ e] at hD2; cases hD2) e2
theorem ws_head (b : Bk) (rest : List Str) : (b = .nil) ∨ ∃ x r, b.ws = x :: r ∧ x ∈ ordW := by
  cases b with
  | nil => exact .inl rfl
  | set x a r => exact .inr ⟨_, _, rfl, by decide +kernel⟩
  | say a r => exact .inr ⟨_, _, rfl, by decide +kernel⟩
  | when t b c r => exact .inr ⟨_, _, rfl, by decide +kernel⟩
  | whil t b r => exact .inr ⟨_, _, rfl, by decide +kernel⟩
  | wit x a b r => exact .inr ⟨_, _, rfl, by decide +kernel⟩
def spRead : Sp := fun vs H Q _ => ∃ (pl : Addr) (rows ns : List Str) (b : Bk), vs = [.ref pl] ∧ H pl = some (.lst (rows.map V.str)) ∧ (∀ x ∈ rows, x.length ≤ 16000000) ∧ rows.flatMap wds = ("jars" : Str) :: (ns ++ b.ws) ∧ (rows.flatMap wds).length ≤ 1000000 ∧ (∀ x ∈ ns, isNm x = true) ∧ ns.Nodup ∧ ns.length ≤ 1000 ∧ b.gd ∧ b.dp ≤ 81 ∧ b.n ≤ 10000 ∧
  ∀ t vn vb us H', Same H H' → H' t = some (.tup [.ref vn, .ref vb]) → H' vn = some (.lst (ns.map V.str)) → H' vb = some (.lst us) → IsBk H' noM us b → Q (.ref t) H'
theorem ok_read (T : Txt K mg) : FnOk P w K mg base CX0 107 T.f_read T.fd_read ["rows"] spRead := by
  have G_Reader_init := (ok_Reader_init (P := P) (w := w) (base := base) T).mono (show 1 ≤ 105 by omega)
  have G_Reader_need := (ok_Reader_need (P := P) (w := w) (base := base) T).mono (show 3 ≤ 106 by omega)
  have G_Reader_read_names := (ok_Reader_read_names (P := P) (w := w) (base := base) T).mono (show 3 ≤ 106 by omega)
  have G_Reader_read_block := (ok_Reader_read_block (P := P) (w := w) (base := base) T 81).mono (show 105 ≤ 106 by omega)
  refine T.read.F.ok sc_read (fun vs H Q E h => ?_) (fun cdv A outer s H vs Q E hr h => ?_)
  · obtain ⟨pl, rows, ns, b, rfl, _⟩ := h; rfl
  obtain ⟨pl, rows, ns, b, rfl, hp, hlen, hws, hwl, hnm, hnd, hnl, hbg, hbd, hbn, q⟩ := h
  refine ⟨_, (pss_cons (ps_set (i := 1) sc_read.nd rfl (Or.inl rfl) (pe_lst pa_nil))
    (pss_cons (ps_for PassesOwn.never rfl (pi_list (pv 0)) (pg_name (i := 2) sc_read.nd rfl (Or.inl rfl)) (pss_one (ps_expr (pe_bm PySem.F.plainAttrs_list PySem.F.slot_list_extend PySem.F.type_list_extend mt_extendP (pv 1) (pa_cons (pe_comp rfl (js := []) (ys := []) (pi_list (pe_bm PySem.F.plainAttrs_str PySem.F.slot_str_split PySem.F.type_str_split mt_split1 (pv 2) (pa_cons pe_str pa_nil))) (by rfl) (by rfl) (by decide +kernel) (fun _ _ _ _ => pts_one (pt_truthK K (pv 0) (by intro _; rfl))) (fun _ _ _ _ => (pv 0))) pa_nil)))))
    (pss_cons (ps_set (i := 3) sc_read.nd rfl (Or.inl rfl) (pe_make T.mk_Reader G_Reader_init hr rfl T.mg_Reader T.Reader_init.b .nil pass0 (pa_cons (pv 1) pa_nil)))
    (pss_cons (ps_expr (pe_meth (pv 3) T.cl_Reader T.me_Reader_need G_Reader_need hr T.Reader_need.b .nil pass0 (pa_cons pe_str pa_nil)))
    (pss_cons (ps_set (i := 4) sc_read.nd rfl (Or.inl rfl) (pe_meth0 (pv 3) T.cl_Reader T.me_Reader_read_names G_Reader_read_names hr T.Reader_read_names.b .nil pass0))
    (pss_cons (ps_set (i := 5) sc_read.nd rfl (Or.inl rfl) (pe_meth0 (pv 3) T.cl_Reader T.me_Reader_read_block G_Reader_read_block hr T.Reader_read_block.b .nil pass0))
    (pss_cons (ps_expr (pe_meth (pv 3) T.cl_Reader T.me_Reader_need G_Reader_need hr T.Reader_need.b .nil pass0 (pa_cons pe_str pa_nil)))
    (pss_one (ps_ret (pe_tup (pa_cons (pv 4) (pa_cons (pv 5) pa_nil)))))))))))), ?_⟩
  try dsimp only [kx, kxb]
  have two : (2 : Nat) ≤ sizeLine := by decide
  refine ⟨Nat.zero_le _, fun D hD => ?_⟩
  have S0 := same_new hD (.lst [])
  have eD : upd H D (.lst []) D = some (.lst (List.map V.str [])) := upd_same
  generalize upd H D (.lst []) = H0 at S0 eD
  refine ⟨_, rfl, pl, rfl, ⟨_, SqL.of (S0 _ _ hp)⟩, ?_⟩
  refine for_list (xs := rows.map V.str) (fun i σ' H' => (∃ o, σ' = [some (.ref pl), some (.ref D), o, none, none, none]) ∧ Same H H' ∧ H' D = some (.lst (((rows.take i).flatMap wds).map V.str))) ⟨⟨none, rfl⟩, S0, eD⟩ (fun i σ H' _ z => SqL.of (z.2.1 _ _ hp)) ?_ ?_
  · rintro i x σ' H' hx ⟨⟨o, rfl⟩, S, eD'⟩
    rw [List.getElem?_map] at hx
    cases hpx : rows[i]? with
    | none => rw [hpx] at hx; cases hx
    | some y =>
      rw [hpx] at hx
      cases hx
      have et : rows.take (i + 1) = rows.take i ++ [y] := by rw [List.take_add_one, hpx]; rfl
      have hyl := hlen y (List.mem_of_getElem? hpx)
      have hsum : ((rows.take (i + 1)).flatMap wds).length ≤ (rows.flatMap wds).length := by
        have h1 : rows.flatMap wds = (rows.take (i + 1)).flatMap wds ++ (rows.drop (i + 1)).flatMap wds := by rw [← List.flatMap_append, List.take_append_drop]
        rw [h1, List.length_append]
        omega
      have e3 : (rows.take (i + 1)).flatMap wds = (rows.take i).flatMap wds ++ wds y := by rw [et, List.flatMap_append]; simp
      rw [e3, List.length_append] at hsum
      refine ⟨_, rfl, .inl ⟨rfl, _, SqL.of eD'⟩, ?_⟩
      refine split_comp (by rw [sizeLine_eq]; omega) fun l H2 S2 hl el => ?_
      refine ⟨D, l, _, _, rfl, rfl, S2 _ _ eD', .inl el, by rw [List.length_map, List.length_map, sizeLine_eq]; omega, ⟨_, rfl⟩, Same.at (S.trans S2) hD _, ?_⟩
      rw [upd_same, e3, List.map_append]
  · rintro σ' H1 ⟨⟨o, rfl⟩, S1, eD1⟩
    rw [List.length_map, List.take_length, hws] at eD1
    generalize hW : ("jars" : Str) :: (ns ++ b.ws) = ws at eD1
    refine ⟨_, rfl, fun p dx hp1 hdx hne => ?_⟩
    have ndx : ∀ b o, H1 b = some o → b ≠ dx := fun b o e => ne_of_none e hdx
    have np : ∀ b o, H1 b = some o → b ≠ p := fun b o e => ne_of_none e hp1
    have ho : ∀ b o, H1 b = some o → upd (upd H1 dx (.own p)) p (.ins T.c_Reader dx []) b = some o := fun b o e => by rw [upd_ne (np b o e), upd_ne (ndx b o e)]; exact e
    refine ⟨p, dx, D, ws, rfl, upd_same, ho _ _ eD1, fun H2 hR2 B2 => ⟨rfl, ?_⟩⟩
    have K2 : ∀ b o, H1 b = some o → H2 b = some o := fun b o e => B2 b o (np b o e) (ho b o e)
    have hw0 : ws.drop 0 = ("jars" : Str) :: (ns ++ (b.ws ++ [])) := by rw [← hW]; simp
    obtain ⟨h1, h2, _⟩ := atW_of hw0
    obtain ⟨dx2, fs2, e2, hn2⟩ := rd_no hR2 "need" ⟨by decide +kernel, by decide +kernel⟩
    refine ⟨_, rfl, p, dx2, fs2, rfl, e2, hn2, p, D, ws, _, _, rfl, h1, hR2, fun H3 hR3 B3 => ?_⟩
    obtain ⟨dx3, fs3, e3, hn3⟩ := rd_no hR3 "read_names" ⟨by decide +kernel, by decide +kernel⟩
    have h3 := drop_of h2
    have hwlen : ws.length = 1 + ns.length + b.ws.length := by rw [← hW, List.length_cons, List.length_append]; omega
    have hout : atW ws (0 + 1 + ns.length + b.ws.length) = "" := by
      unfold atW
      rw [List.getElem?_eq_none (by omega)]
      rfl
    have hstop : isNm (atW ws (0 + 1 + ns.length)) = false := by
      rcases ws_head b [] with hb | ⟨x, r, hb, hx⟩
      · subst hb
        have : atW ws (0 + 1 + ns.length) = "" := hout
        rw [this]
        decide +kernel
      · rw [hb] at h3
        rw [(atW_of h3).1]
        exact kept_nm ((by decide +kernel : ∀ x ∈ ordW, x ∈ kept) x hx)
    refine ⟨_, rfl, p, dx3, fs3, rfl, e3, hn3, p, D, ws, ns, _, _, rfl, hR3, h2, hnm, hnd, hstop, hnl, fun r H4 hR4 B4 hr4 er4 => ?_⟩
    obtain ⟨dx4, fs4, e4, hn4⟩ := rd_no hR4 "read_block" ⟨by decide +kernel, by decide +kernel⟩
    refine ⟨_, rfl, p, dx4, fs4, rfl, e4, hn4, p, D, ws, _, b, [], rfl, hR4, hbd, hbg, hbn, h3, by rw [hout]; decide +kernel, fun r2 us H5 hR5 B5 hr5 er5 hbk => ?_⟩
    have nr : r ≠ p := hR4.neT er4 (fun _ _ _ z => by cases z)
    have nr2 : r2 ≠ p := hR5.neT er5 (fun _ _ _ z => by cases z)
    obtain ⟨dx5, fs5, e5, hn5⟩ := rd_no hR5 "need" ⟨by decide +kernel, by decide +kernel⟩
    refine ⟨_, rfl, p, dx5, fs5, rfl, e5, hn5, p, D, ws, _, _, rfl, hout, hR5, fun H6 hR6 B6 => ?_⟩
    refine ⟨_, rfl, _, rfl, two, fun t ht => ?_⟩
    have S := same_new ht (.tup [V.ref r, V.ref r2])
    refine q t r r2 us _ (fun c o e => ?_) upd_same (S _ _ (B6 _ _ nr (B5 _ _ nr er4))) (S _ _ (B6 _ _ nr2 er5)) ?_
    · have e1 := S1 c o e
      have n1 := np c o e1
      exact S _ _ (B6 _ _ n1 (B5 _ _ n1 (B4 _ _ n1 (B3 _ _ n1 (K2 c o e1)))))
    · have b6 : IsBk H6 (fun a => H4 a ≠ none) us b := hbk.mono (fun x o n e => B6 x o (fun z => n (by rw [z, e4]; exact fun z => by cases z)) e) (hR5.tup B6) (fun _ _ z => z)
      exact b6.mono (.of S) S.tup (fun _ _ z => z.elim)
end
end W10

set_option Elab.async false
set_option linter.all false
set_option maxRecDepth 100000
set_option maxHeartbeats 4000000
namespace W10
open PySem L2 J
section
variable {P : Program} {w : World} {K : PySem.W.Frag} {mg : Str → Option Value} {base : Heap}
/-! ### _law_whole, _law_at -/
def spWhole (K : PySem.W.Frag) : Sp := fun vs H Q _ => ∃ i : Int, vs = [.int i] ∧ Q (.bl true) H
theorem ok_law_whole (T : Txt K mg) : FnOk P w K mg base CX0 1 T.f_law_whole T.fd_law_whole ["_law_found"] (spWhole K) := by
  refine T.law_whole.F.ok sc_law_whole (fun vs H Q E h => ?_) (fun cdv A outer s H vs Q E hr h => ?_)
  · obtain ⟨i, rfl, _⟩ := h; rfl
  obtain ⟨i, rfl, q⟩ := h
  refine ⟨_, (pss_one (ps_ret (pe_and (pe_callB call_isiP rfl T.b_isinstance bt_isinstance (pa_cons (pv 0) (pa_cons (pe_bltn (v := .ty "int") rfl T.b_int bt_int rfl) pa_nil))) (pe_one (pe_not (pe_callB call_isiP rfl T.b_isinstance bt_isinstance (pa_cons (pv 0) (pa_cons (pe_bltn (v := .ty "bool") rfl T.b_bool bt_bool rfl) pa_nil)))))))), ?_⟩
  try dsimp only [kx, kxb]
  refine ⟨_, rfl, _, _, _, _, rfl, .inl (.int i), (by decide +kernel : isT "int" "int" = some true), _, rfl, iteT' rfl ?_⟩
  exact ⟨_, rfl, _, _, _, _, rfl, .inl (.int i), (by decide +kernel : isT "int" "bool" = some false), _, rfl, q⟩
end
section
variable {P : Program} {w : World} {K : PySem.W.Frag} {mg : Str → Option Value} {base : Heap}
def spAt (K : PySem.W.Frag) : Sp := fun vs H Q _ => ∃ (a : Addr) (ns : List Int) (k : Nat), vs = [.ref a, .int k] ∧ SqL K H a (ns.map V.int) ∧ ns.length ≤ 63 ∧ Q (.int (ns.getD k 0)) H
theorem ok_law_at (T : Txt K mg) : FnOk P w K mg base CX0 1 T.f_law_at T.fd_law_at ["_law_script", "_law_k"] (spAt K) := by
  refine T.law_at.F.ok sc_law_at (fun vs H Q E h => ?_) (fun cdv A outer s H vs Q E hr h => ?_)
  · obtain ⟨a, ns, k, rfl, _⟩ := h; rfl
  obtain ⟨a, ns, k, rfl, hS, hn, q⟩ := h
  refine ⟨_, (pss_cons (ps_if (pt_cmpR op_lt (pv 1) (pe_callB call_len_seq rfl T.b_len PySem.boot_len (pa_cons (pv 0) pa_nil)) (nomark _)) (pss_one (ps_ret (pe_ix ix_list (pv 0) (pv 1) (fun _ _ => rfl)))) pss_nil)
    (pss_one (ps_ret pe_int))), ?_⟩
  try dsimp only [kx, kxb]
  have hl : (ns.map V.int).length = ns.length := List.length_map _
  refine ⟨_, rfl, _, rfl, a, _, rfl, .inl hS, _, _, rfl, rfl, _, rfl, ?_⟩
  refine ite2 (fun c => ?_) (fun c => ?_)
  · have c' : (k : Int) < ((ns.map V.int).length : Int) := of_decide_eq_true c
    rw [hl] at c'
    have hk : k < ns.length := by omega
    refine ⟨_, rfl, _, rfl, _, _, _, _, rfl, rfl, hS, atI_nat (by rw [List.getElem?_map, List.getElem?_eq_getElem hk]; rfl), ?_⟩
    rw [List.getD_eq_getElem?_getD, List.getElem?_eq_getElem hk] at q
    exact q
  · have c' : ¬ (k : Int) < ((ns.map V.int).length : Int) := of_decide_eq_false (Bool.eq_false_iff.mpr c)
    rw [hl] at c'
    rw [List.getD_eq_getElem?_getD, List.getElem?_eq_none (by omega)] at q
    exact q
end
section
variable {P : Program} {w : World} {K : PySem.W.Frag} {mg : Str → Option Value} {base : Heap}
/-! ### _law_draw, _law_leaf, _law_sum_of, _law_test_of, _law_head_of -/
def spDraw : Sp := fun vs H Q _ => ∃ (n p m : Int), vs = [.int n, .int p, .int m] ∧ 0 < p ∧ 0 < m ∧ Q (.int (drw n p m)) H
theorem ok_law_draw (T : Txt K mg) : FnOk P w K mg base CX0 1 T.f_law_draw T.fd_law_draw ["_law_number", "_law_prime", "_law_many"] spDraw := by
  refine T.law_draw.F.ok sc_law_draw (fun vs H Q E h => ?_) (fun cdv A outer s H vs Q E hr h => ?_)
  · obtain ⟨n, p, m, rfl, _⟩ := h; rfl
  obtain ⟨n, p, m, rfl, hp, hm, q⟩ := h
  refine ⟨_, (pss_one (ps_ret (pe_op op_mod (pe_op op_mod (pe_op op_mulB (pv 0) pe_int) (pv 1)) (pv 2)))), ?_⟩
  try dsimp only [kx, kxb]
  exact ⟨_, rfl, _, _, rfl, rfl, mul_smallR rfl, _, rfl, _, _, rfl, rfl, hp, _, rfl, _, _, rfl, rfl, hm, q⟩
def spLeaf (K : PySem.W.Frag) : Sp := fun vs H Q _ => ∃ (salt p1 p2 : Int) (a : Addr) (sc : List Str), vs = [.int salt, .int p1, .int p2, .ref a] ∧ SqL K H a (sc.map V.str) ∧ 0 < p1 ∧ 0 < p2 ∧
  ∀ u H', Same H H' → IsSum H' u (leafF salt p1 p2 sc) → Q u H'
theorem ok_law_leaf (T : Txt K mg) : FnOk P w K mg base CX0 2 T.f_law_leaf T.fd_law_leaf ["_law_salt", "_law_prime", "_law_second", "_law_scope"] (spLeaf K) := by
  have G_law_draw := ok_law_draw (P := P) (w := w) (base := base) T
  refine T.law_leaf.F.ok sc_law_leaf (fun vs H Q E h => ?_) (fun cdv A outer s H vs Q E hr h => ?_)
  · obtain ⟨salt, p1, p2, a, sc, rfl, _⟩ := h; rfl
  obtain ⟨salt, p1, p2, a, sc, rfl, hS, h1, h2, q⟩ := h
  refine ⟨_, (pss_cons (ps_set (i := 4) sc_law_leaf.nd rfl (Or.inl rfl) (pe_call G_law_draw hr rfl T.law_draw.m T.law_draw.F.kp T.law_draw.b .nil pass0 (pa_cons (pv 0) (pa_cons (pv 1) (pa_cons (pe_op op_add (pe_callB call_len_seq rfl T.b_len PySem.boot_len (pa_cons (pv 3) pa_nil)) pe_int) pa_nil)))))
    (pss_cons (ps_if (pt_cmpR op_lt (pv 4) (pe_callB call_len_seq rfl T.b_len PySem.boot_len (pa_cons (pv 3) pa_nil)) (nomark _)) (pss_one (ps_ret (pe_tup (pa_cons pe_str (pa_cons (pe_ix ix_list (pv 3) (pv 4) (fun _ _ => rfl)) pa_nil))))) pss_nil)
    (pss_cons (ps_set (i := 5) sc_law_leaf.nd rfl (Or.inl rfl) (pe_op op_sub (pe_call G_law_draw hr rfl T.law_draw.m T.law_draw.F.kp T.law_draw.b .nil pass0 (pa_cons (pv 0) (pa_cons (pv 2) (pa_cons pe_int pa_nil)))) pe_int))
    (pss_consM (ps_if (pt_cmpR op_eq (pv 5) pe_int (nomark _)) (pss_one (ps_set (i := 5) sc_law_leaf.nd rfl (Or.inl rfl) (pe_op op_add (pe_op op_pow pe_int pe_int) pe_int))) pss_nil)
    (pss_consM (ps_if (pt_cmpR op_eq (pv 5) pe_int (nomark _)) (pss_one (ps_set (i := 5) sc_law_leaf.nd rfl (Or.inl rfl) (pe_op op_sub (pe_op op_mod (pe_op op_mulB (pv 0) pe_int) (pe_op op_pow pe_int pe_int)) (pe_op op_mulB pe_int (pe_op op_pow pe_int pe_int))))) pss_nil)
    (pss_one (ps_ret (pe_tup (pa_cons pe_str (pa_cons (pv 5) pa_nil)))))))))), ?_⟩
  try dsimp only [kx, kxb]
  have eqi : ∀ {x y : Int}, decide (V.int x = V.int y) = true → x = y := fun c => by injection (of_decide_eq_true c)
  have nqi : ∀ {x y : Int}, ¬ decide (V.int x = V.int y) = true → ¬ x = y := fun c z => c (decide_eq_true (by rw [z]))
  have two : (2 : Nat) ≤ sizeLine := by decide
  have hl : (sc.map V.str).length = sc.length := List.length_map _
  have hm : (0 : Int) < ((sc.map V.str).length : Int) + 2 := by omega
  refine ⟨_, rfl, _, rfl, _, rfl, a, _, rfl, .inl hS, _, _, rfl, rfl, salt, p1, _, rfl, h1, hm, ?_⟩
  have d0 := drw_lo (n := salt) (p := p1) hm
  rw [hl] at d0 ⊢
  refine ⟨_, rfl, _, rfl, _, _, rfl, .inl hS, _, _, rfl, rfl, _, rfl, ?_⟩
  rw [hl]
  refine ite2 (fun c => ?_) (fun c => ?_)
  · have c1 : drw salt p1 ((sc.length : Int) + 2) < (sc.length : Int) := of_decide_eq_true c
    refine ⟨_, rfl, _, rfl, _, _, _, _, rfl, rfl, hS, atI_str d0 c1, two, fun p hp => ?_⟩
    refine q _ _ (same_new hp _) ?_
    have e : leafF salt p1 p2 sc = .name ((sc[(drw salt p1 ((sc.length : Int) + 2)).toNat]?).getD "") := if_pos c1
    rw [e]
    exact .name upd_same
  · have c1 : ¬ drw salt p1 ((sc.length : Int) + 2) < (sc.length : Int) := of_decide_eq_false (Bool.eq_false_iff.mpr c)
    have e : leafF salt p1 p2 sc = .num (leafN salt p2) := if_neg c1
    rw [e] at q
    refine ⟨_, rfl, _, rfl, salt, p2, 13, rfl, h2, by decide, _, _, rfl, rfl, ?_⟩
    refine ⟨fun σ' H' => σ' = [some (.int salt), some (.int p1), some (.int p2), some (.ref a), some (.int (drw salt p1 ((sc.length : Int) + 2))), some (.int (if drw salt p2 13 - 3 = 9 then 10 ^ 30 + 7 else drw salt p2 13 - 3))] ∧ H' = H, ?_, ?_⟩
    · refine ⟨_, rfl, rfl, _, rfl, ?_⟩
      refine ite2 (fun c => ?_) (fun c => ?_)
      · have c2 : drw salt p2 13 - 3 = 9 := eqi c
        refine ⟨_, _, rfl, rfl, ⟨by decide, by decide, by decide⟩, _, _, rfl, rfl, ?_, rfl⟩
        rw [if_pos c2]
        rfl
      · have c2 : ¬ drw salt p2 13 - 3 = 9 := nqi c
        rw [if_neg c2]
        exact ⟨rfl, rfl⟩
    · rintro σ' H' ⟨rfl, rfl⟩
      have fin : ∀ (m : Int), m = leafN salt p2 → ∀ p, H' p = none → Q (.ref p) (upd H' p (.tup [.str "num", .int m])) := fun m em p hp => by
        subst em
        exact q _ _ (same_new hp _) (.num upd_same)
      have eN : leafN salt p2 = if drw salt p2 13 - 3 = 9 then 10 ^ 30 + 7 else if drw salt p2 13 - 3 = 8 then salt * 48271 % 10 ^ 30 - 5 * 10 ^ 29 else drw salt p2 13 - 3 := rfl
      refine ⟨fun σ' H'' => σ' = [some (.int salt), some (.int p1), some (.int p2), some (.ref a), some (.int (drw salt p1 ((sc.length : Int) + 2))), some (.int (leafN salt p2))] ∧ H'' = H', ?_, ?_⟩
      · refine ⟨_, rfl, rfl, _, rfl, ?_⟩
        refine ite2 (fun c => ?_) (fun c => ?_)
        · have c2 : (if drw salt p2 13 - 3 = 9 then 10 ^ 30 + 7 else drw salt p2 13 - 3) = 8 := eqi c
          have c3 : drw salt p2 13 - 3 = 8 := by
            by_cases z : drw salt p2 13 - 3 = 9
            · rw [if_pos z] at c2
              exact absurd c2 (by decide)
            · rw [if_neg z] at c2
              exact c2
          refine ⟨_, rfl, _, _, rfl, rfl, mul_smallR rfl, _, _, rfl, rfl, ⟨by decide, by decide, by decide⟩, _, _, rfl, rfl, (by show (0 : Int) < 10 ^ 30; decide), _, _, rfl, rfl, ⟨by decide, by decide, by decide⟩, _, _, rfl, rfl, mul_small rfl, _, _, rfl, rfl, ?_, rfl⟩
          have eN' : leafN salt p2 = salt * 48271 % 10 ^ 30 - 5 * 10 ^ 29 := by rw [eN, if_neg (by omega), if_pos c3]
          rw [eN']
          rfl
        · have c2 : ¬ (if drw salt p2 13 - 3 = 9 then 10 ^ 30 + 7 else drw salt p2 13 - 3) = 8 := nqi c
          refine ⟨?_, rfl⟩
          rw [eN]
          by_cases z : drw salt p2 13 - 3 = 9
          · rw [if_pos z, if_pos z]
          · rw [if_neg z] at c2
            rw [if_neg z, if_neg z, if_neg c2]
      · rintro σ' H'' ⟨rfl, rfl⟩
        exact ⟨_, rfl, two, fun p hp => fin _ rfl p hp⟩
end
end W10

set_option Elab.async false
set_option linter.all false
set_option maxRecDepth 100000
set_option maxHeartbeats 4000000
namespace W10
open PySem L2 J
section
variable {P : Program} {w : World} {K : PySem.W.Frag} {mg : Str → Option Value} {base : Heap}
def spSumOf (K : PySem.W.Frag) : Sp := fun vs H Q _ => ∃ (salt : Int) (a : Addr) (sc : List Str), vs = [.int salt, .ref a] ∧ SqL K H a (sc.map V.str) ∧ ∀ u H', Same H H' → IsSum H' u (sumF salt sc) → Q u H'
def PTurn (H : Hp) (salt way less : Int) (a : Addr) (u2 : V) (one : Sm Str) (k : Nat) (σ : St) (H' : Hp) : Prop :=
  ∃ u o, σ = [some (.int salt), some (.ref a), some (.int way), some (.int less), some u, some u2, o, none] ∧ Same H H' ∧ IsSum H' u (turned one less k)
theorem ok_law_sum_of (T : Txt K mg) : FnOk P w K mg base CX0 3 T.f_law_sum_of T.fd_law_sum_of ["_law_salt", "_law_scope"] (spSumOf K) := by
  have G_law_draw := (ok_law_draw (P := P) (w := w) (base := base) T).mono (show 1 ≤ 2 by omega)
  have G_law_leaf := ok_law_leaf (P := P) (w := w) (base := base) T
  refine T.law_sum_of.F.ok sc_law_sum_of (fun vs H Q E h => ?_) (fun cdv A outer s H vs Q E hr h => ?_)
  · obtain ⟨salt, a, sc, rfl, _⟩ := h; rfl
  obtain ⟨salt, a, sc, rfl, hS, q⟩ := h
  refine ⟨_, (pss_cons (ps_set (i := 2) sc_law_sum_of.nd rfl (Or.inl rfl) (pe_call G_law_draw hr rfl T.law_draw.m T.law_draw.F.kp T.law_draw.b .nil pass0 (pa_cons (pv 0) (pa_cons pe_int (pa_cons pe_int pa_nil)))))
    (pss_cons (ps_set (i := 3) sc_law_sum_of.nd rfl (Or.inl rfl) (pe_call G_law_draw hr rfl T.law_draw.m T.law_draw.F.kp T.law_draw.b .nil pass0 (pa_cons (pv 0) (pa_cons pe_int (pa_cons pe_int pa_nil)))))
    (pss_cons (ps_set (i := 4) sc_law_sum_of.nd rfl (Or.inl rfl) (pe_call G_law_leaf hr rfl T.law_leaf.m T.law_leaf.F.kp T.law_leaf.b .nil pass0 (pa_cons (pv 0) (pa_cons pe_int (pa_cons pe_int (pa_cons (pv 1) pa_nil))))))
    (pss_cons (ps_set (i := 5) sc_law_sum_of.nd rfl (Or.inl rfl) (pe_call G_law_leaf hr rfl T.law_leaf.m T.law_leaf.F.kp T.law_leaf.b .nil pass0 (pa_cons (pv 0) (pa_cons pe_int (pa_cons pe_int (pa_cons (pv 1) pa_nil))))))
    (pss_cons (ps_if (pt_cmpR op_lt (pv 2) pe_int (nomark _)) (pss_one (ps_ret (pv 4))) pss_nil)
    (pss_cons (ps_if (pt_cmpR op_eq (pv 2) pe_int (nomark _)) (pss_one (ps_ret (pe_tup (pa_cons pe_str (pa_cons (pv 4) (pa_cons (pv 5) pa_nil)))))) pss_nil)
    (pss_cons (ps_if (pt_cmpR op_eq (pv 2) pe_int (nomark _)) (pss_one (ps_ret (pe_tup (pa_cons pe_str (pa_cons (pv 4) (pa_cons (pv 5) pa_nil)))))) pss_nil)
    (pss_cons (ps_if (pt_cmpR op_eq (pv 2) pe_int (nomark _)) (pss_one (ps_ret (pe_tup (pa_cons pe_str (pa_cons (pv 4) (pa_cons (pe_tup (pa_cons pe_str (pa_cons (pe_op op_sub (pv 3) pe_int) pa_nil))) pa_nil)))))) pss_nil)
    (pss_cons (ps_if (pt_cmpR op_eq (pv 2) pe_int (nomark _)) (pss_cons (ps_for PassesOwn.never rfl (pi_range1 rfl T.b_range (pa_cons (pe_op op_add (pv 3) pe_int) pa_nil)) (pg_name (i := 6) sc_law_sum_of.nd rfl (Or.inl rfl)) (pss_one (ps_set (i := 4) sc_law_sum_of.nd rfl (Or.inl rfl) (pe_tup (pa_cons (pe_ix ix_list (pe_lst (pa_cons pe_str (pa_cons pe_str pa_nil))) (pe_op op_mod (pv 6) pe_int) (fun _ _ => rfl)) (pa_cons (pv 4) (pa_cons (pe_tup (pa_cons pe_str (pa_cons (pv 3) pa_nil))) pa_nil)))))))
    (pss_one (ps_ret (pv 4)))) pss_nil)
    (pss_cons (ps_if (pt_cmpR op_eq (pv 2) pe_int (nomark _)) (pss_cons (ps_set (i := 7) sc_law_sum_of.nd rfl (Or.inl rfl) (pe_tup (pa_cons pe_str (pa_cons (pe_tup (pa_cons pe_str (pa_cons (pe_tup (pa_cons pe_str (pa_cons (pv 3) pa_nil))) (pa_cons (pe_tup (pa_cons pe_str (pa_cons (pv 5) (pa_cons (pv 4) pa_nil)))) pa_nil)))) (pa_cons (pv 5) pa_nil)))))
    (pss_one (ps_ret (pe_tup (pa_cons pe_str (pa_cons (pv 7) (pa_cons (pe_tup (pa_cons pe_str (pa_cons (pv 4) (pa_cons (pe_tup (pa_cons pe_str (pa_cons (pv 3) pa_nil))) pa_nil)))) pa_nil))))))) pss_nil)
    (pss_one (ps_ret (pe_tup (pa_cons pe_str (pa_cons (pe_tup (pa_cons pe_str (pa_cons (pv 4) (pa_cons (pv 5) pa_nil)))) (pa_cons (pe_tup (pa_cons pe_str (pa_cons (pe_tup (pa_cons pe_str (pa_cons (pv 3) pa_nil))) (pa_cons (pv 5) pa_nil)))) pa_nil)))))))))))))))), ?_⟩
  try dsimp only [kx, kxb]
  have two : (2 : Nat) ≤ sizeLine := by decide
  have three : (3 : Nat) ≤ sizeLine := by decide
  refine ⟨_, rfl, salt, 1051, 8, rfl, by decide, by decide, ?_⟩
  refine ⟨_, rfl, salt, 1061, 4, rfl, by decide, by decide, ?_⟩
  have w0 := drw_lo (n := salt) (p := 1051) (show (0 : Int) < 8 by decide)
  have w8 := drw_hi (n := salt) (p := 1051) (show (0 : Int) < 8 by decide)
  have l0 := drw_lo (n := salt) (p := 1061) (show (0 : Int) < 4 by decide)
  have l4 := drw_hi (n := salt) (p := 1061) (show (0 : Int) < 4 by decide)
  refine ⟨_, rfl, _, rfl, salt, 1009, 1013, a, sc, rfl, hS, by decide, by decide, fun u1 H1 S1 h1 => ?_⟩
  refine ⟨_, rfl, _, rfl, salt, 1019, 1021, a, sc, rfl, S1.seq hS, by decide, by decide, fun u2 H2 S2 h2 => ?_⟩
  have eF : sumF salt sc = (if drw salt 1051 8 < 2 then leafF salt 1009 1013 sc else if drw salt 1051 8 = 2 then .op .add (leafF salt 1009 1013 sc) (leafF salt 1019 1021 sc) else if drw salt 1051 8 = 3 then .op .sub (leafF salt 1009 1013 sc) (leafF salt 1019 1021 sc)
    else if drw salt 1051 8 = 4 then .op .mul (leafF salt 1009 1013 sc) (.num (drw salt 1061 4 - 1)) else if drw salt 1051 8 = 7 then turned (leafF salt 1009 1013 sc) (drw salt 1061 4) (drw salt 1061 4 + 3).toNat
    else if drw salt 1051 8 = 6 then .op .sub (.op .add (.op .mul (.num (drw salt 1061 4)) (.op .sub (leafF salt 1019 1021 sc) (leafF salt 1009 1013 sc))) (leafF salt 1019 1021 sc)) (.op .sub (leafF salt 1009 1013 sc) (.num (drw salt 1061 4)))
    else .op .sub (.op .add (leafF salt 1009 1013 sc) (leafF salt 1019 1021 sc)) (.op .mul (.num (drw salt 1061 4)) (leafF salt 1019 1021 sc))) := rfl
  rw [eF] at q
  have hu1 := h1.mono S2.tup
  have SH := S1.trans S2
  generalize drw salt 1051 8 = way at q w0 w8
  generalize drw salt 1061 4 = less at q l0 l4
  generalize leafF salt 1009 1013 sc = one at q hu1 h1
  generalize leafF salt 1019 1021 sc = tw at q h2
  have eqi : ∀ {x y : Int}, decide (V.int x = V.int y) = true → x = y := fun c => by injection (of_decide_eq_true c)
  have nqi : ∀ {x y : Int}, ¬ decide (V.int x = V.int y) = true → ¬ x = y := fun c z => c (decide_eq_true (by rw [z]))
  refine ⟨_, rfl, _, _, rfl, rfl, _, rfl, ?_⟩
  refine ite2 (fun c => ?_) (fun c => ?_)
  · have c1 : way < 2 := of_decide_eq_true c
    rw [if_pos c1] at q
    exact ⟨_, rfl, q _ _ SH hu1⟩
  have c1 : ¬ way < 2 := of_decide_eq_false (Bool.eq_false_iff.mpr c)
  rw [if_neg c1] at q
  refine ⟨_, rfl, rfl, _, rfl, ?_⟩
  refine ite2 (fun c => ?_) (fun c => ?_)
  · rw [if_pos (eqi c)] at q
    refine ⟨_, rfl, _, rfl, three, fun p hp => q _ _ (SH.trans (same_new hp _)) (.op (o := .add) upd_same (hu1.mono (same_new hp _).tup) (h2.mono (same_new hp _).tup))⟩
  rw [if_neg (nqi c)] at q
  refine ⟨_, rfl, rfl, _, rfl, ?_⟩
  refine ite2 (fun c => ?_) (fun c => ?_)
  · rw [if_pos (eqi c)] at q
    refine ⟨_, rfl, _, rfl, three, fun p hp => q _ _ (SH.trans (same_new hp _)) (.op (o := .sub) upd_same (hu1.mono (same_new hp _).tup) (h2.mono (same_new hp _).tup))⟩
  rw [if_neg (nqi c)] at q
  refine ⟨_, rfl, rfl, _, rfl, ?_⟩
  refine ite2 (fun c => ?_) (fun c => ?_)
  · rw [if_pos (eqi c)] at q
    refine ⟨_, rfl, _, rfl, _, _, rfl, rfl, two, fun p1 hp1 => ⟨three, fun p hp => ?_⟩⟩
    have Sa := same_new hp1 (.tup [.str "num", .int (less - 1)])
    have Sb := Sa.trans (same_new hp (.tup [.str "mul", u1, .ref p1]))
    exact q _ _ (SH.trans Sb) (.op (o := .mul) upd_same (hu1.mono Sb.tup) (.num (same_new hp _ _ _ upd_same)))
  rw [if_neg (nqi c)] at q
  refine ⟨_, rfl, rfl, _, rfl, ?_⟩
  refine ite2 (fun c => ?_) (fun c => ?_)
  · rw [if_pos (eqi c)] at q
    have hq : ((less + 3 : Int)).toNat = (less + 3).toNat := rfl
    refine ⟨_, rfl, _, _, rfl, rfl, _, rfl, by omega, by omega, ?_⟩
    refine for_range (PTurn H2 salt way less a u2 one) ⟨u1, none, rfl, fun _ _ z => z, hu1⟩ ?_ ?_
    · rintro k σ H' hk ⟨u, o, rfl, S, hu⟩
      have hat : atI [V.str "add", V.str "sub"] ((0 + (k : Int)) % 2) = some (.str (if k % 2 = 0 then O3.add else O3.sub).w) := by
        have h2' : k % 2 = 0 ∨ k % 2 = 1 := by omega
        rcases h2' with z | z
        · rw [if_pos z, show ((0 + (k : Int)) % 2) = 0 by omega]; rfl
        · rw [if_neg (by omega), show ((0 + (k : Int)) % 2) = 1 by omega]; rfl
      refine ⟨two, fun l hl => ⟨_, rfl, _, _, rfl, rfl, (by show (0 : Int) < _; decide), _, _, _, _, rfl, rfl, SqL.of upd_same, hat, _, rfl, _, rfl, two, fun p1 hp1 => ⟨three, fun p hp => ?_⟩⟩⟩
      have Sa := same_new hl (.lst [V.str "add", V.str "sub"])
      have Sb := Sa.trans (same_new hp1 (.tup [.str "num", .int less]))
      have Sc := same_new hp (.tup [.str (if k % 2 = 0 then O3.add else O3.sub).w, u, .ref p1])
      exact ⟨_, _, rfl, S.trans (Sb.trans Sc), .op upd_same (hu.mono (Sb.trans Sc).tup) (.num (Sc _ _ upd_same))⟩
    · rintro σ H' ⟨u, o, rfl, S, hu⟩
      exact ⟨_, rfl, q _ _ (SH.trans S) hu⟩
  rw [if_neg (nqi c)] at q
  refine ⟨_, rfl, rfl, _, rfl, ?_⟩
  refine ite2 (fun c => ?_) (fun c => ?_)
  · rw [if_pos (eqi c)] at q
    refine ⟨_, rfl, two, fun p1 hp1 => ⟨_, rfl, _, rfl, three, fun p2 hp2 => ⟨three, fun p3 hp3 => ⟨_, rfl, three, fun p4 hp4 => ?_⟩⟩⟩⟩
    have S3 := same_new hp1 (.tup [.str "num", .int less])
    have S4 := same_new hp2 (.tup [.str "sub", u2, u1])
    have S5 := same_new hp3 (.tup [.str "mul", .ref p1, .ref p2])
    have S6 := same_new hp4 (.tup [.str "add", .ref p3, u2])
    have S46 := S4.trans (S5.trans S6)
    have S36 := S3.trans S46
    have d : IsSum (upd (upd (upd (upd H2 p1 (.tup [.str "num", .int less])) p2 (.tup [.str "sub", u2, u1])) p3 (.tup [.str "mul", .ref p1, .ref p2])) p4 (.tup [.str "add", .ref p3, u2])) (.ref p4) (.op .add (.op .mul (.num less) (.op .sub tw one)) tw) :=
      .op upd_same (.op (o := .mul) (S6 _ _ upd_same) (.num (S46 _ _ upd_same)) (.op (o := .sub) ((S5.trans S6) _ _ upd_same) (h2.mono S36.tup) (hu1.mono S36.tup))) (h2.mono S36.tup)
    generalize upd (upd (upd (upd H2 p1 (.tup [.str "num", .int less])) p2 (.tup [.str "sub", u2, u1])) p3 (.tup [.str "mul", .ref p1, .ref p2])) p4 (.tup [.str "add", .ref p3, u2]) = H6 at S36 d
    refine ⟨_, rfl, _, rfl, _, rfl, two, fun p5 hp5 => ⟨three, fun p6 hp6 => ⟨three, fun p7 hp7 => ?_⟩⟩⟩
    have S7 := same_new hp5 (.tup [.str "num", .int less])
    have S8 := same_new hp6 (.tup [.str "sub", u1, .ref p5])
    have S9 := same_new hp7 (.tup [.str "sub", .ref p4, .ref p6])
    have S79 := S7.trans (S8.trans S9)
    exact q _ _ (SH.trans (S36.trans S79)) (.op (o := .sub) upd_same (d.mono S79.tup) (.op (o := .sub) (S9 _ _ upd_same) (hu1.mono (S36.trans S79).tup) (.num ((S8.trans S9) _ _ upd_same))))
  rw [if_neg (nqi c)] at q
  refine ⟨_, rfl, _, rfl, three, fun p1 hp1 => ⟨_, rfl, two, fun p2 hp2 => ⟨_, rfl, three, fun p3 hp3 => ⟨three, fun p4 hp4 => ?_⟩⟩⟩⟩
  have S3 := same_new hp1 (.tup [.str "add", u1, u2])
  have S4 := same_new hp2 (.tup [.str "num", .int less])
  have S5 := same_new hp3 (.tup [.str "mul", .ref p2, u2])
  have S6 := same_new hp4 (.tup [.str "sub", .ref p1, .ref p3])
  have S46 := S4.trans (S5.trans S6)
  have S36 := S3.trans S46
  exact q _ _ (SH.trans S36) (.op (o := .sub) upd_same (.op (o := .add) (S46 _ _ upd_same) (hu1.mono S36.tup) (h2.mono S36.tup)) (.op (o := .mul) (S6 _ _ upd_same) (.num ((S5.trans S6) _ _ upd_same)) (h2.mono S36.tup)))
end
end W10

set_option Elab.async false
set_option linter.all false
set_option maxRecDepth 100000
set_option maxHeartbeats 4000000
namespace W10
open PySem L2 J
section
variable {P : Program} {w : World} {K : PySem.W.Frag} {mg : Str → Option Value} {base : Heap}
def spTestOf (K : PySem.W.Frag) : Sp := fun vs H Q _ => ∃ (salt : Int) (a : Addr) (sc : List Str), vs = [.int salt, .ref a] ∧ SqL K H a (sc.map V.str) ∧ ∀ u H', Same H H' → IsTest H' u (testF salt sc) → Q u H'
theorem ok_law_test_of (T : Txt K mg) : FnOk P w K mg base CX0 4 T.f_law_test_of T.fd_law_test_of ["_law_salt", "_law_scope"] (spTestOf K) := by
  have G_law_draw := (ok_law_draw (P := P) (w := w) (base := base) T).mono (show 1 ≤ 3 by omega)
  have G_law_leaf := (ok_law_leaf (P := P) (w := w) (base := base) T).mono (show 2 ≤ 3 by omega)
  have G_law_sum_of := ok_law_sum_of (P := P) (w := w) (base := base) T
  refine T.law_test_of.F.ok sc_law_test_of (fun vs H Q E h => ?_) (fun cdv A outer s H vs Q E hr h => ?_)
  · obtain ⟨salt, a, sc, rfl, _⟩ := h; rfl
  obtain ⟨salt, a, sc, rfl, hS, q⟩ := h
  refine ⟨_, (pss_cons (ps_set (i := 2) sc_law_test_of.nd rfl (Or.inl rfl) (pe_call G_law_draw hr rfl T.law_draw.m T.law_draw.F.kp T.law_draw.b .nil pass0 (pa_cons (pv 0) (pa_cons pe_int (pa_cons pe_int pa_nil)))))
    (pss_cons (ps_set (i := 3) sc_law_test_of.nd rfl (Or.inl rfl) (pe_call G_law_leaf hr rfl T.law_leaf.m T.law_leaf.F.kp T.law_leaf.b .nil pass0 (pa_cons (pv 0) (pa_cons pe_int (pa_cons pe_int (pa_cons (pv 1) pa_nil))))))
    (pss_consM (ps_if (pt_cmpR op_eq (pe_call G_law_draw hr rfl T.law_draw.m T.law_draw.F.kp T.law_draw.b .nil pass0 (pa_cons (pv 0) (pa_cons pe_int (pa_cons pe_int pa_nil)))) pe_int (nomark _)) (pss_one (ps_set (i := 3) sc_law_test_of.nd rfl (Or.inl rfl) (pe_call G_law_sum_of hr rfl T.law_sum_of.m T.law_sum_of.F.kp T.law_sum_of.b .nil pass0 (pa_cons (pv 0) (pa_cons (pv 1) pa_nil))))) pss_nil)
    (pss_cons (ps_set (i := 4) sc_law_test_of.nd rfl (Or.inl rfl) (pe_tup (pa_cons pe_str (pa_cons (pv 3) (pa_cons (pe_tup (pa_cons pe_str (pa_cons (pe_op op_sub (pe_call G_law_draw hr rfl T.law_draw.m T.law_draw.F.kp T.law_draw.b .nil pass0 (pa_cons (pv 0) (pa_cons pe_int (pa_cons pe_int pa_nil)))) pe_int) pa_nil))) pa_nil)))))
    (pss_cons (ps_if (pt_cmpR op_eq (pv 2) pe_int (nomark _)) (pss_one (ps_ret (pe_tup (pa_cons pe_str (pa_cons (pv 3) (pa_cons (pe_call G_law_leaf hr rfl T.law_leaf.m T.law_leaf.F.kp T.law_leaf.b .nil pass0 (pa_cons (pv 0) (pa_cons pe_int (pa_cons pe_int (pa_cons (pv 1) pa_nil))))) pa_nil)))))) pss_nil)
    (pss_cons (ps_if (pt_cmpR op_eq (pv 2) pe_int (nomark _)) (pss_one (ps_ret (pe_tup (pa_cons pe_str (pa_cons (pv 4) pa_nil))))) pss_nil)
    (pss_cons (ps_if (pt_cmpR op_eq (pv 2) pe_int (nomark _)) (pss_cons (ps_set (i := 5) sc_law_test_of.nd rfl (Or.inl rfl) (pe_tup (pa_cons pe_str (pa_cons (pv 3) (pa_cons (pe_call G_law_leaf hr rfl T.law_leaf.m T.law_leaf.F.kp T.law_leaf.b .nil pass0 (pa_cons (pv 0) (pa_cons pe_int (pa_cons pe_int (pa_cons (pv 1) pa_nil))))) pa_nil)))))
    (pss_one (ps_ret (pe_tup (pa_cons pe_str (pa_cons (pe_tup (pa_cons pe_str (pa_cons (pv 4) (pa_cons (pv 5) pa_nil)))) (pa_cons (pe_tup (pa_cons pe_str (pa_cons (pe_tup (pa_cons pe_str (pa_cons (pv 5) (pa_cons (pv 4) pa_nil)))) pa_nil))) pa_nil))))))) pss_nil)
    (pss_cons (ps_if (pt_cmpR op_eq (pv 2) pe_int (nomark _)) (pss_one (ps_ret (pe_tup (pa_cons pe_str (pa_cons (pe_tup (pa_cons pe_str (pa_cons (pe_tup (pa_cons pe_str (pa_cons (pv 4) pa_nil))) pa_nil))) (pa_cons (pe_tup (pa_cons pe_str (pa_cons (pe_tup (pa_cons pe_str (pa_cons (pe_un un_neg pe_int) pa_nil))) (pa_cons (pv 3) pa_nil)))) pa_nil)))))) pss_nil)
    (pss_one (ps_ret (pv 4))))))))))), ?_⟩
  try dsimp only [kx, kxb]
  have two : (2 : Nat) ≤ sizeLine := by decide
  have three : (3 : Nat) ≤ sizeLine := by decide
  have eqi : ∀ {x y : Int}, decide (V.int x = V.int y) = true → x = y := fun c => by injection (of_decide_eq_true c)
  have nqi : ∀ {x y : Int}, ¬ decide (V.int x = V.int y) = true → ¬ x = y := fun c z => c (decide_eq_true (by rw [z]))
  refine ⟨_, rfl, salt, 1063, 7, rfl, by decide, by decide, ?_⟩
  refine ⟨_, rfl, _, rfl, salt, 1009, 1013, a, sc, rfl, hS, by decide, by decide, fun u1 H1 S1 h1 => ?_⟩
  refine ⟨fun σ' H' => ∃ u, σ' = [some (.int salt), some (.ref a), some (.int (drw salt 1063 7)), some u, none, none] ∧ Same H H' ∧ IsSum H' u (if drw salt 1097 3 = 1 then sumF salt sc else leafF salt 1009 1013 sc), ?_, ?_⟩
  · refine ⟨_, rfl, salt, 1097, 3, rfl, by decide, by decide, rfl, _, rfl, ?_⟩
    refine ite2 (fun c => ?_) (fun c => ?_)
    · refine ⟨_, rfl, _, rfl, salt, a, sc, rfl, S1.seq hS, fun u2 H2 S2 h2 => ⟨u2, rfl, S1.trans S2, ?_⟩⟩
      rw [if_pos (eqi c)]
      exact h2
    · refine ⟨u1, rfl, S1, ?_⟩
      rw [if_neg (nqi c)]
      exact h1
  rintro σ' H' ⟨u, rfl, S, hu⟩
  have eF : testF salt sc = (if drw salt 1063 7 = 3 then Ts.same (if drw salt 1097 3 = 1 then sumF salt sc else leafF salt 1009 1013 sc) (leafF salt 1019 1021 sc)
    else if drw salt 1063 7 = 4 then .not (Ts.less (if drw salt 1097 3 = 1 then sumF salt sc else leafF salt 1009 1013 sc) (.num (drw salt 1069 9 - 1)))
    else if drw salt 1063 7 = 6 then .both (.both (Ts.less (if drw salt 1097 3 = 1 then sumF salt sc else leafF salt 1009 1013 sc) (.num (drw salt 1069 9 - 1))) (Ts.same (if drw salt 1097 3 = 1 then sumF salt sc else leafF salt 1009 1013 sc) (leafF salt 1019 1021 sc)))
      (.not (.both (Ts.same (if drw salt 1097 3 = 1 then sumF salt sc else leafF salt 1009 1013 sc) (leafF salt 1019 1021 sc)) (Ts.less (if drw salt 1097 3 = 1 then sumF salt sc else leafF salt 1009 1013 sc) (.num (drw salt 1069 9 - 1)))))
    else if drw salt 1063 7 = 5 then .both (.not (.not (Ts.less (if drw salt 1097 3 = 1 then sumF salt sc else leafF salt 1009 1013 sc) (.num (drw salt 1069 9 - 1))))) (.less (.num (-6)) (if drw salt 1097 3 = 1 then sumF salt sc else leafF salt 1009 1013 sc))
    else Ts.less (if drw salt 1097 3 = 1 then sumF salt sc else leafF salt 1009 1013 sc) (.num (drw salt 1069 9 - 1))) := rfl
  rw [eF] at q
  generalize (if drw salt 1097 3 = 1 then sumF salt sc else leafF salt 1009 1013 sc) = one at q hu
  refine ⟨_, rfl, _, rfl, salt, 1069, 9, rfl, by decide, by decide, _, _, rfl, rfl, two, fun p1 hp1 => ⟨three, fun p2 hp2 => ?_⟩⟩
  have Sa := same_new hp1 (.tup [.str "num", .int (drw salt 1069 9 - 1)])
  have Sb := same_new hp2 (.tup [.str "less", u, .ref p1])
  have hl : IsTest (upd (upd H' p1 (.tup [.str "num", .int (drw salt 1069 9 - 1)])) p2 (.tup [.str "less", u, .ref p1])) (.ref p2) (.less one (.num (drw salt 1069 9 - 1))) := .less upd_same (hu.mono (Sa.trans Sb).tup) (.num (Sb _ _ upd_same))
  have SS := S.trans (Sa.trans Sb)
  have hu2 := hu.mono (Sa.trans Sb).tup
  generalize upd (upd H' p1 (.tup [.str "num", .int (drw salt 1069 9 - 1)])) p2 (.tup [.str "less", u, .ref p1]) = H2 at hl SS hu2
  generalize (Ts.less one (.num (drw salt 1069 9 - 1))) = least at q hl
  refine ⟨_, rfl, rfl, _, rfl, ?_⟩
  refine ite2 (fun c => ?_) (fun c => ?_)
  · rw [if_pos (eqi c)] at q
    refine ⟨_, rfl, _, rfl, _, rfl, salt, 1019, 1021, a, sc, rfl, SS.seq hS, by decide, by decide, fun u3 H3 S3 h3 => ⟨three, fun p3 hp3 => ?_⟩⟩
    have S4 := same_new hp3 (.tup [.str "same", u, u3])
    exact q _ _ (SS.trans (S3.trans S4)) (.same upd_same (hu2.mono (S3.trans S4).tup) (h3.mono S4.tup))
  rw [if_neg (nqi c)] at q
  refine ⟨_, rfl, rfl, _, rfl, ?_⟩
  refine ite2 (fun c => ?_) (fun c => ?_)
  · rw [if_pos (eqi c)] at q
    refine ⟨_, rfl, two, fun p3 hp3 => ?_⟩
    have S4 := same_new hp3 (.tup [.str "not", .ref p2])
    exact q _ _ (SS.trans S4) (.not upd_same (hl.mono S4.tup))
  rw [if_neg (nqi c)] at q
  refine ⟨_, rfl, rfl, _, rfl, ?_⟩
  refine ite2 (fun c => ?_) (fun c => ?_)
  · rw [if_pos (eqi c)] at q
    refine ⟨_, rfl, _, rfl, _, rfl, salt, 1019, 1021, a, sc, rfl, SS.seq hS, by decide, by decide, fun u3 H3 S3 h3 => ⟨three, fun p3 hp3 => ?_⟩⟩
    have S4 := same_new hp3 (.tup [.str "same", u, u3])
    have ho : IsTest (upd H3 p3 (.tup [.str "same", u, u3])) (.ref p3) (.same one (leafF salt 1019 1021 sc)) := .same upd_same (hu2.mono (S3.trans S4).tup) (h3.mono S4.tup)
    have SS4 := SS.trans (S3.trans S4)
    have hl4 := hl.mono (S3.trans S4).tup
    generalize upd H3 p3 (.tup [.str "same", u, u3]) = H4 at ho SS4 hl4
    refine ⟨_, rfl, _, rfl, three, fun p5 hp5 => ⟨_, rfl, _, rfl, three, fun p6 hp6 => ⟨two, fun p7 hp7 => ⟨three, fun p8 hp8 => ?_⟩⟩⟩⟩
    have S5 := same_new hp5 (.tup [.str "both", .ref p2, .ref p3])
    have S6 := same_new hp6 (.tup [.str "both", .ref p3, .ref p2])
    have S7 := same_new hp7 (.tup [.str "not", .ref p6])
    have S8 := same_new hp8 (.tup [.str "both", .ref p5, .ref p7])
    have S68 := S6.trans (S7.trans S8)
    have S58 := S5.trans S68
    exact q _ _ (SS4.trans S58) (.both upd_same (.both (S68 _ _ upd_same) (hl4.mono S58.tup) (ho.mono S58.tup)) (.not (S8 _ _ upd_same) (.both ((S7.trans S8) _ _ upd_same) (ho.mono S58.tup) (hl4.mono S58.tup))))
  rw [if_neg (nqi c)] at q
  refine ⟨_, rfl, rfl, _, rfl, ?_⟩
  refine ite2 (fun c => ?_) (fun c => ?_)
  · rw [if_pos (eqi c)] at q
    refine ⟨_, rfl, two, fun p5 hp5 => ⟨two, fun p6 hp6 => ⟨_, rfl, two, fun p7 hp7 => ⟨_, rfl, three, fun p8 hp8 => ⟨three, fun p9 hp9 => ?_⟩⟩⟩⟩⟩
    have S5 := same_new hp5 (.tup [.str "not", .ref p2])
    have S6 := same_new hp6 (.tup [.str "not", .ref p5])
    have S7 := same_new hp7 (.tup [.str "num", .int (-6)])
    have S8 := same_new hp8 (.tup [.str "less", .ref p7, u])
    have S9 := same_new hp9 (.tup [.str "both", .ref p6, .ref p8])
    have S79 := S7.trans (S8.trans S9)
    have S69 := S6.trans S79
    have S59 := S5.trans S69
    exact q _ _ (SS.trans S59) (.both upd_same (.not (S79 _ _ upd_same) (.not (S69 _ _ upd_same) (hl.mono S59.tup))) (.less (S9 _ _ upd_same) (.num ((S8.trans S9) _ _ upd_same)) (hu2.mono S59.tup)))
  rw [if_neg (nqi c)] at q
  exact ⟨_, rfl, q _ _ SS hl⟩
end
section
variable {P : Program} {w : World} {K : PySem.W.Frag} {mg : Str → Option Value} {base : Heap}
def spHead (K : PySem.W.Frag) : Sp := fun vs H Q _ => ∃ (way salt : Int) (a : Addr) (sc : List Str), vs = [.int way, .int salt, .ref a] ∧ H a = some (.lst (sc.map V.str)) ∧ sc.length ≤ 1000 ∧
  ∀ u H', Same H H' → (∀ M, IsHd H' M u (headF way salt sc)) → Q u H'
theorem ok_law_head_of (T : Txt K mg) : FnOk P w K mg base CX0 5 T.f_law_head_of T.fd_law_head_of ["_law_way", "_law_salt", "_law_scope"] (spHead K) := by
  have G_law_draw := (ok_law_draw (P := P) (w := w) (base := base) T).mono (show 1 ≤ 4 by omega)
  have G_law_sum_of := (ok_law_sum_of (P := P) (w := w) (base := base) T).mono (show 3 ≤ 4 by omega)
  have G_law_test_of := ok_law_test_of (P := P) (w := w) (base := base) T
  refine T.law_head_of.F.ok sc_law_head_of (fun vs H Q E h => ?_) (fun cdv A outer s H vs Q E hr h => ?_)
  · obtain ⟨way, salt, a, sc, rfl, _⟩ := h; rfl
  obtain ⟨way, salt, a, sc, rfl, hS, hn, q⟩ := h
  refine ⟨_, (pss_cons (ps_if (pt_cmpR op_eq (pv 0) pe_int (nomark _)) (pss_one (ps_ret (pe_tup (pa_cons pe_str (pa_cons (pe_call G_law_test_of hr rfl T.law_test_of.m T.law_test_of.F.kp T.law_test_of.b .nil pass0 (pa_cons (pv 1) (pa_cons (pv 2) pa_nil))) pa_nil))))) pss_nil)
    (pss_cons (ps_if (pt_cmpR op_eq (pv 0) pe_int (nomark _)) (pss_one (ps_ret (pe_tup (pa_cons pe_str (pa_cons (pe_call G_law_test_of hr rfl T.law_test_of.m T.law_test_of.F.kp T.law_test_of.b .nil pass0 (pa_cons (pv 1) (pa_cons (pv 2) pa_nil))) pa_nil))))) pss_nil)
    (pss_cons (ps_set (i := 3) sc_law_head_of.nd rfl (Or.inl rfl) (pe_op op_cat (pe_slice sl_list (pv 2) po_none (po_some pe_int)) (pe_lst (pa_cons pe_str (pa_cons pe_str pa_nil)))))
    (pss_cons (ps_set (i := 4) sc_law_head_of.nd rfl (Or.inl rfl) (pe_ix ix_list (pv 3) (pe_call G_law_draw hr rfl T.law_draw.m T.law_draw.F.kp T.law_draw.b .nil pass0 (pa_cons (pv 1) (pa_cons pe_int (pa_cons (pe_callB call_len_seq rfl T.b_len PySem.boot_len (pa_cons (pv 3) pa_nil)) pa_nil)))) (fun _ _ => rfl)))
    (pss_one (ps_ret (pe_tup (pa_cons pe_str (pa_cons (pv 4) (pa_cons (pe_call G_law_sum_of hr rfl T.law_sum_of.m T.law_sum_of.F.kp T.law_sum_of.b .nil pass0 (pa_cons (pv 1) (pa_cons (pv 2) pa_nil))) pa_nil)))))))))), ?_⟩
  try dsimp only [kx, kxb]
  have two : (2 : Nat) ≤ sizeLine := by decide
  have three : (3 : Nat) ≤ sizeLine := by decide
  have eqi : ∀ {x y : Int}, decide (V.int x = V.int y) = true → x = y := fun c => by injection (of_decide_eq_true c)
  have nqi : ∀ {x y : Int}, ¬ decide (V.int x = V.int y) = true → ¬ x = y := fun c z => c (decide_eq_true (by rw [z]))
  unfold headF at q
  refine ⟨_, rfl, rfl, _, rfl, ?_⟩
  refine ite2 (fun c => ?_) (fun c => ?_)
  · rw [if_pos (eqi c)] at q
    refine ⟨_, rfl, _, rfl, salt, a, sc, rfl, SqL.of hS, fun u H1 S1 h1 => ⟨two, fun p hp => ?_⟩⟩
    have S2 := same_new hp (.tup [.str "while", u])
    exact q _ _ (S1.trans S2) fun M => .whil upd_same (h1.mono S2.tup)
  rw [if_neg (nqi c)] at q
  refine ⟨_, rfl, rfl, _, rfl, ?_⟩
  refine ite2 (fun c => ?_) (fun c => ?_)
  · rw [if_pos (eqi c)] at q
    refine ⟨_, rfl, _, rfl, salt, a, sc, rfl, SqL.of hS, fun u H1 S1 h1 => ⟨two, fun p hp => ?_⟩⟩
    have S2 := same_new hp (.tup [.str "when", u])
    exact q _ _ (S1.trans S2) fun M => .when upd_same (h1.mono S2.tup)
  rw [if_neg (nqi c)] at q
  refine ⟨_, rfl, _, rfl, _, _, rfl, SqL.of hS, fun p1 hp1 => ⟨two, fun p2 hp2 => ?_⟩⟩
  have S1 := same_new hp1 (.lst (cutV (sc.map V.str) none (some 3)))
  have S2 := same_new hp2 (.lst [V.str "aa", V.str "quill"])
  have ecut := cut_take sc 3
  refine ⟨p1, p2, (sc.take 3).map V.str, [V.str "aa", V.str "quill"], rfl, rfl, S2 _ _ (by rw [upd_same]; exact congrArg (fun z => some (HO.lst z)) ecut), upd_same, by rw [sizeLine_eq, List.length_map, List.length_take]; show _ + 2 ≤ _; omega, fun p3 hp3 => ?_⟩
  have S3 := same_new hp3 (.lst ((sc.take 3).map V.str ++ [V.str "aa", V.str "quill"]))
  have e3 : upd (upd (upd H p1 (.lst (cutV (sc.map V.str) none (some 3)))) p2 (.lst [V.str "aa", V.str "quill"])) p3 (.lst ((sc.take 3).map V.str ++ [V.str "aa", V.str "quill"])) p3 = some (.lst ((jarsF sc).map V.str)) := by
    rw [upd_same]; unfold jarsF; rw [List.map_append]; rfl
  have SS := S1.trans (S2.trans S3)
  generalize upd (upd (upd H p1 (.lst (cutV (sc.map V.str) none (some 3)))) p2 (.lst [V.str "aa", V.str "quill"])) p3 (.lst ((sc.take 3).map V.str ++ [V.str "aa", V.str "quill"])) = H3 at e3 SS
  have hjl : ((jarsF sc).map V.str).length = (jarsF sc).length := List.length_map _
  have hjp : (0 : Int) < ((jarsF sc).length : Int) := by
    have : (jarsF sc).length = (sc.take 3).length + 2 := by unfold jarsF; rw [List.length_append]; rfl
    omega
  have hjp' : (0 : Int) < (((jarsF sc).map V.str).length : Int) := by rw [hjl]; exact hjp
  refine ⟨_, rfl, _, rfl, _, rfl, _, _, rfl, .inl (SqL.of e3), salt, 1087, _, rfl, by decide, hjp', ?_⟩
  rw [hjl]
  refine ⟨_, _, _, _, rfl, rfl, SqL.of e3, atI_str (drw_lo hjp) (drw_hi hjp), ?_⟩
  refine ⟨_, rfl, _, rfl, _, rfl, salt, a, sc, rfl, SqL.of (SS _ _ hS), fun u H4 S4 h4 => ⟨three, fun p hp => ?_⟩⟩
  have S5 := same_new hp (.tup [.str "with", .str (jarF salt sc), u])
  exact q _ _ (SS.trans (S4.trans S5)) fun M => .wit upd_same (h4.mono S5.tup)
end
end W10

set_option Elab.async false
set_option linter.all false
set_option maxRecDepth 100000
set_option maxHeartbeats 4000000
namespace W10
open PySem L2 J
section
variable {P : Program} {w : World} {K : PySem.W.Frag} {mg : Str → Option Value} {base : Heap}
/-! ### _law_close -/
def spClose : Sp := fun vs H Q _ => ∃ (lb lh ls : Addr) (salt : Int) (H0 : Hp) (g : Gs) (vbs vhs : List V) (k : Nat), vs = [.ref lb, .ref lh, .ref ls, .int salt] ∧ GRel H0 H lb lh ls noM g vbs vhs ∧ g.hs ≠ [] ∧ g.Ok k ∧ k ≤ 1000 ∧ vbs.length ≤ 1100 ∧ vhs.length ≤ 1100 ∧
  ∀ H' vbs' vhs', GRel H0 H' lb lh ls noM (closeF salt g) vbs' vhs' → Q .non H'
def MClose (H0 : Hp) (lb lh ls p a4 : Addr) (salt : Int) (ut : V) (t : Ts) (b : Bk) (g : Gs) (vbs vhs : List V) (σ : St) (H' : Hp) : Prop :=
  σ = [some (.ref lb), some (.ref lh), some (.ref ls), some (.int salt), some (.ref a4), some (.ref p), some ut] ∧ GRel H0 H' lb lh ls (fun a => a = p) g vbs vhs ∧ IsTest H' ut t ∧ ∃ vs, H' p = some (.lst vs) ∧ IsBk H' (GM lb lh ls vbs fun a => a = p) vs (b.app (endF salt t))
theorem ok_law_close (T : Txt K mg) : FnOk P w K mg base CX0 2 T.f_law_close T.fd_law_close ["_law_blocks", "_law_heads", "_law_scope", "_law_salt"] spClose := by
  have G_law_draw := ok_law_draw (P := P) (w := w) (base := base) T
  refine T.law_close.F.ok sc_law_close (fun vs H Q E h => ?_) (fun cdv A outer s H vs Q E hr h => ?_)
  · obtain ⟨lb, lh, ls, salt, H0, g, vbs, vhs, k, rfl, _⟩ := h; rfl
  obtain ⟨lb, lh, ls, salt, H0, g, vbs, vhs, k, rfl, hG, hne, hok, hk, hv1, hv2, q⟩ := h
  refine ⟨_, (pss_cons (ps_set (i := 4) sc_law_close.nd rfl (Or.inl rfl) (pe_bm0 PySem.F.plainAttrs_list PySem.F.slot_list_pop PySem.F.type_list_pop mt_pop (pv 1)))
    (pss_cons (ps_set (i := 5) sc_law_close.nd rfl (Or.inl rfl) (pe_bm0 PySem.F.plainAttrs_list PySem.F.slot_list_pop PySem.F.type_list_pop mt_pop (pv 0)))
    (pss_one (ps_if (pt_cmpR op_eq (pe_ix ix_tup (pv 4) pe_int (fun _ _ => rfl)) pe_str (nomark _)) (pss_cons (ps_expr (pe_bm PySem.F.plainAttrs_list PySem.F.slot_list_append PySem.F.type_list_append mt_append (pv 1) (pa_cons (pe_tup (pa_cons pe_str (pa_cons (pe_ix ix_tup (pv 4) pe_int (fun _ _ => rfl)) (pa_cons (pv 5) pa_nil)))) pa_nil)))
    (pss_one (ps_expr (pe_bm PySem.F.plainAttrs_list PySem.F.slot_list_append PySem.F.type_list_append mt_append (pv 0) (pa_cons (pe_lst pa_nil) pa_nil))))) (pss_one (ps_if (pt_cmpR op_eq (pe_ix ix_tup (pv 4) pe_int (fun _ _ => rfl)) pe_str (nomark _)) (pss_one (ps_expr (pe_bm PySem.F.plainAttrs_list PySem.F.slot_list_append PySem.F.type_list_append mt_append (pe_ix ix_list (pv 0) (pe_un un_neg pe_int) (fun _ _ => rfl)) (pa_cons (pe_tup (pa_cons pe_str (pa_cons (pe_ix ix_tup (pv 4) pe_int (fun _ _ => rfl)) (pa_cons (pe_ix ix_tup (pv 4) pe_int (fun _ _ => rfl)) (pa_cons (pv 5) pa_nil))))) pa_nil)))) (pss_one (ps_if (pt_cmpR op_eq (pe_ix ix_tup (pv 4) pe_int (fun _ _ => rfl)) pe_str (nomark _)) (pss_cons (ps_set (i := 6) sc_law_close.nd rfl (Or.inl rfl) (pe_ix ix_tup (pv 4) pe_int (fun _ _ => rfl)))
    (pss_consM (ps_if (PW.pt (pw_and (pt_cmpR op_eq (pe_ix ix_tup (pv 6) pe_int (fun _ _ => rfl)) pe_str (nomark _)) (pw_and (pt_cmpR op_eq (pe_ix ix_tup (pe_ix ix_tup (pv 6) pe_int (fun _ _ => rfl)) pe_int (fun _ _ => rfl)) pe_str (nomark _)) (pw_and1 (pt_cmpR op_gt (pe_call G_law_draw hr rfl T.law_draw.m T.law_draw.F.kp T.law_draw.b .nil pass0 (pa_cons (pv 3) (pa_cons pe_int (pa_cons pe_int pa_nil)))) pe_int (nomark _)))))) (pss_one (ps_expr (pe_bm PySem.F.plainAttrs_list PySem.F.slot_list_append PySem.F.type_list_append mt_append (pv 5) (pa_cons (pe_tup (pa_cons pe_str (pa_cons (pe_ix ix_tup (pe_ix ix_tup (pv 6) pe_int (fun _ _ => rfl)) pe_int (fun _ _ => rfl)) (pa_cons (pe_tup (pa_cons pe_str (pa_cons (pe_ix ix_tup (pv 6) pe_int (fun _ _ => rfl)) (pa_cons (pe_tup (pa_cons pe_str (pa_cons pe_int pa_nil))) pa_nil)))) pa_nil)))) pa_nil)))) pss_nil)
    (pss_one (ps_expr (pe_bm PySem.F.plainAttrs_list PySem.F.slot_list_append PySem.F.type_list_append mt_append (pe_ix ix_list (pv 0) (pe_un un_neg pe_int) (fun _ _ => rfl)) (pa_cons (pe_tup (pa_cons pe_str (pa_cons (pv 6) (pa_cons (pv 5) pa_nil)))) pa_nil)))))) (pss_cons (ps_expr (pe_bm0 PySem.F.plainAttrs_list PySem.F.slot_list_pop PySem.F.type_list_pop mt_pop (pv 2)))
    (pss_one (ps_expr (pe_bm PySem.F.plainAttrs_list PySem.F.slot_list_append PySem.F.type_list_append mt_append (pe_ix ix_list (pv 0) (pe_un un_neg pe_int) (fun _ _ => rfl)) (pa_cons (pe_tup (pa_cons pe_str (pa_cons (pe_ix ix_tup (pv 4) pe_int (fun _ _ => rfl)) (pa_cons (pe_ix ix_tup (pv 4) pe_int (fun _ _ => rfl)) (pa_cons (pv 5) pa_nil))))) pa_nil))))))))))))), ?_⟩
  try dsimp only [kx, kxb]
  have one : (1 : Nat) ≤ sizeLine := by decide
  have two : (2 : Nat) ≤ sizeLine := by decide
  have three : (3 : Nat) ≤ sizeLine := by decide
  have four : (4 : Nat) ≤ sizeLine := by decide
  obtain ⟨bs, hs, sc⟩ := g
  match hs, hne with
  | hd :: hs, _ =>
  match bs, hok.len with
  | b :: bs, hlen =>
  have hnn := hok.n
  simp only [Gs.n, List.map_cons, List.sum_cons] at hnn
  obtain ⟨vbs', p, vs, vhs', u, rfl, rfl, hG', hu, hp, hb, n1, n2, n3, h0, hnp⟩ := hG.pop
  have hvl : vs.length ≤ b.n := hb.len
  simp only [List.length_append, List.length_cons, List.length_nil] at hv1 hv2
  refine ⟨_, rfl, .inl ⟨rfl, _, SqL.of hG.eh⟩, _, _, _, rfl, rfl, hG.eh, last_get _ _, ?_⟩
  rw [List.dropLast_concat]
  have eb1 : upd H lh (.lst vhs') lb = some (.lst (vbs' ++ [.ref p])) := by rw [upd_ne hG.ne1]; exact hG.eb
  refine ⟨_, rfl, .inl ⟨rfl, _, SqL.of eb1⟩, _, _, _, rfl, rfl, eb1, last_get _ _, ?_⟩
  rw [List.dropLast_concat]
  generalize upd (upd H lh (.lst vhs')) lb (.lst vbs') = H2 at hG' hu hp hb
  clear hG eb1
  have nM := GRel.not_M (H0 := H0) (H := H2) n1 n2 n3 hnp
  cases hu with
  | @when a4 ut t e ht =>
    refine ⟨_, rfl, _, _, _, _, rfl, rfl, SqT.of e, at0, rfl, _, rfl, iteT' (by decide +kernel) ?_⟩
    refine ⟨_, rfl, .inl ⟨rfl, _, SqL.of hG'.eh⟩, _, rfl, _, _, _, _, rfl, rfl, SqT.of e, rfl, _, rfl, three, fun p1 hp1 => ?_⟩
    have S3 : Same H2 (upd H2 p1 (.tup [.str "else", ut, .ref p])) := same_new hp1 _
    have hG3 := (hG'.grow S3).close
    have hh : IsHd (upd H2 p1 (.tup [.str "else", ut, .ref p])) (GM lb lh ls vbs' noM) (.ref p1) (.els t b) :=
      .els upd_same (ht.mono S3.tup) nM (S3 _ _ hp) (hb.mono (.of S3) S3.tup fun a _ z => gm_less a z)
    generalize upd H2 p1 (.tup [.str "else", ut, .ref p]) = H3 at hG3 hh
    refine ⟨_, _, _, rfl, rfl, hG3.eh, by rw [sizeLine_eq]; omega, ?_⟩
    have eb4 : upd H3 lh (.lst (vhs' ++ [.ref p1])) lb = some (.lst vbs') := by rw [upd_ne hG3.ne1]; exact hG3.eb
    refine ⟨_, rfl, .inl ⟨rfl, _, SqL.of eb4⟩, Nat.zero_le _, fun p2 hp2 => ?_⟩
    have nb2 : lb ≠ p2 := fun z => by rw [← z, eb4] at hp2; cases hp2
    refine ⟨_, _, _, rfl, rfl, (by rw [upd_ne nb2]; exact eb4), by rw [sizeLine_eq]; omega, ?_⟩
    exact q _ _ _ (hG3.push hh hp2)
  | @els a4 p0 ut t vs0 b0 e ht nM0 hp0 hb0 =>
    match bs, hlen with
    | b1 :: bs, hlen =>
    obtain ⟨vb2, p1, vs1, rfl, hp1, hl1, hadd⟩ := hG'.close.top
    simp only [List.map_cons, List.sum_cons] at hnn
    refine ⟨_, rfl, _, _, _, _, rfl, rfl, SqT.of e, at0, rfl, _, rfl, iteF' (by decide +kernel) ?_⟩
    refine ⟨_, rfl, _, _, _, _, rfl, rfl, SqT.of e, at0, rfl, _, rfl, iteT' (by decide +kernel) ?_⟩
    refine ⟨_, rfl, _, rfl, _, _, _, _, rfl, rfl, SqL.of hG'.eb, atI_last _ _, .inl ⟨rfl, _, SqL.of hp1⟩, _, rfl, _, _, _, _, rfl, rfl, SqT.of e, rfl, _, rfl, _, _, _, _, rfl, rfl, SqT.of e, rfl, _, rfl, four, fun p2 hp2 => ?_⟩
    have S3 : Same H2 (upd H2 p2 (.tup [.str "when", ut, .ref p0, .ref p])) := same_new hp2 _
    refine ⟨_, _, _, rfl, rfl, S3 _ _ hp1, by rw [sizeLine_eq]; omega, ?_⟩
    refine q _ _ _ (hadd _ S3 [.ref p2] (.when t b0 b .nil) ?_)
    exact .when upd_same (ht.mono S3.tup) (fun z => nM0 (gm_less _ z)) (S3 _ _ hp0) (hb0.mono (.of S3) S3.tup fun a _ z => gm_less a z) nM (S3 _ _ hp) (hb.mono (.of S3) S3.tup fun a _ z => gm_less a z) .nil
  | @wit a4 x us sm e hs' =>
    match bs, hlen with
    | b1 :: bs, hlen =>
    simp only [List.map_cons, List.sum_cons] at hnn
    refine ⟨_, rfl, _, _, _, _, rfl, rfl, SqT.of e, at0, rfl, _, rfl, iteF' (by decide +kernel) ?_⟩
    refine ⟨_, rfl, _, _, _, _, rfl, rfl, SqT.of e, at0, rfl, _, rfl, iteF' (by decide +kernel) ?_⟩
    refine ⟨_, rfl, _, _, _, _, rfl, rfl, SqT.of e, at0, rfl, _, rfl, iteF' (by decide +kernel) ?_⟩
    have hwl := hok.wl
    simp only [Gs.w, List.map_cons, List.sum_cons, Hd.w] at hwl
    have hsne : sc ≠ [] := fun z => by rw [z] at hwl; simp at hwl
    have esn : sc = sc.dropLast ++ [sc.getLast hsne] := (List.dropLast_concat_getLast hsne).symm
    have es2 : H2 ls = some (.lst (sc.dropLast.map V.str ++ [.str (sc.getLast hsne)])) := by
      rw [hG'.es]
      conv => lhs; rw [esn]
      rw [List.map_append]
      rfl
    refine ⟨_, rfl, .inl ⟨rfl, _, SqL.of es2⟩, _, _, _, rfl, rfl, es2, last_get _ _, ?_⟩
    rw [List.dropLast_concat]
    have hG3 := hG'.close.scope sc.dropLast
    have B3 : Out (GM lb lh ls vbs' noM) H2 (upd H2 ls (.lst (sc.dropLast.map V.str))) := out_upd (.inr (.inr (.inl rfl))) _
    have L3 := tup_upd es2 (.lst (sc.dropLast.map V.str))
    have hp3 : upd H2 ls (.lst (sc.dropLast.map V.str)) p = some (.lst vs) := by rw [upd_ne n3]; exact hp
    have hb3 : IsBk (upd H2 ls (.lst (sc.dropLast.map V.str))) (GM lb lh ls vbs' noM) vs b := (hb.mono (M' := GM lb lh ls vbs' noM) (fun _ _ _ z => z) (fun _ _ z => z) fun a _ z => gm_less a z).mono B3 L3 fun _ _ z => z
    have e3 := L3 _ _ e
    have hs3 := hs'.mono L3
    generalize upd H2 ls (.lst (sc.dropLast.map V.str)) = H3 at hG3 hp3 hb3 e3 hs3
    obtain ⟨vb2, p1, vs1, rfl, hp1, hl1, hadd⟩ := hG3.top
    refine ⟨_, rfl, _, rfl, _, _, _, _, rfl, rfl, SqL.of hG3.eb, atI_last _ _, .inl ⟨rfl, _, SqL.of hp1⟩, _, rfl, _, _, _, _, rfl, rfl, SqT.of e3, rfl, _, rfl, _, _, _, _, rfl, rfl, SqT.of e3, rfl, _, rfl, four, fun p2 hp2 => ?_⟩
    have S4 : Same H3 (upd H3 p2 (.tup [.str "with", .str x, us, .ref p])) := same_new hp2 _
    refine ⟨_, _, _, rfl, rfl, S4 _ _ hp1, by rw [sizeLine_eq]; omega, ?_⟩
    refine q _ _ _ (hadd _ S4 [.ref p2] (.wit x sm b .nil) ?_)
    exact .wit upd_same (hs3.mono S4.tup) nM (S4 _ _ hp3) (hb3.mono (.of S4) S4.tup fun _ _ z => z) .nil
  | @whil a4 ut t e ht =>
    match bs, hlen with
    | b1 :: bs, hlen =>
    simp only [List.map_cons, List.sum_cons] at hnn
    refine ⟨_, rfl, _, _, _, _, rfl, rfl, SqT.of e, at0, rfl, _, rfl, iteF' (by decide +kernel) ?_⟩
    refine ⟨_, rfl, _, _, _, _, rfl, rfl, SqT.of e, at0, rfl, _, rfl, iteF' (by decide +kernel) ?_⟩
    refine ⟨_, rfl, _, _, _, _, rfl, rfl, SqT.of e, at0, rfl, _, rfl, iteT' (by decide +kernel) ?_⟩
    refine ⟨_, rfl, _, _, _, _, rfl, rfl, SqT.of e, rfl, ?_⟩
    refine ⟨MClose H0 lb lh ls p a4 salt ut t b ⟨b1 :: bs, hs, sc⟩ vbs' vhs', ?_, ?_⟩
    · have idle : endF salt t = .nil → MClose H0 lb lh ls p a4 salt ut t b ⟨b1 :: bs, hs, sc⟩ vbs' vhs' [some (.ref lb), some (.ref lh), some (.ref ls), some (.int salt), some (.ref a4), some (.ref p), some ut] H2 := fun en =>
        ⟨rfl, hG', ht, vs, hp, by rw [en, Bk.app_nil]; exact hb⟩
      cases ht with
      | @less at1 u1 u2 s1 s2 et h1 h2 =>
        refine ⟨_, rfl, _, _, _, _, rfl, rfl, SqT.of et, at0, rfl, _, rfl, iteT' (by decide +kernel) ?_⟩
        cases h1 with
        | @num an i en => exact ⟨_, rfl, _, _, _, _, rfl, rfl, SqT.of et, rfl, _, _, _, _, rfl, rfl, SqT.of en, at0, rfl, _, rfl, iteF' (by decide +kernel) (iteF (idle rfl))⟩
        | @op an o v1 v2 t1 t2 en g1 g2 => exact ⟨_, rfl, _, _, _, _, rfl, rfl, SqT.of et, rfl, _, _, _, _, rfl, rfl, SqT.of en, at0, rfl, _, rfl, iteF' (by cases o <;> decide +kernel) (iteF (idle rfl))⟩
        | @name an x en =>
          refine ⟨_, rfl, _, _, _, _, rfl, rfl, SqT.of et, rfl, _, _, _, _, rfl, rfl, SqT.of en, at0, rfl, _, rfl, iteT' (by decide +kernel) ?_⟩
          refine ⟨_, rfl, salt, 1093, 4, rfl, by decide, by decide, _, _, rfl, rfl, _, rfl, ?_⟩
          refine ite2 (fun c => ?_) (fun c => ?_)
          · have c1 : drw salt 1093 4 > 0 := of_decide_eq_true c
            have een : endF salt (.less (.name x) s2) = .set x (.op .add (.name x) (.num 1)) .nil := if_pos c1
            refine ⟨_, rfl, .inl ⟨rfl, _, SqL.of hp⟩, _, rfl, _, _, _, _, rfl, rfl, SqT.of et, rfl, _, _, _, _, rfl, rfl, SqT.of en, rfl, _, rfl, _, _, _, _, rfl, rfl, SqT.of et, rfl, two, fun q1 hq1 => ⟨three, fun q2 hq2 => ⟨three, fun q3 hq3 => ?_⟩⟩⟩
            have S3 := same_new hq1 (.tup [.str "num", .int 1])
            have S4 := same_new hq2 (.tup [.str "add", .ref an, .ref q1])
            have S5 := same_new hq3 (.tup [.str "set", .str x, .ref q2])
            have S35 := S3.trans (S4.trans S5)
            have hw : IsBk (upd (upd (upd H2 q1 (.tup [.str "num", .int 1])) q2 (.tup [.str "add", .ref an, .ref q1])) q3 (.tup [.str "set", .str x, .ref q2])) (GM lb lh ls vbs' fun a => a = p) [.ref q3] (.set x (.op .add (.name x) (.num 1)) .nil) :=
              .set upd_same (.op (o := .add) (S5 _ _ upd_same) (.name (S35 _ _ en)) (.num ((S4.trans S5) _ _ upd_same))) .nil
            have hG5 := hG'.grow S35
            have hp5 := S35 _ _ hp
            have hb5 := hb.mono (M' := GM lb lh ls vbs' fun a => a = p) (.of S35) S35.tup fun _ _ z => z
            have ht5 : IsTest (upd (upd (upd H2 q1 (.tup [.str "num", .int 1])) q2 (.tup [.str "add", .ref an, .ref q1])) q3 (.tup [.str "set", .str x, .ref q2])) (.ref at1) (.less (.name x) s2) := .less (S35 _ _ et) (.name (S35 _ _ en)) (h2.mono S35.tup)
            generalize upd (upd (upd H2 q1 (.tup [.str "num", .int 1])) q2 (.tup [.str "add", .ref an, .ref q1])) q3 (.tup [.str "set", .str x, .ref q2]) = H5 at hw hG5 hp5 hb5 ht5
            refine ⟨_, _, _, rfl, rfl, hp5, by rw [sizeLine_eq]; omega, ?_⟩
            obtain ⟨r1, r2, r3⟩ := hG5.more n1 n2 n3 h0 hnp hp5 hb5 hw
            refine ⟨rfl, r1, ht5.mono (tup_upd hp5 _), _, upd_same, ?_⟩
            rw [een]
            exact r2
          · have c1 : ¬ drw salt 1093 4 > 0 := of_decide_eq_false (Bool.eq_false_iff.mpr c)
            exact idle (if_neg c1)
      | @same at1 u1 u2 s1 s2 et h1 h2 => exact ⟨_, rfl, _, _, _, _, rfl, rfl, SqT.of et, at0, rfl, _, rfl, iteF' (by decide +kernel) (iteF (idle rfl))⟩
      | @not at1 u1 t1 et h1 => exact ⟨_, rfl, _, _, _, _, rfl, rfl, SqT.of et, at0, rfl, _, rfl, iteF' (by decide +kernel) (iteF (idle rfl))⟩
      | @both at1 u1 u2 s1 s2 et h1 h2 => exact ⟨_, rfl, _, _, _, _, rfl, rfl, SqT.of et, at0, rfl, _, rfl, iteF' (by decide +kernel) (iteF (idle rfl))⟩
    · rintro σ' H3 ⟨rfl, hG3, ht3, vs3, hp3, hb3⟩
      obtain ⟨vb2, p1, vs1, rfl, hp1, hl1, hadd⟩ := hG3.close.top
      refine ⟨_, rfl, _, rfl, _, _, _, _, rfl, rfl, SqL.of hG3.eb, atI_last _ _, .inl ⟨rfl, _, SqL.of hp1⟩, _, rfl, _, rfl, three, fun p2 hp2 => ?_⟩
      have S4 : Same H3 (upd H3 p2 (.tup [.str "while", ut, .ref p])) := same_new hp2 _
      refine ⟨_, _, _, rfl, rfl, S4 _ _ hp1, by rw [sizeLine_eq]; omega, ?_⟩
      refine q _ _ _ (hadd _ S4 [.ref p2] (.whil t (b.app (endF salt t)) .nil) ?_)
      exact .whil upd_same (ht3.mono S4.tup) nM (S4 _ _ hp3) (hb3.mono (.of S4) S4.tup fun a _ z => gm_less a z) .nil
end
end W10

set_option Elab.async false
set_option linter.all false
set_option maxRecDepth 100000
set_option maxHeartbeats 4000000
namespace W10
open PySem L2 J
section
variable {P : Program} {w : World} {K : PySem.W.Frag} {mg : Str → Option Value} {base : Heap}
/-! ### _law_grown -/
def spGrown (K : PySem.W.Frag) : Sp := fun vs H Q _ => ∃ (a b c : Addr) (cells : List Int) (ns more : List Str), vs = [.ref a, .ref b, .ref c] ∧ SqL K H a (cells.map V.int) ∧ cells.length ≤ 100 ∧ H b = some (.lst (ns.map V.str)) ∧ ns.length ≤ 9 ∧ H c = some (.lst (more.map V.str)) ∧ more.length ≤ 9 ∧
  ∀ r pn pb vs H', Same H H' → H' r = some (.tup [.ref pn, .ref pb]) → H' pn = some (.lst (ns.map V.str)) → H' pb = some (.lst vs) → IsBk H' noM vs (grownF cells ns more) → Q (.ref r) H'
def PGrown (H : Hp) (a b c lb lh ls : Addr) (more : List Str) (cells : List Int) (gF : Gs) (k : Nat) (σ : St) (H' : Hp) : Prop :=
  ∃ o6 o7 o8 o9 o10 g vbs vhs, σ = [some (.ref a), some (.ref b), some (.ref c), some (.ref lb), some (.ref lh), some (.ref ls), o6, o7, o8, o9, o10] ∧ GRel H H' lb lh ls noM g vbs vhs ∧ g.Ok k ∧ gF = foldF more k (cells.drop k) g
def WGrown (H : Hp) (a b c lb lh ls : Addr) (gF : Gs) (m : Nat) (σ : St) (H' : Hp) : Prop :=
  ∃ o6 o7 o8 o9 o10 g vbs vhs j, σ = [some (.ref a), some (.ref b), some (.ref c), some (.ref lb), some (.ref lh), some (.ref ls), o6, o7, o8, o9, o10] ∧ GRel H H' lb lh ls noM g vbs vhs ∧ g.Ok 100 ∧ closes 400 gF = closes j g ∧ g.wt ≤ j ∧ m = g.wt
theorem ok_law_grown (T : Txt K mg) : FnOk P w K mg base CX0 6 T.f_law_grown T.fd_law_grown ["_law_cells", "_law_names", "_law_more"] (spGrown K) := by
  have G_law_draw := (ok_law_draw (P := P) (w := w) (base := base) T).mono (show 1 ≤ 5 by omega)
  have G_law_sum_of := (ok_law_sum_of (P := P) (w := w) (base := base) T).mono (show 3 ≤ 5 by omega)
  have G_law_head_of := ok_law_head_of (P := P) (w := w) (base := base) T
  have G_law_close := (ok_law_close (P := P) (w := w) (base := base) T).mono (show 2 ≤ 5 by omega)
  refine T.law_grown.F.ok sc_law_grown (fun vs H Q E h => ?_) (fun cdv A outer s H vs Q E hr h => ?_)
  · obtain ⟨a, b, c, cells, ns, more, rfl, _⟩ := h; rfl
  obtain ⟨a, b, c, cells, ns, more, rfl, hC, hcl, hN, hnl, hM, hml, q⟩ := h
  refine ⟨_, (pss_cons (ps_set (i := 3) sc_law_grown.nd rfl (Or.inl rfl) (pe_lst (pa_cons (pe_lst pa_nil) pa_nil)))
    (pss_cons (ps_set (i := 4) sc_law_grown.nd rfl (Or.inl rfl) (pe_lst pa_nil))
    (pss_cons (ps_set (i := 5) sc_law_grown.nd rfl (Or.inl rfl) (pe_callTy call_list_of rfl T.b_list bt_list (pa_cons (pv 1) pa_nil)))
    (pss_cons (ps_for PassesOwn.never rfl (pi_range1 rfl T.b_range (pa_cons (pe_callB call_len_seq rfl T.b_len PySem.boot_len (pa_cons (pv 0) pa_nil)) pa_nil)) (pg_name (i := 6) sc_law_grown.nd rfl (Or.inl rfl)) (pss_cons (ps_set (i := 7) sc_law_grown.nd rfl (Or.inl rfl) (pe_op op_mod (pe_ix ix_list (pv 0) (pv 6) (fun _ _ => rfl)) pe_int))
    (pss_cons (ps_set (i := 8) sc_law_grown.nd rfl (Or.inl rfl) (pe_op op_add (pe_ix ix_list (pv 0) (pv 6) (fun _ _ => rfl)) (pe_op op_mulB pe_int (pv 6))))
    (pss_cons (ps_set (i := 9) sc_law_grown.nd rfl (Or.inl rfl) (pe_op op_cat (pv 5) (pv 2)))
    (pss_one (ps_if (pt_cmpR op_lt (pv 7) pe_int (nomark _)) (pss_cons (ps_expr (pe_bm PySem.F.plainAttrs_list PySem.F.slot_list_append PySem.F.type_list_append mt_append (pv 4) (pa_cons (pe_call G_law_head_of hr rfl T.law_head_of.m T.law_head_of.F.kp T.law_head_of.b .nil pass0 (pa_cons (pv 7) (pa_cons (pv 8) (pa_cons (pv 9) pa_nil)))) pa_nil)))
    (pss_cons (ps_expr (pe_bm PySem.F.plainAttrs_list PySem.F.slot_list_append PySem.F.type_list_append mt_append (pv 3) (pa_cons (pe_lst pa_nil) pa_nil)))
    (pss_one (ps_if (pt_cmpR op_eq (pv 7) pe_int (nomark _)) (pss_one (ps_expr (pe_bm PySem.F.plainAttrs_list PySem.F.slot_list_append PySem.F.type_list_append mt_append (pv 5) (pa_cons (pe_ix ix_tup (pe_ix ix_list (pv 4) (pe_un un_neg pe_int) (fun _ _ => rfl)) pe_int (fun _ _ => rfl)) pa_nil)))) pss_nil)))) (pss_one (ps_ifM (PW.pt (pw_and (pt_cmpR op_lt (pv 7) pe_int (nomark _)) (pw_and1 (pt_cmpR (op_neNil hr.units0) (pv 4) (pe_lst pa_nil) (nomark _))))) (pss_one (ps_expr (pe_call G_law_close hr rfl T.law_close.m T.law_close.F.kp T.law_close.b .nil pass0 (pa_cons (pv 3) (pa_cons (pv 4) (pa_cons (pv 5) (pa_cons (pv 8) pa_nil))))))) (pss_one (ps_ifM (PW.pt (pw_and (pt_cmpR op_lt (pv 7) pe_int (nomark _)) (pw_and1 (pt_cmpR (op_neNil hr.units0) (pv 9) (pe_lst pa_nil) (nomark _))))) (pss_cons (ps_set (i := 10) sc_law_grown.nd rfl (Or.inl rfl) (pe_ix ix_list (pv 9) (pe_call G_law_draw hr rfl T.law_draw.m T.law_draw.F.kp T.law_draw.b .nil pass0 (pa_cons (pv 8) (pa_cons pe_int (pa_cons (pe_callB call_len_seq rfl T.b_len PySem.boot_len (pa_cons (pv 9) pa_nil)) pa_nil)))) (fun _ _ => rfl)))
    (pss_one (ps_expr (pe_bm PySem.F.plainAttrs_list PySem.F.slot_list_append PySem.F.type_list_append mt_append (pe_ix ix_list (pv 3) (pe_un un_neg pe_int) (fun _ _ => rfl)) (pa_cons (pe_tup (pa_cons pe_str (pa_cons (pv 10) (pa_cons (pe_call G_law_sum_of hr rfl T.law_sum_of.m T.law_sum_of.F.kp T.law_sum_of.b .nil pass0 (pa_cons (pv 8) (pa_cons (pv 9) pa_nil))) pa_nil)))) pa_nil))))) (pss_one (ps_expr (pe_bm PySem.F.plainAttrs_list PySem.F.slot_list_append PySem.F.type_list_append mt_append (pe_ix ix_list (pv 3) (pe_un un_neg pe_int) (fun _ _ => rfl)) (pa_cons (pe_tup (pa_cons pe_str (pa_cons (pe_call G_law_sum_of hr rfl T.law_sum_of.m T.law_sum_of.F.kp T.law_sum_of.b .nil pass0 (pa_cons (pv 8) (pa_cons (pv 9) pa_nil))) pa_nil))) pa_nil))))))))))))))
    (pss_cons (ps_while PassesOwn.never (pt_cmpR (op_neNil hr.units0) (pv 4) (pe_lst pa_nil) (nomark _)) (pss_one (ps_expr (pe_call G_law_close hr rfl T.law_close.m T.law_close.F.kp T.law_close.b .nil pass0 (pa_cons (pv 3) (pa_cons (pv 4) (pa_cons (pv 5) (pa_cons pe_int pa_nil))))))))
    (pss_one (ps_ret (pe_tup (pa_cons (pe_callTy call_list_of rfl T.b_list bt_list (pa_cons (pv 1) pa_nil)) (pa_cons (pe_ix ix_list (pv 3) pe_int (fun _ _ => rfl)) pa_nil)))))))))), ?_⟩
  try dsimp only [kx, kxb]
  have one : (1 : Nat) ≤ sizeLine := by decide
  have two : (2 : Nat) ≤ sizeLine := by decide
  have three : (3 : Nat) ≤ sizeLine := by decide
  refine ⟨Nat.zero_le _, fun p0 hp0 => ⟨one, fun lb hlb => ?_⟩⟩
  refine ⟨Nat.zero_le _, fun lh hlh => ?_⟩
  have S1 := same_new hp0 (.lst [])
  have S2 := same_new hlb (.lst [.ref p0])
  have S3 := same_new hlh (.lst [])
  refine ⟨_, rfl, _, _, rfl, .inl (SqL.of (S3 _ _ (S2 _ _ (S1 _ _ hN)))), fun ls hls => ?_⟩
  have S4 := same_new hls (.lst (ns.map V.str))
  have eb1 : upd (upd H p0 (.lst [])) lb (.lst [.ref p0]) lb = some (.lst [.ref p0]) := upd_same
  have nb : H lb = none := S1.free hlb
  have nh : H lh = none := (S1.trans S2).free hlh
  have nls : H ls = none := (S1.trans (S2.trans S3)).free hls
  have ne1 : lb ≠ lh := fun z => by rw [← z, eb1] at hlh; cases hlh
  have ne2 : lb ≠ ls := fun z => by rw [← z, S3 _ _ eb1] at hls; cases hls
  have ne3 : lh ≠ ls := fun z => by rw [← z, upd_same] at hls; cases hls
  have hp1 : upd H p0 (.lst []) p0 = some (.lst []) := upd_same
  have np1 : p0 ≠ lb := fun z => by rw [← z, hp1] at hlb; cases hlb
  have np2 : p0 ≠ lh := fun z => by rw [← z, S2 _ _ hp1] at hlh; cases hlh
  have np3 : p0 ≠ ls := fun z => by rw [← z, S3 _ _ (S2 _ _ hp1)] at hls; cases hls
  have hG0 : GRel H (upd (upd (upd (upd H p0 (.lst [])) lb (.lst [.ref p0])) lh (.lst [])) ls (.lst (ns.map V.str))) lb lh ls noM ⟨[.nil], [], ns⟩ [.ref p0] [] :=
    ⟨S1.trans (S2.trans (S3.trans S4)), nb, nh, nls, ne1, ne2, ne3, S4 _ _ (S3 _ _ eb1), S4 _ _ upd_same, upd_same, by simp, .cons ⟨p0, [], rfl, np1, np2, np3, hp0, S4 _ _ (S3 _ _ (S2 _ _ hp1)), .nil⟩ .nil, .nil⟩
  generalize upd (upd (upd (upd H p0 (.lst [])) lb (.lst [.ref p0])) lh (.lst [])) ls (.lst (ns.map V.str)) = H4 at hG0
  have hcl' : (cells.map V.int).length = cells.length := List.length_map _
  refine ⟨_, rfl, _, _, rfl, .inl (hG0.S.seq hC), _, rfl, by omega, by rw [hcl']; omega, ?_⟩
  have hcnt : (((cells.map V.int).length : Nat) : Int).toNat = cells.length := by rw [hcl']; omega
  rw [hcnt]
  have ok0 : (⟨[.nil], [], ns⟩ : Gs).Ok 0 := ⟨rfl, by simp [Gs.wt], by simp [Gs.n, Gs.wt, Bk.n], by show ns.length ≤ 9 + 0; omega, by simp [Gs.w]⟩
  refine for_range (PGrown H a b c lb lh ls more cells (foldF more 0 cells ⟨[.nil], [], ns⟩)) ⟨none, none, none, none, none, _, _, _, rfl, hG0, ok0, rfl⟩ ?_ ?_
  · rintro k σ H1 hk ⟨o6, o7, o8, o9, o10, g, vbs, vhs, rfl, hG, hok, hF⟩
    have hat : atI (cells.map V.int) (0 + (k : Int)) = some (.int cells[k]) := by
      rw [Int.zero_add]; exact atI_nat (by rw [List.getElem?_map, List.getElem?_eq_getElem hk]; rfl)
    have hdrop : cells.drop k = cells[k] :: cells.drop (k + 1) := List.drop_eq_getElem_cons hk
    rw [hdrop] at hF
    have hF' : foldF more 0 cells ⟨[.nil], [], ns⟩ = foldF more (k + 1) (cells.drop (k + 1)) (stepF more k cells[k] g) := hF
    have hok' := stepF_ok (more := more) (cell := cells[k]) hok
    have fin : ∀ σ' H' vbs' vhs', (∃ o6 o7 o8 o9 o10, σ' = [some (.ref a), some (.ref b), some (.ref c), some (.ref lb), some (.ref lh), some (.ref ls), o6, o7, o8, o9, o10]) → GRel H H' lb lh ls noM (stepF more k cells[k] g) vbs' vhs' → PGrown H a b c lb lh ls more cells (foldF more 0 cells ⟨[.nil], [], ns⟩) (k + 1) σ' H' := fun σ' H' vbs' vhs' ⟨o6, o7, o8, o9, o10, e⟩ z => ⟨o6, o7, o8, o9, o10, _, _, _, e, z, hok', hF'⟩
    have hbl := plen hG.bs
    have hhl := plen hG.hs
    rw [List.length_reverse] at hbl hhl
    have hlen := hok.len
    have hwt := hok.wt
    have hnn := hok.n
    have hsc := hok.sc
    have hhs : g.hs.length ≤ g.wt := by
      have : ∀ l : List Hd, l.length ≤ (l.map Hd.wt).sum := fun l => by
        induction l with
        | nil => exact Nat.le_refl _
        | cons x l ih =>
          have : 1 ≤ x.wt := by cases x <;> simp [Hd.wt]
          rw [List.map_cons, List.sum_cons, List.length_cons]; omega
      exact this _
    refine ⟨_, rfl, _, rfl, _, _, _, _, rfl, rfl, hG.S.seq hC, hat, _, _, rfl, rfl, (by show (0 : Int) < _; decide), ?_⟩
    refine ⟨_, rfl, _, rfl, _, _, _, _, rfl, rfl, hG.S.seq hC, hat, _, rfl, _, _, rfl, rfl, mul_small rfl, _, _, rfl, rfl, ?_⟩
    have hMl := hG.S _ _ hM
    refine ⟨_, rfl, _, rfl, ls, c, _, _, rfl, rfl, hG.es, hMl, by rw [sizeLine_eq, List.length_map, List.length_map]; omega, fun pn hpn => ?_⟩
    have Sn := same_new hpn (.lst (g.sc.map V.str ++ more.map V.str))
    have en : upd H1 pn (.lst (g.sc.map V.str ++ more.map V.str)) pn = some (.lst ((g.sc ++ more).map V.str)) := by rw [upd_same, List.map_append]
    have hGn := hG.grow Sn
    generalize upd H1 pn (.lst (g.sc.map V.str ++ more.map V.str)) = H2 at en hGn
    have hnearl : (g.sc ++ more).length ≤ 1000 := by rw [List.length_append]; omega
    have esalt : cells[k] + 7919 * (0 + (k : Int)) = cells[k] + 7919 * (k : Int) := by rw [Int.zero_add]
    dsimp only
    rw [esalt]
    have eF : stepF more k cells[k] g = (if cells[k] % 9 < 3 then ⟨.nil :: g.bs, headF (cells[k] % 9) (cells[k] + 7919 * (k : Int)) (g.sc ++ more) :: g.hs, if cells[k] % 9 = 2 then g.sc ++ [jarF (cells[k] + 7919 * (k : Int)) (g.sc ++ more)] else g.sc⟩
      else if cells[k] % 9 < 6 ∧ g.hs ≠ [] then closeF (cells[k] + 7919 * (k : Int)) g
      else if cells[k] % 9 < 8 ∧ g.sc ++ more ≠ [] then addF (.set (((g.sc ++ more)[(drw (cells[k] + 7919 * (k : Int)) 1091 ((g.sc ++ more).length : Int)).toNat]?).getD "") (sumF (cells[k] + 7919 * (k : Int)) (g.sc ++ more)) .nil) g
      else addF (.say (sumF (cells[k] + 7919 * (k : Int)) (g.sc ++ more)) .nil) g) := rfl
    rw [eF] at fin
    clear hok' hF hF' eF
    have w0 : 0 ≤ cells[k] % 9 := by omega
    generalize cells[k] % 9 = way at fin w0
    generalize cells[k] + 7919 * (k : Int) = salt at fin
    refine ⟨_, rfl, _, _, rfl, rfl, _, rfl, ?_⟩
    refine ite2 (fun c1 => ?_) (fun c1 => ?_)
    · have c1' : way < 3 := of_decide_eq_true c1
      rw [if_pos c1'] at fin
      refine ⟨_, rfl, .inl ⟨rfl, _, SqL.of hGn.eh⟩, _, rfl, _, rfl, _, rfl, way, salt, pn, g.sc ++ more, rfl, en, hnearl, fun u H3 S3 hu => ?_⟩
      have hG3 := hGn.grow S3
      refine ⟨_, _, _, rfl, rfl, hG3.eh, by rw [sizeLine_eq]; omega, ?_⟩
      have eb4 : upd H3 lh (.lst (vhs ++ [u])) lb = some (.lst vbs) := by rw [upd_ne hG3.ne1]; exact hG3.eb
      refine ⟨_, rfl, .inl ⟨rfl, _, SqL.of eb4⟩, Nat.zero_le _, fun p2 hp2 => ?_⟩
      have nb2 : lb ≠ p2 := fun z => by rw [← z, eb4] at hp2; cases hp2
      refine ⟨_, _, _, rfl, rfl, (by rw [upd_ne nb2]; exact eb4), by rw [sizeLine_eq]; omega, ?_⟩
      have hG4 := hG3.push (hu _) hp2
      generalize upd (upd (upd H3 lh (.lst (vhs ++ [u]))) p2 (.lst [])) lb (.lst (vbs ++ [.ref p2])) = H4' at hG4
      refine ⟨_, rfl, rfl, _, rfl, ?_⟩
      refine ite2 (fun c2 => ?_) (fun c2 => ?_)
      · have c2' : way = 2 := by injection (of_decide_eq_true c2)
        have eh2 : headF way salt (g.sc ++ more) = .wit (jarF salt (g.sc ++ more)) (sumF salt (g.sc ++ more)) := by
          unfold headF; rw [if_neg (by omega), if_neg (by omega)]
        rw [if_pos c2', eh2] at fin
        rw [eh2] at hG4
        have hsl := hG4.hs
        rw [List.reverse_append] at hsl
        cases hsl with
        | cons h1 _ =>
          cases h1 with
          | @wit aw x us sm ew hsm =>
            refine ⟨_, rfl, .inl ⟨rfl, _, SqL.of hG4.es⟩, _, rfl, _, rfl, _, _, _, _, rfl, rfl, SqL.of hG4.eh, atI_last _ _, _, _, _, _, rfl, rfl, SqT.of ew, rfl, ?_⟩
            refine ⟨_, _, _, rfl, rfl, hG4.es, by rw [sizeLine_eq, List.length_map]; show g.sc.length < _; omega, ?_⟩
            have hS5 := hG4.scope (g.sc ++ [jarF salt (g.sc ++ more)])
            rw [List.map_append] at hS5
            exact fin _ _ _ _ ⟨_, _, _, _, _, rfl⟩ hS5
      · have c2' : ¬ way = 2 := fun z => c2 (decide_eq_true (by rw [z]))
        rw [if_neg c2'] at fin
        exact fin _ _ _ _ ⟨_, _, _, _, _, rfl⟩ hG4
    have c1' : ¬ way < 3 := of_decide_eq_false (Bool.eq_false_iff.mpr c1)
    rw [if_neg c1'] at fin
    refine ⟨fun H' => Same H2 H' ∧ way < 6 ∧ g.hs ≠ [], fun H' => Same H2 H' ∧ ¬ (way < 6 ∧ g.hs ≠ []), ?_, ?_, ?_⟩
    · refine ⟨_, rfl, _, _, rfl, rfl, _, rfl, ?_⟩
      refine ite2 (fun c2 => ?_) (fun c2 => ?_)
      · refine ⟨_, rfl, Nat.zero_le _, fun p hp => ⟨_, _, _, rfl, rfl, SqL.of (same_new hp _ _ _ hGn.eh), SqL.of upd_same, _, rfl, ?_⟩⟩
        have c2' : way < 6 := of_decide_eq_true c2
        by_cases hh : g.hs = []
        · have : vhs = [] := List.length_eq_zero_iff.mp (by rw [hhl, hh]; rfl)
          subst this
          exact iteF' rfl ⟨same_new hp _, fun z => z.2 hh⟩
        · have : vhs.isEmpty = false := by
            cases vhs with
            | nil => exact absurd (List.length_eq_zero_iff.mp (by rw [← hhl]; rfl)) hh
            | cons _ _ => rfl
          exact iteT' (by rw [this]; rfl) ⟨same_new hp _, c2', hh⟩
      · have c2' : ¬ way < 6 := of_decide_eq_false (Bool.eq_false_iff.mpr c2)
        exact iteF ⟨fun _ _ z => z, fun z => c2' z.1⟩
    · rintro H3 ⟨S3, c2, hh⟩
      rw [if_pos ⟨c2, hh⟩] at fin
      refine ⟨_, rfl, _, rfl, _, rfl, _, rfl, lb, lh, ls, salt, H, g, vbs, vhs, k, rfl, hGn.grow S3, hh, hok, by omega, by omega, by omega, fun H' vbs' vhs' z => ?_⟩
      exact fin _ _ _ _ ⟨_, _, _, _, _, rfl⟩ z
    · rintro H3 ⟨S3, c2⟩
      rw [if_neg c2] at fin
      have hG3 := hGn.grow S3
      have en3 := S3 _ _ en
      obtain ⟨bs, hs, sc⟩ := g
      match bs, hlen with
      | b1 :: bs, hlen =>
      obtain ⟨vb2, p1, vs1, evb, hp1, hl1, hadd⟩ := hG3.top
      subst evb
      simp only [Gs.n, List.map_cons, List.sum_cons] at hnn
      refine ⟨fun H' => Same H3 H' ∧ way < 8 ∧ sc ++ more ≠ [], fun H' => Same H3 H' ∧ ¬ (way < 8 ∧ sc ++ more ≠ []), ?_, ?_, ?_⟩
      · refine ⟨_, rfl, _, _, rfl, rfl, _, rfl, ?_⟩
        refine ite2 (fun c2 => ?_) (fun c2 => ?_)
        · refine ⟨_, rfl, Nat.zero_le _, fun p hp => ⟨_, _, _, rfl, rfl, SqL.of (same_new hp _ _ _ en3), SqL.of upd_same, _, rfl, ?_⟩⟩
          have c2' : way < 8 := of_decide_eq_true c2
          cases hh : sc ++ more with
          | nil =>
            exact iteF' rfl ⟨same_new hp _, fun z => z.2 rfl⟩
          | cons _ _ =>
            exact iteT' rfl ⟨same_new hp _, c2', by simp⟩
        · have c2' : ¬ way < 8 := of_decide_eq_false (Bool.eq_false_iff.mpr c2)
          exact iteF ⟨fun _ _ z => z, fun z => c2' z.1⟩
      · rintro H4 ⟨S4, c3, hh⟩
        rw [if_pos ⟨c3, hh⟩] at fin
        have en4 := S4 _ _ en3
        have hlp : (0 : Int) < ((sc ++ more).length : Int) := by
          have : (sc ++ more).length ≠ 0 := fun z => hh (List.length_eq_zero_iff.mp z)
          omega
        have hml2 : ((sc ++ more).map V.str).length = (sc ++ more).length := List.length_map _
        have hlp' : (0 : Int) < (((sc ++ more).map V.str).length : Int) := by rw [hml2]; exact hlp
        refine ⟨_, rfl, _, rfl, _, rfl, _, _, rfl, .inl (SqL.of en4), salt, 1091, _, rfl, by decide, hlp', ?_⟩
        rw [hml2]
        refine ⟨_, _, _, _, rfl, rfl, SqL.of en4, atI_str (drw_lo hlp) (drw_hi hlp), ?_⟩
        refine ⟨_, rfl, _, rfl, _, _, _, _, rfl, rfl, SqL.of (S4 _ _ hG3.eb), atI_last _ _, .inl ⟨rfl, _, SqL.of (S4 _ _ hp1)⟩, _, rfl, _, rfl, _, rfl, salt, pn, sc ++ more, rfl, SqL.of en4, fun u H5 S5 hu => ⟨three, fun p2 hp2 => ?_⟩⟩
        have S6 := same_new hp2 (.tup [.str "set", .str (((sc ++ more)[(drw salt 1091 ((sc ++ more).length : Int)).toNat]?).getD ""), u])
        have S36 := S4.trans (S5.trans S6)
        refine ⟨_, _, _, rfl, rfl, S36 _ _ hp1, by rw [sizeLine_eq]; omega, ?_⟩
        refine fin _ _ _ _ ⟨_, _, _, _, _, rfl⟩ (hadd _ S36 [.ref p2] _ ?_)
        exact .set upd_same (hu.mono S6.tup) .nil
      · rintro H4 ⟨S4, c3⟩
        rw [if_neg c3] at fin
        have en4 := S4 _ _ en3
        refine ⟨_, rfl, _, rfl, _, _, _, _, rfl, rfl, SqL.of (S4 _ _ hG3.eb), atI_last _ _, .inl ⟨rfl, _, SqL.of (S4 _ _ hp1)⟩, _, rfl, _, rfl, salt, pn, sc ++ more, rfl, SqL.of en4, fun u H5 S5 hu => ⟨two, fun p2 hp2 => ?_⟩⟩
        have S6 := same_new hp2 (.tup [.str "say", u])
        have S36 := S4.trans (S5.trans S6)
        refine ⟨_, _, _, rfl, rfl, S36 _ _ hp1, by rw [sizeLine_eq]; omega, ?_⟩
        refine fin _ _ _ _ ⟨_, _, _, _, _, rfl⟩ (hadd _ S36 [.ref p2] _ ?_)
        exact .say upd_same (hu.mono S6.tup) .nil
  · rintro σ H1 ⟨o6, o7, o8, o9, o10, g, vbs, vhs, rfl, hG, hok, hF⟩
    rw [List.drop_length] at hF
    have hF' : foldF more 0 cells ⟨[.nil], [], ns⟩ = g := hF
    have ok100 : g.Ok 100 := ⟨hok.len, by have := hok.wt; omega, by have := hok.n; omega, by have := hok.sc; omega, hok.wl⟩
    have eG : grownF cells ns more = (match (closes 400 g).bs with | b :: _ => b | [] => .nil) := by
      unfold grownF
      rw [hF']
      all_goals rfl
    refine ⟨WGrown H a b c lb lh ls g, ⟨g.wt, o6, o7, o8, o9, o10, g, vbs, vhs, 400, rfl, hG, ok100, rfl, by have := ok100.wt; omega, rfl⟩, ?_⟩
    rintro m σ H2 ⟨o6, o7, o8, o9, o10, g2, vbs2, vhs2, j, rfl, hG2, hok2, hj, hwj, rfl⟩
    have hbl := plen hG2.bs
    have hhl := plen hG2.hs
    rw [List.length_reverse] at hbl hhl
    have hlen := hok2.len
    have hwt := hok2.wt
    have hhs : g2.hs.length ≤ g2.wt := by
      have : ∀ l : List Hd, l.length ≤ (l.map Hd.wt).sum := fun l => by
        induction l with
        | nil => exact Nat.le_refl _
        | cons x l ih =>
          have : 1 ≤ x.wt := by cases x <;> simp [Hd.wt]
          rw [List.map_cons, List.sum_cons, List.length_cons]; omega
      exact this _
    refine ⟨_, rfl, Nat.zero_le _, fun p hp => ⟨_, _, _, rfl, rfl, SqL.of (same_new hp _ _ _ hG2.eh), SqL.of upd_same, _, rfl, ?_⟩⟩
    have hG3 := hG2.grow (same_new hp (.lst []))
    generalize upd H2 p (.lst []) = H3 at hG3
    by_cases hh : g2.hs = []
    · have ev : vhs2 = [] := List.length_eq_zero_iff.mp (by rw [hhl, hh]; rfl)
      subst ev
      refine iteF' rfl ?_
      rw [closes_nil j g2 hh] at hj
      rw [hj] at eG
      obtain ⟨bs, hs, sc⟩ := g2
      match bs, hlen with
      | [b1], hlen =>
        have eG' : grownF cells ns more = b1 := eG
        have hb1 := hG3.bs
        obtain ⟨vb2, v, evb, hv, hr2⟩ := prev hb1
        have ev2 : vb2 = [] := by
          have := plen hr2
          rw [List.length_reverse] at this
          exact List.length_eq_zero_iff.mp (by rw [this]; rfl)
        subst ev2
        subst evb
        obtain ⟨pb, vs, rfl, n1, n2, n3, h0, ep, hb⟩ := hv
        refine ⟨_, rfl, _, _, rfl, .inl (SqL.of (hG3.S _ _ hN)), fun pl hpl => ?_⟩
        have S4 := same_new hpl (.lst (ns.map V.str))
        refine ⟨_, rfl, _, _, _, _, rfl, rfl, SqL.of (S4 _ _ hG3.eb), at0, two, fun r hr' => ?_⟩
        have S5 := same_new hr' (.tup [.ref pl, .ref pb])
        have S45 := S4.trans S5
        refine q r pl pb vs _ (hG3.S.trans S45) upd_same (S5 _ _ upd_same) (S45 _ _ ep) ?_
        rw [eG']
        exact hb.mono (.of S45) S45.tup fun _ _ z => z.elim
      | [], hlen => simp at hlen
      | _ :: _ :: _, hlen => rw [hh] at hlen; simp at hlen
    · have ev : vhs2.isEmpty = false := by
        cases vhs2 with
        | nil => exact absurd (List.length_eq_zero_iff.mp (by rw [← hhl]; rfl)) hh
        | cons _ _ => rfl
      refine iteT' (by rw [ev]; rfl) ?_
      refine ⟨fun σ' H'' => ∃ m', m' < g2.wt ∧ WGrown H a b c lb lh ls g m' σ' H'', fun σ' H'' z => z, ?_⟩
      obtain ⟨okc, wtc⟩ := closeF_ok (salt := 1) hok2 hh
      refine ⟨_, rfl, _, rfl, _, rfl, lb, lh, ls, 1, H, g2, vbs2, vhs2, 100, rfl, hG3, hh, hok2, by omega, by omega, by omega, fun H' vbs' vhs' z => ?_⟩
      match j, hwj, hj with
      | 0, hwj, _ => omega
      | j + 1, hwj, hj =>
        exact ⟨(closeF 1 g2).wt, by omega, o6, o7, o8, o9, o10, closeF 1 g2, vbs', vhs', j, rfl, z, okc, hj, by omega, rfl⟩
end
end W10

set_option Elab.async false
set_option linter.all false
set_option maxRecDepth 100000
set_option maxHeartbeats 4000000
namespace W10
open PySem L2 J
section
variable {P : Program} {w : World} {K : PySem.W.Frag} {mg : Str → Option Value} {base : Heap}
/-! ### _law_names_of -/
def spNames : Sp := fun vs H Q _ => ∃ cell : Int, vs = [.int cell] ∧ ∀ (p : Addr) (ns : List Str) (H' : Hp), Same H H' → H p = none → H' p = some (.lst (ns.map V.str)) → NmOk ns → Q (.ref p) H'
def PNames1 (H : Hp) (cell : Int) (D : Addr) (k : Nat) (σ : St) (H' : Hp) : Prop :=
  ∃ o2 o3 o4 ys, σ = [some (.int cell), some (.ref D), o2, o3, o4, none, none, none] ∧ Same H H' ∧ H' D = some (.lst (List.map V.str ys)) ∧ ys.length = k ∧ ∀ (j : Nat) (x : Str), ys[j]? = some x → x.cps.toList = namA cell j
def PNames2 (H : Hp) (cell size spot : Int) (D : Addr) (n k : Nat) (σ : St) (H' : Hp) : Prop :=
  ∃ o2 o3 o4 ys, σ = [some (.int cell), some (.ref D), o2, o3, o4, some (.int size), some (.int spot), some (.str "abcdefghijklmnopqrstuvwxyz")] ∧ Same H H' ∧ H' D = some (.lst (List.map V.str ys)) ∧ ys.length = n ∧ ∀ (j : Nat) (x : Str), ys[j]? = some x → j < k → x.cps.toList = namB size spot cell j
theorem nk3 {k : Nat} (h : k < 9) : 0 ≤ (0 + (k : Int)) / 4 ∧ (0 + (k : Int)) / 4 ≤ 2 := by omega
theorem nrl {i : Int} (h0 : 0 ≤ i) (h2 : i ≤ 2) : (repS "g" (i * 3)).length ≤ 6 := by
  have h : i = 0 ∨ i = 1 ∨ i = 2 := by omega
  rcases h with h | h | h <;> rw [h] <;> decide +kernel
theorem n8 (c : Int) : c % 8 = 0 ∨ c % 8 = 1 ∨ c % 8 = 2 ∨ c % 8 = 3 ∨ c % 8 = 4 ∨ c % 8 = 5 ∨ c % 8 = 6 ∨ c % 8 = 7 := by omega
theorem ok_law_names_of (T : Txt K mg) : FnOk P w K mg base CX0 1 T.f_law_names_of T.fd_law_names_of ["_law_cell"] spNames := by
  refine T.law_names_of.F.ok sc_law_names_of (fun vs H Q E h => ?_) (fun cdv A outer s H vs Q E hr h => ?_)
  · obtain ⟨cell, rfl, _⟩ := h; rfl
  obtain ⟨cell, rfl, q⟩ := h
  refine ⟨_, (pss_cons (ps_set (i := 1) sc_law_names_of.nd rfl (Or.inl rfl) (pe_lst pa_nil))
    (pss_cons (ps_for PassesOwn.never rfl (pi_range1 rfl T.b_range (pa_cons (pe_ix ix_list (pe_lst (pa_cons pe_int (pa_cons pe_int (pa_cons pe_int (pa_cons pe_int (pa_cons pe_int (pa_cons pe_int (pa_cons pe_int (pa_cons pe_int pa_nil))))))))) (pe_op op_mod (pv 0) pe_int) (fun _ _ => rfl)) pa_nil)) (pg_name (i := 2) sc_law_names_of.nd rfl (Or.inl rfl)) (pss_cons (ps_set (i := 3) sc_law_names_of.nd rfl (Or.inl rfl) (pe_ix ix_str pe_str (pe_op op_mod (pe_op op_add (pe_op op_fdiv (pv 0) pe_int) (pe_op op_mulB (pe_op op_mulB pe_int (pv 2)) (pe_callTy call_int1 rfl T.b_int bt_int (pa_cons (pe_cmpR op_gt (pe_op op_mod (pv 0) pe_int) pe_int (nomark _)) pa_nil)))) pe_int) (fun _ _ => rfl)))
    (pss_cons (ps_set (i := 4) sc_law_names_of.nd rfl (Or.inl rfl) (pe_op op_add_str (pe_ix ix_list (pe_lst (pa_cons pe_str (pa_cons pe_str (pa_cons pe_str (pa_cons pe_str pa_nil))))) (pe_op op_mod (pv 2) pe_int) (fun _ _ => rfl)) (pe_op op_rep_str pe_str (pe_op op_mulB (pe_op op_fdiv (pv 2) pe_int) pe_int))))
    (pss_one (ps_expr (pe_bm PySem.F.plainAttrs_list PySem.F.slot_list_append PySem.F.type_list_append mt_append (pv 1) (pa_cons (pe_op op_add_str (pv 3) (pe_ix ix_list (pe_lst (pa_cons (pv 4) (pa_cons pe_str pa_nil))) (pe_callTy call_int1 rfl T.b_int bt_int (pa_cons (pe_cmpR op_eq (pe_op op_mod (pv 0) pe_int) pe_int (nomark _)) pa_nil)) (fun _ _ => rfl))) pa_nil)))))))
    (pss_consM (ps_if (PW.pt (pw_and (pt_cmpR op_eq (pe_op op_mod (pe_op op_fdiv (pv 0) pe_int) pe_int) pe_int (nomark _)) (pw_and1 (pt_cmpR op_gt (pe_op op_mod (pv 0) pe_int) pe_int (nomark _))))) (pss_cons (ps_set (i := 5) sc_law_names_of.nd rfl (Or.inl rfl) (pe_op op_add pe_int (pe_op op_mod (pe_op op_fdiv (pv 0) pe_int) pe_int)))
    (pss_cons (ps_set (i := 6) sc_law_names_of.nd rfl (Or.inl rfl) (pe_op op_mod (pe_op op_fdiv (pv 0) pe_int) (pv 5)))
    (pss_cons (ps_set (i := 7) sc_law_names_of.nd rfl (Or.inl rfl) pe_str)
    (pss_one (ps_for PassesOwn.never rfl (pi_range1 rfl T.b_range (pa_cons (pe_callB call_len_seq rfl T.b_len PySem.boot_len (pa_cons (pv 1) pa_nil)) pa_nil)) (pg_name (i := 2) sc_law_names_of.nd rfl (Or.inl rfl)) (pss_cons (ps_set (i := 3) sc_law_names_of.nd rfl (Or.inl rfl) (pe_ix ix_str (pv 7) (pe_op op_mod (pe_op op_add (pe_op op_fdiv (pv 0) pe_int) (pe_op op_mulB pe_int (pv 2))) pe_int) (fun _ _ => rfl)))
    (pss_one (ps_asg (pe_op op_add_str (pe_op op_add_str (pe_slice sl_str pe_str po_none (po_some (pv 6))) (pv 3)) (pe_slice sl_str pe_str (po_some (pe_op op_add (pv 6) pe_int)) (po_some (pv 5)))) (pg_sub (pv 1) (pv 2) set_list))))))))) pss_nil)
    (pss_one (ps_ret (pv 1)))))), ?_⟩
  try dsimp only [kx, kxb]
  have two : (2 : Nat) ≤ sizeLine := by decide
  have four : (4 : Nat) ≤ sizeLine := by decide
  have eight : (8 : Nat) ≤ sizeLine := by decide
  refine ⟨Nat.zero_le _, fun D hD => ?_⟩
  have S0 := same_new hD (.lst [])
  have eD : upd H D (.lst []) D = some (.lst (List.map V.str [])) := upd_same
  generalize upd H D (.lst []) = H1 at S0 eD
  have hn : ∃ n : Nat, n ≤ 9 ∧ atI [V.int 0, V.int 1, V.int 2, V.int 3, V.int 4, V.int 5, V.int 6, V.int 9] (cell % 8) = some (.int n) := by
    have h8 : cell % 8 = 0 ∨ cell % 8 = 1 ∨ cell % 8 = 2 ∨ cell % 8 = 3 ∨ cell % 8 = 4 ∨ cell % 8 = 5 ∨ cell % 8 = 6 ∨ cell % 8 = 7 := n8 cell
    rcases h8 with h | h | h | h | h | h | h | h <;> rw [h]
    · exact ⟨0, by decide, rfl⟩
    · exact ⟨1, by decide, rfl⟩
    · exact ⟨2, by decide, rfl⟩
    · exact ⟨3, by decide, rfl⟩
    · exact ⟨4, by decide, rfl⟩
    · exact ⟨5, by decide, rfl⟩
    · exact ⟨6, by decide, rfl⟩
    · exact ⟨9, by decide, rfl⟩
  obtain ⟨n, hn9, hat⟩ := hn
  refine ⟨eight, fun pr hpr => ⟨_, rfl, _, _, rfl, rfl, (by show (0 : Int) < _; decide), _, _, _, _, rfl, rfl, SqL.of upd_same, hat, _, rfl, by omega, by omega, ?_⟩⟩
  have hcnt : ((n : Nat) : Int).toNat = n := rfl
  rw [hcnt]
  have S1 := same_new hpr (.lst [V.int 0, V.int 1, V.int 2, V.int 3, V.int 4, V.int 5, V.int 6, V.int 9])
  refine for_range (PNames1 H cell D) ⟨none, none, none, [], rfl, S0.trans S1, S1 _ _ eD, rfl, fun j x hx => by simp at hx⟩ ?_ ?_
  · rintro k σ H2 hk ⟨o2, o3, o4, ys, rfl, S, hys, hlen, hsm⟩
    have hch := at_lett (cell / 5 + 7 * (0 + (k : Int)) * (if decide (0 < cell % 3) = true then 1 else 0))
    refine ⟨_, rfl, _, _, rfl, rfl, cdiv rfl, _, rfl, _, _, rfl, rfl, mul_small rfl, _, rfl, _, _, rfl, rfl, (by show (0 : Int) < _; decide), _, _, rfl, rfl, .inr ⟨_, rfl, _, _, rfl, rfl, (by split <;> exact mul_smallR rfl), _, _, rfl, rfl, _, _, rfl, rfl, (by show (0 : Int) < _; decide), _, _, _, rfl, rfl, by decide, hch, ?_⟩⟩
    obtain ⟨z, hz, hzat, hzt⟩ := more_tail (show k < 9 by omega)
    have hk3 : 0 ≤ (0 + (k : Int)) / 4 ∧ (0 + (k : Int)) / 4 ≤ 2 := nk3 (by omega)
    have hrl : (repS "g" ((0 + (k : Int)) / 4 * 3)).length ≤ 6 := nrl hk3.1 hk3.2
    refine ⟨four, fun p1 hp1 => ⟨_, rfl, _, _, rfl, rfl, (by show (0 : Int) < _; decide), _, _, _, _, rfl, rfl, SqL.of upd_same, hzat, _, rfl, _, _, rfl, rfl, cdiv rfl, _, _, rfl, rfl, mul_smallR rfl, _, _, rfl, rfl, ⟨by omega, by omega, by decide⟩, by rw [sizeLine_eq]; omega, _, _, rfl, rfl, by rw [sizeLine_eq]; omega, ?_⟩⟩
    have S2 := same_new hp1 (.lst [V.str "", V.str "g", V.str "gh", V.str "ghijklm"])
    have hys2 := S2 _ _ hys
    have SS := S.trans S2
    generalize upd H2 p1 (.lst [V.str "", V.str "g", V.str "gh", V.str "ghijklm"]) = H3 at hys2 SS
    have hml : (z ++ repS "g" ((0 + (k : Int)) / 4 * 3)).length ≤ 13 := by rw [Str.length_append]; omega
    generalize z ++ repS "g" ((0 + (k : Int)) / 4 * 3) = mo at hml hzt
    have hw : ∃ y : Str, y.length ≤ 13 ∧ atI [V.str mo, V.str ""] (if decide (V.int (cell % 3) = V.int 2) = true then 1 else 0) = some (.str y) ∧ y.cps.toList = if cell % 3 = 2 then [] else tailA k := by
      by_cases h2 : cell % 3 = 2
      · rw [if_pos (by rw [h2]; decide), if_pos h2]
        exact ⟨_, by decide, rfl, by decide⟩
      · rw [if_neg (by simp [h2]), if_neg h2]
        exact ⟨mo, hml, rfl, hzt⟩
    obtain ⟨y, hy, hyat, hyl⟩ := hw
    refine ⟨_, rfl, .inl ⟨rfl, _, SqL.of hys2⟩, _, rfl, _, rfl, two, fun p2 hp2 => ⟨_, rfl, _, _, rfl, rfl, (by show (0 : Int) < _; decide), rfl, .inr ⟨_, rfl, _, _, _, _, rfl, rfl, SqL.of upd_same, hyat, _, _, rfl, rfl, ?_, ?_⟩⟩⟩
    · rw [sizeLine_eq]; show 1 + y.length ≤ _; omega
    have S3 := same_new hp2 (.lst [V.str mo, V.str ""])
    refine ⟨_, _, _, rfl, rfl, S3 _ _ hys2, by rw [List.length_map, hlen, sizeLine_eq]; omega, ?_⟩
    refine ⟨_, _, _, ys ++ [⟨#[lett (cell / 5 + 7 * (0 + (k : Int)) * (if decide (0 < cell % 3) = true then 1 else 0))]⟩ ++ y], rfl, Same.at (SS.trans S3) (by first | exact hD | exact S0.free hD) _, ?_, ?_, ?_⟩
    · rw [upd_same, List.map_append]; rfl
    · rw [List.length_append, hlen]; rfl
    · intro j x hx
      by_cases hj : j < ys.length
      · rw [List.getElem?_append_left hj] at hx
        exact hsm j x hx
      · rw [List.getElem?_append_right (by omega)] at hx
        have hj0 : j - ys.length = 0 := by
          cases hjj : j - ys.length with
          | zero => rfl
          | succ m => rw [hjj] at hx; simp at hx
        rw [hj0] at hx
        have hjk : j = k := by omega
        subst hjk
        have ex : _ = x := Option.some.inj hx
        rw [← ex, app_list, hyl]
        rfl
  · rintro σ H2 ⟨o2, o3, o4, ys, rfl, S, hys, hlen, hsm⟩
    refine ⟨fun σ' H' => ∃ o2 o3 o4 o5 o6 o7 ys, σ' = [some (.int cell), some (.ref D), o2, o3, o4, o5, o6, o7] ∧ Same H H' ∧ H' D = some (.lst (List.map V.str ys)) ∧ NmOk ys, ?_, ?_⟩
    · refine ⟨_, rfl, _, _, rfl, rfl, cdiv rfl, _, _, rfl, rfl, (by show (0 : Int) < _; decide), rfl, _, rfl, ?_⟩
      have hB : ∃ (o2' o3' o4' o5' o6' o7' : Option V) (ys' : List Str), [some (V.int cell), some (.ref D), o2, o3, o4, none, none, none] = [some (V.int cell), some (.ref D), o2', o3', o4', o5', o6', o7'] ∧ Same H H2 ∧ H2 D = some (.lst (List.map V.str ys')) ∧ NmOk ys' := ⟨_, _, _, _, _, _, ys, rfl, S, hys, namA_ok (by omega) hsm⟩
      · refine ite2 (fun c => ?_) (fun c => iteF hB)
        refine ⟨_, rfl, _, _, rfl, rfl, (by show (0 : Int) < _; decide), _, _, rfl, rfl, _, rfl, ?_⟩
        refine ite2 (fun c => ?_) (fun c => hB)
        clear hB
        have hpos : (0 : Int) < 1 + cell / 480 % 6 := by omega
        have hspot6 : 1 + cell / 480 % 6 ≤ 6 := by omega
        have hspot : 0 ≤ cell / 2880 % (1 + cell / 480 % 6) ∧ cell / 2880 % (1 + cell / 480 % 6) < 1 + cell / 480 % 6 := ⟨Int.emod_nonneg _ (by omega), Int.emod_lt_of_pos _ hpos⟩
        refine ⟨_, rfl, _, _, rfl, rfl, cdiv rfl, _, _, rfl, rfl, (by show (0 : Int) < _; decide), _, _, rfl, rfl, ?_⟩
        refine ⟨_, rfl, _, _, rfl, rfl, cdiv rfl, _, rfl, _, _, rfl, rfl, hpos, ?_⟩
        refine ⟨_, rfl, _, _, rfl, .inl (SqL.of hys), _, rfl, by omega, by rw [List.length_map]; omega, ?_⟩
        have hcnt2 : (((List.map V.str ys).length : Nat) : Int).toNat = n := by rw [List.length_map, hlen]; rfl
        rw [hcnt2]
        refine for_range (PNames2 H cell (1 + cell / 480 % 6) (cell / 2880 % (1 + cell / 480 % 6)) D n) ⟨_, _, _, ys, rfl, S, hys, hlen, fun j x _ hj => by omega⟩ ?_ ?_
        · rintro k σ H3 hk ⟨o2, o3, o4, ys, rfl, S, hys, hlen, hsm⟩
          have hch := at_lett (cell / 5 + 7 * (0 + (k : Int)))
          refine ⟨_, rfl, _, rfl, _, _, rfl, rfl, cdiv rfl, _, rfl, _, _, rfl, rfl, mul_small rfl, _, _, rfl, rfl, _, _, rfl, rfl, (by show (0 : Int) < _; decide), _, _, _, rfl, rfl, by decide, hch, ?_⟩
          refine ⟨_, rfl, _, rfl, _, rfl, by decide, _, rfl, _, _, rfl, rfl, ?_, ?_⟩
          · exact Nat.le_trans (Nat.add_le_add_right (Txt.slice_le _ _ _) _) (by show (PySem.Str.ofString "ghijkl").length + 1 ≤ sizeLine; decide)
          refine ⟨_, rfl, _, _, rfl, rfl, _, rfl, _, rfl, _, rfl, _, rfl, by decide, _, _, rfl, rfl, ?_, ?_⟩
          · have l1 := Txt.slice_le "ghijkl" none (some (cell / 2880 % (1 + cell / 480 % 6)))
            have l2 := Txt.slice_le "ghijkl" (some (cell / 2880 % (1 + cell / 480 % 6) + 1)) (some (1 + cell / 480 % 6))
            have l3 : (PySem.Str.ofString "ghijkl").length = 6 := by decide
            have l4 : (⟨#[lett (cell / 5 + 7 * (0 + (k : Int)))]⟩ : Str).length = 1 := rfl
            rw [Str.length_append, sizeLine_eq]
            rw [l3] at l1 l2
            omega
          refine ⟨_, rfl, _, rfl, D, _, _, k, rfl, rfl, hys, ?_, ?_⟩
          · unfold ixN
            rw [List.length_map, hlen]
            simp
            omega
          refine ⟨_, _, _, ys.set k (Txt.slice "ghijkl" none (some (cell / 2880 % (1 + cell / 480 % 6))) ++ ⟨#[lett (cell / 5 + 7 * (0 + (k : Int)))]⟩ ++ Txt.slice "ghijkl" (some (cell / 2880 % (1 + cell / 480 % 6) + 1)) (some (1 + cell / 480 % 6))), rfl, Same.at S hD _, ?_, by rw [List.length_set, hlen], ?_⟩
          · rw [upd_same, List.map_set]
          · intro j x hx hj
            by_cases hjk : j = k
            · subst hjk
              rw [List.getElem?_set_self (by omega)] at hx
              have ex : _ = x := Option.some.inj hx
              rw [← ex, app_list, app_list, sl_to hspot.1 (by omega), sl_fromto (by omega) (by omega) (by omega)]
              rfl
            · rw [List.getElem?_set_ne (by omega)] at hx
              exact hsm j x hx (by omega)
        · rintro σ H3 ⟨o2, o3, o4, ys, rfl, S, hys, hlen, hsm⟩
          exact ⟨_, _, _, _, _, _, ys, rfl, S, hys, namB_ok hspot.1 hspot.2 hspot6 (by omega) fun j x e => hsm j x e (by have := (List.getElem?_eq_some_iff.mp e).1; omega)⟩
    · rintro σ' H' ⟨o2, o3, o4, o5, o6, o7, ys, rfl, S, hys, hok⟩
      exact ⟨_, rfl, q D ys H' S hD hys hok⟩
end
end W10

set_option Elab.async false
set_option linter.all false
set_option maxRecDepth 100000
set_option maxHeartbeats 4000000
namespace W10
open PySem L2 J
section
variable {P : Program} {w : World} {K : PySem.W.Frag} {mg : Str → Option Value} {base : Heap}
/-! ### number_text, part_words -/
def spNumT : Sp := fun vs H Q _ => ∃ i : Int, vs = [.int i] ∧ i.natAbs < 10 ^ 40 ∧ ∀ H', Same H H' → Q (.str (numT i)) H'
theorem ok_number_text (T : Txt K mg) : FnOk P w K mg base CX0 1 T.f_number_text T.fd_number_text ["number"] spNumT := by
  refine T.number_text.F.ok sc_number_text (fun vs H Q E h => ?_) (fun cdv A outer s H vs Q E hr h => ?_)
  · obtain ⟨i, rfl, _⟩ := h; rfl
  obtain ⟨i, rfl, hi, q⟩ := h
  refine ⟨_, (pss_cons (ps_set (i := 1) sc_number_text.nd rfl (Or.inl rfl) (pe_lst pa_nil))
    (pss_cons (ps_set (i := 2) sc_number_text.nd rfl (Or.inl rfl) (pe_callB call_abs rfl T.b_abs bt_abs (pa_cons (pv 0) pa_nil)))
    (pss_cons (ps_while PassesOwn.never (pt_cmpR op_ge (pv 2) (pe_op op_pow pe_int pe_int) (nomark _)) (pss_cons ps_never
    (pss_one ps_never)))
    (pss_cons (ps_expr (pe_bm PySem.F.plainAttrs_list PySem.F.slot_list_append PySem.F.type_list_append mt_append (pv 1) (pa_cons (pe_callTy call_str_int rfl T.b_str bt_str (pa_cons (pv 2) pa_nil)) pa_nil)))
    (pss_cons (ps_set (i := 3) sc_number_text.nd rfl (Or.inl rfl) (pe_ifExp (pt_cmpR op_lt (pv 0) pe_int (nomark _)) pe_str pe_str))
    (pss_one (ps_ret (pe_op op_add_str (pv 3) (pe_joinRev rfl rfl T.b_reversed bt_reversed (pv 1)))))))))), ?_⟩
  try dsimp only [kx, kxb]
  refine ⟨Nat.zero_le _, fun D hD => ?_⟩
  have S1 := same_new hD (.lst [])
  have eD : upd H D (.lst []) D = some (.lst []) := upd_same
  generalize upd H D (.lst []) = H1 at S1 eD
  refine ⟨_, rfl, i, rfl, ?_⟩
  have hr1 : (if i < 0 then -i else i) < 10 ^ 40 ∧ 0 ≤ (if i < 0 then -i else i) := by split <;> omega
  have hlen := numT_len (i := (if i < 0 then -i else i)) (by omega)
  have hsign : (if i < 0 then Str.ofString "-" else Str.ofString "") ++ numT (if i < 0 then -i else i) = numT i := by
    by_cases h0 : i < 0
    · rw [if_pos h0, if_pos h0]
      obtain ⟨n, rfl⟩ : ∃ n : Nat, i = -((n : Int) + 1) := ⟨(-i - 1).toNat, by omega⟩
      rw [numT_neg]
      congr 2
    · rw [if_neg h0, if_neg h0]
      exact Str.empty_append _
  generalize (if i < 0 then -i else i) = r at hr1 hlen hsign
  have hge : ¬ (10 : Int) ^ 64 ≤ r := by
    have : (10 : Int) ^ 40 ≤ 10 ^ 64 := by decide
    omega
  refine ⟨fun m σ' H' => σ' = [some (.int i), some (.ref D), some (.int r), none] ∧ H' = H1, ⟨0, rfl, rfl⟩, ?_⟩
  rintro m σ' H' ⟨rfl, rfl⟩
  refine ⟨_, rfl, _, _, rfl, rfl, ⟨by decide, by decide, by decide⟩, _, _, rfl, rfl, _, rfl, iteF' (decide_eq_false hge) ?_⟩
  have hlog : r.natAbs.log2 < 1920 := by
    by_cases hz : r.natAbs = 0
    · rw [hz]; decide
    · exact (Nat.log2_lt hz).mpr (Nat.lt_of_lt_of_le (m := 10 ^ 40) (by omega) (by decide))
  refine ⟨_, rfl, .inl ⟨rfl, _, SqL.of eD⟩, _, rfl, r, rfl, hlog, ?_⟩
  refine ⟨D, [], .str (numT r), rfl, rfl, eD, by decide, ?_⟩
  have eD2 : upd H' D (.lst ([] ++ [V.str (numT r)])) D = some (.lst (List.map V.str [numT r])) := upd_same
  have S2 : Same H (upd H' D (.lst ([] ++ [V.str (numT r)]))) := Same.at S1 hD _
  generalize upd H' D (.lst ([] ++ [V.str (numT r)])) = H2 at eD2 S2
  have ej : Txt.join (Str.ofString "") [numT r].reverse = numT r := by
    unfold Txt.join
    rw [StrLaws.glued_eq_join]
    rfl
  have hj : JoinOk (Str.ofString "") [numT r].reverse = true := PyProof.Rows.joinOk_of (by
    have e0 : (Str.ofString "").length = 0 := by decide
    rw [e0]
    show (numT r).length + 0 + 1 * 0 ≤ _
    omega)
  refine ⟨_, rfl, _, _, rfl, rfl, _, rfl, ?_⟩
  refine ite2 (fun c => ?_) (fun c => ?_)
  · have c1 : i < 0 := of_decide_eq_true c
    rw [if_pos c1] at hsign
    have e1 : (Str.ofString "-").length = 1 := by decide
    refine ⟨_, rfl, _, rfl, D, [numT r], rfl, eD2, hj, _, _, rfl, rfl, ?_, ?_⟩
    · rw [ej, sizeLine_eq, e1]; omega
    · rw [ej, hsign]; exact q _ S2
  · have c1 : ¬ i < 0 := of_decide_eq_false (Bool.eq_false_iff.mpr c)
    rw [if_neg c1] at hsign
    have e1 : (Str.ofString "").length = 0 := by decide
    refine ⟨_, rfl, _, rfl, D, [numT r], rfl, eD2, hj, _, _, rfl, rfl, ?_, ?_⟩
    · rw [ej, sizeLine_eq, e1]; omega
    · rw [ej, hsign]; exact q _ S2
def spWords (K : PySem.W.Frag) (n : Nat) : Sp := fun vs H Q _ => ∃ (u : V) (th : Th), vs = [u] ∧ IsTh H u th ∧ th.dp ≤ n ∧ th.tx ∧ th.words.length ≤ 100000 ∧
  ∀ p H', Same H H' → H p = none → H' p = some (.lst (th.words.map V.str)) → Q (.ref p) H'
def PWords (H : Hp) (u : V) (D : Addr) (wd : Str) (ths : List Th) (k : Nat) (σ : St) (H' : Hp) : Prop :=
  ∃ o, σ = [some u, some (.ref D), o] ∧ Same H H' ∧ H' D = some (.lst ((wd :: (ths.take k).flatMap Th.words).map V.str))
theorem ok_part_words (T : Txt K mg) : ∀ n : Nat, FnOk P w K mg base CX0 (n + 2) T.f_part_words T.fd_part_words ["part"] (spWords K n)
  | 0 => by
    have no : ∀ vs H Q E, ¬ spWords K 0 vs H Q E := fun vs H Q E h => by
      obtain ⟨u, s, _, _, h1, _⟩ := h
      cases s with
      | s s => cases s <;> simp [Th.dp, Sm.dp] at h1
      | t t => cases t <;> simp [Th.dp, Ts.dp] at h1
    exact ⟨fun vs H Q E h => absurd h (no vs H Q E), fun A outer s H args us vs Q E _ _ _ _ h => absurd h (no vs H Q E)⟩
  | n + 1 => by
    have G_part_words := ok_part_words T n
    have G_number_text := (ok_number_text (P := P) (w := w) (base := base) T).mono (show 1 ≤ n + 2 by omega)
    refine T.part_words.F.ok sc_part_words (fun vs H Q E h => ?_) (fun cdv A outer s H vs Q E hr h => ?_)
    · obtain ⟨u, s, rfl, _⟩ := h; rfl
    obtain ⟨u, th, rfl, hu, hd, htx, hwl, q⟩ := h
    have one : (1 : Nat) ≤ sizeLine := by decide
    refine ⟨_, (pss_cons (ps_if (pt_cmpR op_eq (pe_ix ix_tup (pv 0) pe_int (fun _ _ => rfl)) pe_str (nomark _)) (pss_one (ps_ret (pe_lst (pa_cons (pe_call G_number_text hr rfl T.number_text.m T.number_text.F.kp T.number_text.b .nil pass0 (pa_cons (pe_ix ix_tup (pv 0) pe_int (fun _ _ => rfl)) pa_nil)) pa_nil)))) pss_nil)
    (pss_cons (ps_if (pt_cmpR op_eq (pe_ix ix_tup (pv 0) pe_int (fun _ _ => rfl)) pe_str (nomark _)) (pss_one (ps_ret (pe_lst (pa_cons (pe_ix ix_tup (pv 0) pe_int (fun _ _ => rfl)) pa_nil)))) pss_nil)
    (pss_cons (ps_set (i := 1) sc_part_words.nd rfl (Or.inl rfl) (pe_lst (pa_cons (pe_ix ix_tup (pv 0) pe_int (fun _ _ => rfl)) pa_nil)))
    (pss_cons (ps_for PassesOwn.never rfl (pi_tup (pe_slice sl_tup (pv 0) (po_some pe_int) po_none)) (pg_name (i := 2) sc_part_words.nd rfl (Or.inl rfl)) (pss_one (ps_expr (pe_bm PySem.F.plainAttrs_list PySem.F.slot_list_extend PySem.F.type_list_extend mt_extendP (pv 1) (pa_cons (pe_call G_part_words hr rfl T.part_words.m T.part_words.F.kp T.part_words.b .nil pass0 (pa_cons (pv 2) pa_nil)) pa_nil)))))
    (pss_one (ps_ret (pv 1))))))), ?_⟩
    try dsimp only [kx, kxb]
    rcases parts_of hu hd with ⟨c, i, rfl, e, rfl⟩ | ⟨c, x, rfl, e, rfl⟩ | ⟨c, wd, us, ths, rfl, e, hP, no1, no2, few, hdp, kids⟩
    · refine ⟨_, rfl, _, _, _, _, rfl, rfl, SqT.of e, rfl, rfl, _, rfl, iteT' (by decide +kernel) ?_⟩
      refine ⟨_, rfl, _, _, _, _, rfl, rfl, SqT.of e, rfl, i, rfl, htx, fun H1 S1 => ⟨one, fun p hp => ?_⟩⟩
      exact q p _ (S1.trans (same_new hp _)) (S1.free hp) upd_same
    · refine ⟨_, rfl, _, _, _, _, rfl, rfl, SqT.of e, rfl, rfl, _, rfl, iteF' (by decide +kernel) ?_⟩
      refine ⟨_, rfl, _, _, _, _, rfl, rfl, SqT.of e, rfl, rfl, _, rfl, iteT' (by decide +kernel) ?_⟩
      refine ⟨_, rfl, _, _, _, _, rfl, rfl, SqT.of e, rfl, one, fun p hp => ?_⟩
      exact q p _ (same_new hp _) hp upd_same
    · have ew := kids.words
      have hktx := kids.tx htx
      refine ⟨_, rfl, _, _, _, _, rfl, rfl, SqT.of e, at0, rfl, _, rfl, iteF' no1 ?_⟩
      refine ⟨_, rfl, _, _, _, _, rfl, rfl, SqT.of e, at0, rfl, _, rfl, iteF' no2 ?_⟩
      refine ⟨_, rfl, _, _, _, _, rfl, rfl, SqT.of e, at0, one, fun D hD => ?_⟩
      have S1 := same_new hD (.lst [V.str wd])
      have eD : upd H D (.lst [V.str wd]) D = some (.lst [V.str wd]) := upd_same
      generalize upd H D (.lst [V.str wd]) = H1 at S1 eD
      refine ⟨_, rfl, _, rfl, _, _, rfl, SqT.of (S1 _ _ e), (by rw [List.length_cons]; exact not_whole _), fun p hpn => ?_⟩
      have S2 : Same H1 (upd H1 p (.tup (cutV (.str wd :: us) (some 1) none))) := same_new hpn _
      have e2 : upd H1 p (.tup (cutV (.str wd :: us) (some 1) none)) p = some (.tup us) := by rw [upd_same, cutV_tail]
      have eD2 := S2 _ _ eD
      have S12 := S1.trans S2
      generalize upd H1 p (.tup (cutV (.str wd :: us) (some 1) none)) = H2 at S2 e2 eD2 S12
      have np : p ≠ D := fun z => by rw [z, eD2] at e2; cases e2
      refine ⟨_, rfl, ⟨_, SqT.of e2⟩, ?_⟩
      refine for_tup (K := K) (xs := us) (fun k σ H' => PWords H (.ref c) D wd ths k σ H' ∧ H' p = some (.tup us)) ⟨⟨none, rfl, S12, eD2⟩, e2⟩ (fun i σ H' _ z => SqT.of z.2) ?_ ?_
      · rintro i x σ H' hx ⟨⟨o, rfl, S, hD'⟩, hp'⟩
        obtain ⟨t, ht, hxt⟩ := pget hP hx
        have htm : t ∈ ths := List.mem_of_getElem? ht
        have hxt' := hxt.mono S.tup
        have et : (ths.take (i + 1)).flatMap Th.words = (ths.take i).flatMap Th.words ++ t.words := by
          rw [List.take_add_one, ht]
          simp
        have hle : ((ths.take (i + 1)).flatMap Th.words).length ≤ (ths.flatMap Th.words).length := by
          conv => rhs; rw [← List.take_append_drop (i + 1) ths]
          rw [List.flatMap_append, List.length_append]
          omega
        rw [ew, List.length_cons] at hwl
        rw [et, List.length_append] at hle
        refine ⟨_, rfl, .inl ⟨rfl, _, SqL.of hD'⟩, _, rfl, x, t, rfl, hxt', hdp t htm, hktx t htm, by omega, fun p2 H3 S3 f3 e3 => ?_⟩
        refine ⟨D, p2, _, _, rfl, rfl, S3 _ _ hD', .inl e3, by rw [List.length_map, List.length_map, List.length_cons, sizeLine_eq]; omega, ?_⟩
        refine ⟨⟨_, rfl, Same.at (S.trans S3) hD _, ?_⟩, by rw [upd_ne np]; exact S3 _ _ hp'⟩
        rw [upd_same, et, ← List.map_append]
        rfl
      · rintro σ H' ⟨⟨o, rfl, S, hD'⟩, hp'⟩
        have hul := plen hP
        have et : ths.take us.length = ths := List.take_of_length_le (by omega)
        rw [et, ← ew] at hD'
        exact ⟨_, rfl, q D _ S hD hD'⟩
end
end W10

set_option Elab.async false
set_option linter.all false
set_option maxRecDepth 100000
set_option maxHeartbeats 4000000
namespace W10
open PySem L2 J
section
variable {P : Program} {w : World} {K : PySem.W.Frag} {mg : Str → Option Value} {base : Heap}
/-! ### head_words, block_rows, shown -/
def spHeadW : Sp := fun vs H Q _ => ∃ (c : Addr) (ws : List Str), vs = [.ref c] ∧ HdW H c ws ∧ ∀ p H', Same H H' → H' p = some (.lst (ws.map V.str)) → Q (.ref p) H'
theorem ok_head_words (T : Txt K mg) : FnOk P w K mg base CX0 23 T.f_head_words T.fd_head_words ["order"] spHeadW := by
  have G_part_words := ok_part_words (P := P) (w := w) (base := base) T 20
  refine T.head_words.F.ok sc_head_words (fun vs H Q E h => ?_) (fun cdv A outer s H vs Q E hr h => ?_)
  · obtain ⟨c, ws, rfl, _⟩ := h; rfl
  obtain ⟨c, ws, rfl, hw, q⟩ := h
  refine ⟨_, (pss_cons (ps_if (pt_cmpR op_in_seq (pe_ix ix_tup (pv 0) pe_int (fun _ _ => rfl)) (pe_tup (pa_cons pe_str (pa_cons pe_str pa_nil))) (by with_unfolding_all rfl)) (pss_one (ps_ret (pe_op op_cat (pe_lst (pa_cons (pe_ix ix_tup (pv 0) pe_int (fun _ _ => rfl)) (pa_cons (pe_ix ix_tup (pv 0) pe_int (fun _ _ => rfl)) pa_nil))) (pe_call G_part_words hr rfl T.part_words.m T.part_words.F.kp T.part_words.b .nil pass0 (pa_cons (pe_ix ix_tup (pv 0) pe_int (fun _ _ => rfl)) pa_nil))))) pss_nil)
    (pss_one (ps_ret (pe_op op_cat (pe_lst (pa_cons (pe_ix ix_tup (pv 0) pe_int (fun _ _ => rfl)) pa_nil)) (pe_call G_part_words hr rfl T.part_words.m T.part_words.F.kp T.part_words.b .nil pass0 (pa_cons (pe_ix ix_tup (pv 0) pe_int (fun _ _ => rfl)) pa_nil)))))), ?_⟩
  try dsimp only [kx, kxb]
  have one : (1 : Nat) ≤ sizeLine := by decide
  have two : (2 : Nat) ≤ sizeLine := by decide
  cases hw with
  | @two wd x u s rest e hin hs hf =>
    refine ⟨_, rfl, _, _, _, _, rfl, rfl, SqT.of e, at0, two, fun p hp => ?_⟩
    have S1 := same_new hp (.tup [V.str "set", V.str "with"])
    refine ⟨_, _, rfl, .inr (SqT.of upd_same), rfl, by decide +kernel, _, rfl, iteT' hin ?_⟩
    have e1 := S1 _ _ e
    have hs1 := hs.mono S1.tup
    generalize upd H p (.tup [V.str "set", V.str "with"]) = H1 at S1 e1 hs1
    refine ⟨_, rfl, _, _, _, _, rfl, rfl, SqT.of e1, at0, _, rfl, _, _, _, _, rfl, rfl, SqT.of e1, atI_nat (j := 1) rfl, two, fun p2 hp2 => ?_⟩
    have S2 := same_new hp2 (.lst [V.str wd, V.str x])
    have e2 : upd H1 p2 (.lst [V.str wd, V.str x]) p2 = some (.lst [V.str wd, V.str x]) := upd_same
    generalize upd H1 p2 (.lst [V.str wd, V.str x]) = H2 at S2 e2
    obtain ⟨f1, f2, f3⟩ := hf
    have f3l := f3.1
    refine ⟨_, rfl, _, _, _, _, rfl, rfl, SqT.of (S2 _ _ e1), atI_nat (j := 2) rfl, ?_⟩
    refine ⟨u, .s s, rfl, (hs1.mono S2.tup : IsSum H2 u s), f2, f1, by omega, fun p3 H3 S3 g3 e3 => ?_⟩
    refine ⟨p2, p3, _, _, rfl, rfl, S3 _ _ e2, e3, by rw [sizeLine_eq, List.length_map]; show 2 + _ ≤ _; omega, fun p4 hp4 => ?_⟩
    exact q p4 _ (S1.trans (S2.trans (S3.trans (same_new hp4 _)))) upd_same
  | @one wd u t rest e hin ht hf =>
    refine ⟨_, rfl, _, _, _, _, rfl, rfl, SqT.of e, at0, two, fun p hp => ?_⟩
    have S1 := same_new hp (.tup [V.str "set", V.str "with"])
    refine ⟨_, _, rfl, .inr (SqT.of upd_same), rfl, by decide +kernel, _, rfl, iteF' hin ?_⟩
    have e1 := S1 _ _ e
    have ht1 := ht.mono S1.tup
    generalize upd H p (.tup [V.str "set", V.str "with"]) = H1 at S1 e1 ht1
    refine ⟨_, rfl, _, _, _, _, rfl, rfl, SqT.of e1, at0, one, fun p2 hp2 => ?_⟩
    have S2 := same_new hp2 (.lst [V.str wd])
    have e2 : upd H1 p2 (.lst [V.str wd]) p2 = some (.lst [V.str wd]) := upd_same
    generalize upd H1 p2 (.lst [V.str wd]) = H2 at S2 e2
    obtain ⟨f1, f2, f3⟩ := hf
    have f3l := f3.1
    refine ⟨_, rfl, _, _, _, _, rfl, rfl, SqT.of (S2 _ _ e1), atI_nat (j := 1) rfl, ?_⟩
    refine ⟨u, t, rfl, ht1.mono S2.tup, f2, f1, by omega, fun p3 H3 S3 g3 e3 => ?_⟩
    refine ⟨p2, p3, _, _, rfl, rfl, S3 _ _ e2, e3, by rw [sizeLine_eq, List.length_map]; show 1 + _ ≤ _; omega, fun p4 hp4 => ?_⟩
    exact q p4 _ (S1.trans (S2.trans (S3.trans (same_new hp4 _)))) upd_same
def spBRows (n : Nat) : Sp := fun vs H Q _ => ∃ (p : Addr) (lead : Str) (ws : List V) (b : Bk), vs = [.ref p, .str lead] ∧ H p = some (.lst ws) ∧ IsBk H noM ws b ∧ b.dp ≤ n ∧ b.fit ∧ lead.length + 2 * n ≤ 10000 ∧ b.n ≤ 10000 ∧
  ∀ r H', Same H H' → H r = none → H' r = some (.lst ((b.rows lead).map V.str)) → Q (.ref r) H'
def PBRows (H : Hp) (p D : Addr) (lead : Str) (ws : List V) (b : Bk) (n i : Nat) (σ : St) (H' : Hp) : Prop :=
  ∃ o3 o4 bi acc, σ = [some (.ref p), some (.str lead), some (.ref D), o3, o4] ∧ Same H H' ∧ IsBk H noM (ws.drop i) bi ∧ bi.dp ≤ n ∧ bi.fit ∧ bi.n ≤ 10000 ∧ H' D = some (.lst (List.map V.str acc)) ∧ b.rows lead = acc ++ bi.rows lead
theorem ok_block_rows (T : Txt K mg) : ∀ n : Nat, FnOk P w K mg base CX0 (n + 24) T.f_block_rows T.fd_block_rows ["block", "lead"] (spBRows n)
  | 0 => by
    have no : ∀ vs H Q E, ¬ spBRows 0 vs H Q E := fun vs H Q E h => by
      obtain ⟨p, lead, ws, b, _, _, _, h1, _⟩ := h
      have := b.dp_pos
      omega
    exact ⟨fun vs H Q E h => absurd h (no vs H Q E), fun A outer s H args us vs Q E _ _ _ _ h => absurd h (no vs H Q E)⟩
  | n + 1 => by
    have G_block_rows := ok_block_rows T n
    have G_head_words := (ok_head_words (P := P) (w := w) (base := base) T).mono (show 23 ≤ n + 24 by omega)
    refine T.block_rows.F.ok sc_block_rows (fun vs H Q E h => ?_) (fun cdv A outer s H vs Q E hr h => ?_)
    · obtain ⟨p, lead, ws, b, rfl, _⟩ := h; rfl
    obtain ⟨p, lead, ws, b, rfl, hp, hB, hd, hf, hll, hbn, q⟩ := h
    refine ⟨_, (pss_cons (ps_set (i := 2) sc_block_rows.nd rfl (Or.inl rfl) (pe_lst pa_nil))
    (pss_cons (ps_for PassesOwn.never rfl (pi_list (pv 0)) (pg_name (i := 3) sc_block_rows.nd rfl (Or.inl rfl)) (pss_cons (ps_set (i := 4) sc_block_rows.nd rfl (Or.inl rfl) (pe_ix ix_tup (pv 3) pe_int (fun _ _ => rfl)))
    (pss_cons (ps_expr (pe_bm PySem.F.plainAttrs_list PySem.F.slot_list_append PySem.F.type_list_append mt_append (pv 2) (pa_cons (pe_op op_add_str (pv 1) (pe_bm PySem.F.plainAttrs_str PySem.F.slot_str_join PySem.F.type_str_join mt_join pe_str (pa_cons (pe_call G_head_words hr rfl T.head_words.m T.head_words.F.kp T.head_words.b .nil pass0 (pa_cons (pv 3) pa_nil)) pa_nil))) pa_nil)))
    (pss_consM (ps_if (pt_cmpR op_eq (pv 4) pe_str (nomark _)) (pss_cons (ps_expr (pe_bm PySem.F.plainAttrs_list PySem.F.slot_list_extend PySem.F.type_list_extend mt_extendP (pv 2) (pa_cons (pe_call G_block_rows hr rfl T.block_rows.m T.block_rows.F.kp T.block_rows.b .nil pass0 (pa_cons (pe_ix ix_tup (pv 3) pe_int (fun _ _ => rfl)) (pa_cons (pe_op op_add_str (pv 1) pe_str) pa_nil))) pa_nil)))
    (pss_cons (ps_expr (pe_bm PySem.F.plainAttrs_list PySem.F.slot_list_append PySem.F.type_list_append mt_append (pv 2) (pa_cons (pe_op op_add_str (pv 1) pe_str) pa_nil)))
    (pss_one (ps_expr (pe_bm PySem.F.plainAttrs_list PySem.F.slot_list_extend PySem.F.type_list_extend mt_extendP (pv 2) (pa_cons (pe_call G_block_rows hr rfl T.block_rows.m T.block_rows.F.kp T.block_rows.b .nil pass0 (pa_cons (pe_ix ix_tup (pv 3) pe_int (fun _ _ => rfl)) (pa_cons (pe_op op_add_str (pv 1) pe_str) pa_nil))) pa_nil)))))) (pss_one (ps_if (pt_cmpR op_eq (pv 4) pe_str (nomark _)) (pss_one (ps_expr (pe_bm PySem.F.plainAttrs_list PySem.F.slot_list_extend PySem.F.type_list_extend mt_extendP (pv 2) (pa_cons (pe_call G_block_rows hr rfl T.block_rows.m T.block_rows.F.kp T.block_rows.b .nil pass0 (pa_cons (pe_ix ix_tup (pv 3) pe_int (fun _ _ => rfl)) (pa_cons (pe_op op_add_str (pv 1) pe_str) pa_nil))) pa_nil)))) (pss_one (ps_if (pt_cmpR op_eq (pv 4) pe_str (nomark _)) (pss_one (ps_expr (pe_bm PySem.F.plainAttrs_list PySem.F.slot_list_extend PySem.F.type_list_extend mt_extendP (pv 2) (pa_cons (pe_call G_block_rows hr rfl T.block_rows.m T.block_rows.F.kp T.block_rows.b .nil pass0 (pa_cons (pe_ix ix_tup (pv 3) pe_int (fun _ _ => rfl)) (pa_cons (pe_op op_add_str (pv 1) pe_str) pa_nil))) pa_nil)))) pss_nil)))))
    (pss_one (ps_if (pt_cmpR op_in_seq (pv 4) (pe_tup (pa_cons pe_str (pa_cons pe_str (pa_cons pe_str pa_nil)))) (by with_unfolding_all rfl)) (pss_one (ps_expr (pe_bm PySem.F.plainAttrs_list PySem.F.slot_list_append PySem.F.type_list_append mt_append (pv 2) (pa_cons (pe_op op_add_str (pv 1) pe_str) pa_nil)))) pss_nil))))))
    (pss_one (ps_ret (pv 2))))), ?_⟩
    try dsimp only [kx, kxb]
    have three : (3 : Nat) ≤ sizeLine := by decide
    have hrl := b.rows_len lead
    refine ⟨Nat.zero_le _, fun D hD => ?_⟩
    have S0 := same_new hD (.lst [])
    have eD : upd H D (.lst []) D = some (.lst (List.map V.str [])) := upd_same
    generalize upd H D (.lst []) = H1 at S0 eD
    refine ⟨_, rfl, p, rfl, ⟨_, SqL.of (S0 _ _ hp)⟩, ?_⟩
    refine for_list (xs := ws) (PBRows H p D lead ws b (n + 1)) ⟨none, none, b, [], rfl, S0, hB, hd, hf, hbn, eD, rfl⟩ (fun i σ H' _ z => by obtain ⟨_, _, _, _, _, S, _⟩ := z; exact SqL.of (S _ _ hp)) ?_ ?_
    · rintro i x σ H' hx ⟨o3, o4, bi, acc, rfl, S, hBi, hdi, hfi, hni, hD', hacc⟩
      have hil := (List.getElem?_eq_some_iff.mp hx).1
      have hdrop : ws.drop i = x :: ws.drop (i + 1) := by
        have := List.drop_eq_getElem_cons hil
        rw [(List.getElem?_eq_some_iff.mp hx).2] at this
        exact this
      rw [hdrop] at hBi
      have hal : acc.length ≤ (b.rows lead).length := by rw [hacc, List.length_append]; omega
      cases hBi with
      | @set a x u s vs r e hs hr2 =>
        obtain ⟨hxl, hsf, hrf⟩ := hfi
        have hfw : Fits 100 200 ("set" :: x :: s.words) := by
          have := (hsf.2.2.cons (x := x) hxl).cons (x := "set") (by decide)
          exact ⟨Nat.le_trans this.1 (by decide), this.2⟩
        have hwl := hfw.len
        refine ⟨_, rfl, _, _, _, _, rfl, rfl, SqT.of (S _ _ e), at0, ?_⟩
        refine ⟨_, rfl, .inl ⟨rfl, _, SqL.of hD'⟩, _, rfl, rfl, _, rfl, a, "set" :: x :: s.words, rfl, .two (S _ _ e) (by decide +kernel) (hs.mono S.tup) hsf, fun p2 H2 S2 e2' => ?_⟩
        refine ⟨_, _, _, rfl, rfl, SqL.of e2', hfw.join (by decide), _, _, rfl, rfl, by rw [sizeLine_eq]; omega, ?_⟩
        refine ⟨_, _, _, rfl, rfl, S2 _ _ hD', by rw [List.length_map, sizeLine_eq]; omega, ?_⟩
        have S3 : Same H (upd H2 D (.lst (List.map V.str acc ++ [V.str (lead ++ Txt.join " " ("set" :: x :: s.words))]))) := Same.at (S.trans S2) hD _
        have eD3 : upd H2 D (.lst (List.map V.str acc ++ [V.str (lead ++ Txt.join " " ("set" :: x :: s.words))])) D = some (.lst (List.map V.str (acc ++ [rowT lead ("set" :: x :: s.words)]))) := by rw [upd_same, List.map_append]; rfl
        generalize upd H2 D (.lst (List.map V.str acc ++ [V.str (lead ++ Txt.join " " ("set" :: x :: s.words))])) = H3 at S3 eD3
        refine ⟨fun σ' H4 => σ' = [some (.ref p), some (.str lead), some (.ref D), some (.ref a), some (.str "set")] ∧ H4 = H3, ?_, ?_⟩
        · refine ⟨_, rfl, rfl, _, rfl, iteF' (by decide +kernel) ?_⟩
          refine ⟨_, rfl, rfl, _, rfl, iteF' (by decide +kernel) ?_⟩
          exact ⟨_, rfl, rfl, _, rfl, iteF' (by decide +kernel) ⟨rfl, rfl⟩⟩
        · rintro σ' H4 ⟨rfl, rfl⟩
          refine ⟨_, rfl, three, fun p5 hp5 => ?_⟩
          refine ⟨_, _, rfl, .inr (SqT.of upd_same), rfl, by decide +kernel, _, rfl, iteF' (by decide +kernel) ?_⟩
          have S5 := same_new hp5 (.tup [V.str "when", V.str "while", V.str "with"])
          refine ⟨_, _, r, acc ++ [rowT lead ("set" :: x :: s.words)], rfl, S3.trans S5, hr2, hdi, hrf, by have : r.n + 1 ≤ 10000 := hni; omega, S5 _ _ eD3, ?_⟩
          rw [hacc, List.append_assoc]
          rfl
      | @say a u s vs r e hs hr2 =>
        obtain ⟨hsf, hrf⟩ := hfi
        have hfw : Fits 100 200 ("say" :: s.words) := by
          have := hsf.2.2.cons (x := "say") (by decide)
          exact ⟨Nat.le_trans this.1 (by decide), this.2⟩
        have hwl := hfw.len
        refine ⟨_, rfl, _, _, _, _, rfl, rfl, SqT.of (S _ _ e), at0, ?_⟩
        refine ⟨_, rfl, .inl ⟨rfl, _, SqL.of hD'⟩, _, rfl, rfl, _, rfl, a, "say" :: s.words, rfl, .one (t := .s s) (S _ _ e) (by decide +kernel) (hs.mono S.tup : IsSum H' u s) hsf, fun p2 H2 S2 e2' => ?_⟩
        refine ⟨_, _, _, rfl, rfl, SqL.of e2', hfw.join (by decide), _, _, rfl, rfl, by rw [sizeLine_eq]; omega, ?_⟩
        refine ⟨_, _, _, rfl, rfl, S2 _ _ hD', by rw [List.length_map, sizeLine_eq]; omega, ?_⟩
        have S3 : Same H (upd H2 D (.lst (List.map V.str acc ++ [V.str (lead ++ Txt.join " " ("say" :: s.words))]))) := Same.at (S.trans S2) hD _
        have eD3 : upd H2 D (.lst (List.map V.str acc ++ [V.str (lead ++ Txt.join " " ("say" :: s.words))])) D = some (.lst (List.map V.str (acc ++ [rowT lead ("say" :: s.words)]))) := by rw [upd_same, List.map_append]; rfl
        generalize upd H2 D (.lst (List.map V.str acc ++ [V.str (lead ++ Txt.join " " ("say" :: s.words))])) = H3 at S3 eD3
        refine ⟨fun σ' H4 => σ' = [some (.ref p), some (.str lead), some (.ref D), some (.ref a), some (.str "say")] ∧ H4 = H3, ?_, ?_⟩
        · refine ⟨_, rfl, rfl, _, rfl, iteF' (by decide +kernel) ?_⟩
          refine ⟨_, rfl, rfl, _, rfl, iteF' (by decide +kernel) ?_⟩
          exact ⟨_, rfl, rfl, _, rfl, iteF' (by decide +kernel) ⟨rfl, rfl⟩⟩
        · rintro σ' H4 ⟨rfl, rfl⟩
          refine ⟨_, rfl, three, fun p5 hp5 => ?_⟩
          refine ⟨_, _, rfl, .inr (SqT.of upd_same), rfl, by decide +kernel, _, rfl, iteF' (by decide +kernel) ?_⟩
          have S5 := same_new hp5 (.tup [V.str "when", V.str "while", V.str "with"])
          refine ⟨_, _, r, acc ++ [rowT lead ("say" :: s.words)], rfl, S3.trans S5, hr2, hdi, hrf, by have : r.n + 1 ≤ 10000 := hni; omega, S5 _ _ eD3, ?_⟩
          rw [hacc, List.append_assoc]
          rfl
      | @when a p1 q1 u t vb vc vs b1 c1 r e ht n1 e1 h1 n2 e2 h2 hr2 =>
        obtain ⟨htf, hb1f, hc1f, hrf⟩ := hfi
        have hfw : Fits 100 200 ("when" :: t.words) := by
          have := htf.2.2.cons (x := "when") (by decide)
          exact ⟨Nat.le_trans this.1 (by decide), this.2⟩
        have hwl := hfw.len
        refine ⟨_, rfl, _, _, _, _, rfl, rfl, SqT.of (S _ _ e), at0, ?_⟩
        refine ⟨_, rfl, .inl ⟨rfl, _, SqL.of hD'⟩, _, rfl, rfl, _, rfl, a, "when" :: t.words, rfl, .one (t := .t t) (S _ _ e) (by decide +kernel) (ht.mono S.tup : IsTest H' u t) htf, fun p2 H2 S2 e2' => ?_⟩
        refine ⟨_, _, _, rfl, rfl, SqL.of e2', hfw.join (by decide), _, _, rfl, rfl, by rw [sizeLine_eq]; omega, ?_⟩
        refine ⟨_, _, _, rfl, rfl, S2 _ _ hD', by rw [List.length_map, sizeLine_eq]; omega, ?_⟩
        have S3 : Same H (upd H2 D (.lst (List.map V.str acc ++ [V.str (lead ++ Txt.join " " ("when" :: t.words))]))) := Same.at (S.trans S2) hD _
        have eD3 : upd H2 D (.lst (List.map V.str acc ++ [V.str (lead ++ Txt.join " " ("when" :: t.words))])) D = some (.lst (List.map V.str (acc ++ [rowT lead ("when" :: t.words)]))) := by rw [upd_same, List.map_append]; rfl
        generalize upd H2 D (.lst (List.map V.str acc ++ [V.str (lead ++ Txt.join " " ("when" :: t.words))])) = H3 at S3 eD3
        have hlb := b1.rows_len (lead ++ "  ")
        have hlc := c1.rows_len (lead ++ "  ")
        have hnn : b1.n + c1.n + r.n + 1 ≤ 10000 := hni
        have hdd : max (max (b1.dp + 1) (c1.dp + 1)) r.dp ≤ n + 1 := hdi
        have hdr : r.dp ≤ n + 1 := by omega
        refine ⟨fun σ' H4 => σ' = [some (.ref p), some (.str lead), some (.ref D), some (.ref a), some (.str "when")] ∧ Same H H4 ∧ H4 D = some (.lst (List.map V.str (acc ++ [rowT lead ("when" :: t.words)] ++ b1.rows (lead ++ "  ") ++ [lead ++ "else"] ++ c1.rows (lead ++ "  ")))), ?_, ?_⟩
        · refine ⟨_, rfl, rfl, _, rfl, iteT' (by decide +kernel) ?_⟩
          refine ⟨_, rfl, .inl ⟨rfl, _, SqL.of eD3⟩, _, rfl, _, _, _, _, rfl, rfl, SqT.of (S3 _ _ e), atI_nat (j := 2) rfl, _, rfl, _, _, rfl, rfl, by rw [sizeLine_eq, two_sp]; omega, p1, lead ++ "  ", vb, b1, rfl, S3 _ _ e1, h1.same S3, by omega, hb1f, by rw [Str.length_append, two_sp]; omega, by omega, fun r4 H4 S4 f4 e4 => ?_⟩
          refine ⟨D, r4, _, _, rfl, rfl, S4 _ _ eD3, .inl e4, by rw [List.length_map, List.length_map, sizeLine_eq]; simp only [List.length_append, List.length_cons, List.length_nil]; omega, ?_⟩
          have S34 : Same H (upd H4 D (.lst (List.map V.str (acc ++ [rowT lead ("when" :: t.words)]) ++ List.map V.str (b1.rows (lead ++ "  "))))) := Same.at (S3.trans S4) hD _
          have eD4 : upd H4 D (.lst (List.map V.str (acc ++ [rowT lead ("when" :: t.words)]) ++ List.map V.str (b1.rows (lead ++ "  ")))) D = some (.lst (List.map V.str (acc ++ [rowT lead ("when" :: t.words)] ++ b1.rows (lead ++ "  ")))) := by rw [upd_same, ← List.map_append]
          generalize upd H4 D (.lst (List.map V.str (acc ++ [rowT lead ("when" :: t.words)]) ++ List.map V.str (b1.rows (lead ++ "  ")))) = H5 at S34 eD4
          have le4 : (Str.ofString "else").length = 4 := by decide
          refine ⟨_, rfl, .inl ⟨rfl, _, SqL.of eD4⟩, _, rfl, _, _, rfl, rfl, by rw [sizeLine_eq, le4]; omega, ?_⟩
          refine ⟨_, _, _, rfl, rfl, eD4, by rw [List.length_map, sizeLine_eq]; simp only [List.length_append, List.length_cons, List.length_nil]; omega, ?_⟩
          have S5 : Same H (upd H5 D (.lst (List.map V.str (acc ++ [rowT lead ("when" :: t.words)] ++ b1.rows (lead ++ "  ")) ++ [V.str (lead ++ "else")]))) := Same.at S34 hD _
          have eD5 : upd H5 D (.lst (List.map V.str (acc ++ [rowT lead ("when" :: t.words)] ++ b1.rows (lead ++ "  ")) ++ [V.str (lead ++ "else")])) D = some (.lst (List.map V.str (acc ++ [rowT lead ("when" :: t.words)] ++ b1.rows (lead ++ "  ") ++ [lead ++ "else"]))) := by rw [upd_same]; simp only [List.map_append, List.map_cons, List.map_nil]
          generalize upd H5 D (.lst (List.map V.str (acc ++ [rowT lead ("when" :: t.words)] ++ b1.rows (lead ++ "  ")) ++ [V.str (lead ++ "else")])) = H6 at S5 eD5
          refine ⟨_, rfl, .inl ⟨rfl, _, SqL.of eD5⟩, _, rfl, _, _, _, _, rfl, rfl, SqT.of (S5 _ _ e), atI_nat (j := 3) rfl, _, rfl, _, _, rfl, rfl, by rw [sizeLine_eq, two_sp]; omega, q1, lead ++ "  ", vc, c1, rfl, S5 _ _ e2, h2.same S5, by omega, hc1f, by rw [Str.length_append, two_sp]; omega, by omega, fun r7 H7 S7 f7 e7 => ?_⟩
          refine ⟨D, r7, _, _, rfl, rfl, S7 _ _ eD5, .inl e7, by rw [List.length_map, List.length_map, sizeLine_eq]; simp only [List.length_append, List.length_cons, List.length_nil]; omega, ?_⟩
          exact ⟨rfl, Same.at (S5.trans S7) hD _, by rw [upd_same, ← List.map_append]⟩
        · rintro σ' H4 ⟨rfl, S4, eD4⟩
          refine ⟨_, rfl, three, fun p5 hp5 => ?_⟩
          refine ⟨_, _, rfl, .inr (SqT.of upd_same), rfl, by decide +kernel, _, rfl, iteT' (by decide +kernel) ?_⟩
          have S5 := same_new hp5 (.tup [V.str "when", V.str "while", V.str "with"])
          have eD5 := S5 _ _ eD4
          have SH5 := S4.trans S5
          generalize upd H4 p5 (.tup [V.str "when", V.str "while", V.str "with"]) = H5 at eD5 SH5
          have le3 : (Str.ofString "end").length = 3 := by decide
          refine ⟨_, rfl, .inl ⟨rfl, _, SqL.of eD5⟩, _, rfl, _, _, rfl, rfl, by rw [sizeLine_eq, le3]; omega, ?_⟩
          refine ⟨_, _, _, rfl, rfl, eD5, by rw [List.length_map, sizeLine_eq]; simp only [List.length_append, List.length_cons, List.length_nil]; omega, ?_⟩
          refine ⟨_, _, r, (acc ++ [rowT lead ("when" :: t.words)] ++ b1.rows (lead ++ "  ") ++ [lead ++ "else"] ++ c1.rows (lead ++ "  ")) ++ [lead ++ "end"], rfl, Same.at SH5 hD _, hr2, hdr, hrf, by omega, ?_, ?_⟩
          · rw [upd_same]; simp only [List.map_append, List.map_cons, List.map_nil]
          · rw [hacc]
            simp only [Bk.rows, List.append_assoc, List.cons_append, List.nil_append]
      | @whil a p1 u t vb vs b1 r e ht n1 e1 h1 hr2 =>
        obtain ⟨htf, hb1f, hrf⟩ := hfi
        have hfw : Fits 100 200 ("while" :: t.words) := by
          have := htf.2.2.cons (x := "while") (by decide)
          exact ⟨Nat.le_trans this.1 (by decide), this.2⟩
        have hwl := hfw.len
        refine ⟨_, rfl, _, _, _, _, rfl, rfl, SqT.of (S _ _ e), at0, ?_⟩
        refine ⟨_, rfl, .inl ⟨rfl, _, SqL.of hD'⟩, _, rfl, rfl, _, rfl, a, "while" :: t.words, rfl, .one (t := .t t) (S _ _ e) (by decide +kernel) (ht.mono S.tup : IsTest H' u t) htf, fun p2 H2 S2 e2' => ?_⟩
        refine ⟨_, _, _, rfl, rfl, SqL.of e2', hfw.join (by decide), _, _, rfl, rfl, by rw [sizeLine_eq]; omega, ?_⟩
        refine ⟨_, _, _, rfl, rfl, S2 _ _ hD', by rw [List.length_map, sizeLine_eq]; omega, ?_⟩
        have S3 : Same H (upd H2 D (.lst (List.map V.str acc ++ [V.str (lead ++ Txt.join " " ("while" :: t.words))]))) := Same.at (S.trans S2) hD _
        have eD3 : upd H2 D (.lst (List.map V.str acc ++ [V.str (lead ++ Txt.join " " ("while" :: t.words))])) D = some (.lst (List.map V.str (acc ++ [rowT lead ("while" :: t.words)]))) := by rw [upd_same, List.map_append]; rfl
        generalize upd H2 D (.lst (List.map V.str acc ++ [V.str (lead ++ Txt.join " " ("while" :: t.words))])) = H3 at S3 eD3
        have hlb := b1.rows_len (lead ++ "  ")
        have hnn : b1.n + r.n + 1 ≤ 10000 := hni
        have hdd : max (b1.dp + 1) r.dp ≤ n + 1 := hdi
        have hdr : r.dp ≤ n + 1 := by omega
        refine ⟨fun σ' H4 => σ' = [some (.ref p), some (.str lead), some (.ref D), some (.ref a), some (.str "while")] ∧ Same H H4 ∧ H4 D = some (.lst (List.map V.str (acc ++ [rowT lead ("while" :: t.words)] ++ b1.rows (lead ++ "  ")))), ?_, ?_⟩
        · refine ⟨_, rfl, rfl, _, rfl, iteF' (by decide +kernel) ?_⟩
          refine ⟨_, rfl, rfl, _, rfl, iteT' (by decide +kernel) ?_⟩
          refine ⟨_, rfl, .inl ⟨rfl, _, SqL.of eD3⟩, _, rfl, _, _, _, _, rfl, rfl, SqT.of (S3 _ _ e), atI_nat (j := 2) rfl, _, rfl, _, _, rfl, rfl, by rw [sizeLine_eq, two_sp]; omega, p1, lead ++ "  ", vb, b1, rfl, S3 _ _ e1, h1.same S3, by omega, hb1f, by rw [Str.length_append, two_sp]; omega, by omega, fun r4 H4 S4 f4 e4 => ?_⟩
          refine ⟨D, r4, _, _, rfl, rfl, S4 _ _ eD3, .inl e4, by rw [List.length_map, List.length_map, sizeLine_eq]; simp only [List.length_append, List.length_cons, List.length_nil]; omega, ?_⟩
          exact ⟨rfl, Same.at (S3.trans S4) hD _, by rw [upd_same, ← List.map_append]⟩
        · rintro σ' H4 ⟨rfl, S4, eD4⟩
          refine ⟨_, rfl, three, fun p5 hp5 => ?_⟩
          refine ⟨_, _, rfl, .inr (SqT.of upd_same), rfl, by decide +kernel, _, rfl, iteT' (by decide +kernel) ?_⟩
          have S5 := same_new hp5 (.tup [V.str "when", V.str "while", V.str "with"])
          have eD5 := S5 _ _ eD4
          have SH5 := S4.trans S5
          generalize upd H4 p5 (.tup [V.str "when", V.str "while", V.str "with"]) = H5 at eD5 SH5
          have le3 : (Str.ofString "end").length = 3 := by decide
          refine ⟨_, rfl, .inl ⟨rfl, _, SqL.of eD5⟩, _, rfl, _, _, rfl, rfl, by rw [sizeLine_eq, le3]; omega, ?_⟩
          refine ⟨_, _, _, rfl, rfl, eD5, by rw [List.length_map, sizeLine_eq]; simp only [List.length_append, List.length_cons, List.length_nil]; omega, ?_⟩
          refine ⟨_, _, r, (acc ++ [rowT lead ("while" :: t.words)] ++ b1.rows (lead ++ "  ")) ++ [lead ++ "end"], rfl, Same.at SH5 hD _, hr2, hdr, hrf, by omega, ?_, ?_⟩
          · rw [upd_same]; simp only [List.map_append, List.map_cons, List.map_nil]
          · rw [hacc]
            simp only [Bk.rows, List.append_assoc, List.cons_append, List.nil_append]
      | @wit a p1 x u s vb vs b1 r e hs n1 e1 h1 hr2 =>
        obtain ⟨hxl, hsf, hb1f, hrf⟩ := hfi
        have hfw : Fits 100 200 ("with" :: x :: s.words) := by
          have := (hsf.2.2.cons (x := x) hxl).cons (x := "with") (by decide)
          exact ⟨Nat.le_trans this.1 (by decide), this.2⟩
        have hwl := hfw.len
        refine ⟨_, rfl, _, _, _, _, rfl, rfl, SqT.of (S _ _ e), at0, ?_⟩
        refine ⟨_, rfl, .inl ⟨rfl, _, SqL.of hD'⟩, _, rfl, rfl, _, rfl, a, "with" :: x :: s.words, rfl, .two (S _ _ e) (by decide +kernel) (hs.mono S.tup) hsf, fun p2 H2 S2 e2' => ?_⟩
        refine ⟨_, _, _, rfl, rfl, SqL.of e2', hfw.join (by decide), _, _, rfl, rfl, by rw [sizeLine_eq]; omega, ?_⟩
        refine ⟨_, _, _, rfl, rfl, S2 _ _ hD', by rw [List.length_map, sizeLine_eq]; omega, ?_⟩
        have S3 : Same H (upd H2 D (.lst (List.map V.str acc ++ [V.str (lead ++ Txt.join " " ("with" :: x :: s.words))]))) := Same.at (S.trans S2) hD _
        have eD3 : upd H2 D (.lst (List.map V.str acc ++ [V.str (lead ++ Txt.join " " ("with" :: x :: s.words))])) D = some (.lst (List.map V.str (acc ++ [rowT lead ("with" :: x :: s.words)]))) := by rw [upd_same, List.map_append]; rfl
        generalize upd H2 D (.lst (List.map V.str acc ++ [V.str (lead ++ Txt.join " " ("with" :: x :: s.words))])) = H3 at S3 eD3
        have hlb := b1.rows_len (lead ++ "  ")
        have hnn : b1.n + r.n + 1 ≤ 10000 := hni
        have hdd : max (b1.dp + 1) r.dp ≤ n + 1 := hdi
        have hdr : r.dp ≤ n + 1 := by omega
        refine ⟨fun σ' H4 => σ' = [some (.ref p), some (.str lead), some (.ref D), some (.ref a), some (.str "with")] ∧ Same H H4 ∧ H4 D = some (.lst (List.map V.str (acc ++ [rowT lead ("with" :: x :: s.words)] ++ b1.rows (lead ++ "  ")))), ?_, ?_⟩
        · refine ⟨_, rfl, rfl, _, rfl, iteF' (by decide +kernel) ?_⟩
          refine ⟨_, rfl, rfl, _, rfl, iteF' (by decide +kernel) ?_⟩
          refine ⟨_, rfl, rfl, _, rfl, iteT' (by decide +kernel) ?_⟩
          refine ⟨_, rfl, .inl ⟨rfl, _, SqL.of eD3⟩, _, rfl, _, _, _, _, rfl, rfl, SqT.of (S3 _ _ e), atI_nat (j := 3) rfl, _, rfl, _, _, rfl, rfl, by rw [sizeLine_eq, two_sp]; omega, p1, lead ++ "  ", vb, b1, rfl, S3 _ _ e1, h1.same S3, by omega, hb1f, by rw [Str.length_append, two_sp]; omega, by omega, fun r4 H4 S4 f4 e4 => ?_⟩
          refine ⟨D, r4, _, _, rfl, rfl, S4 _ _ eD3, .inl e4, by rw [List.length_map, List.length_map, sizeLine_eq]; simp only [List.length_append, List.length_cons, List.length_nil]; omega, ?_⟩
          exact ⟨rfl, Same.at (S3.trans S4) hD _, by rw [upd_same, ← List.map_append]⟩
        · rintro σ' H4 ⟨rfl, S4, eD4⟩
          refine ⟨_, rfl, three, fun p5 hp5 => ?_⟩
          refine ⟨_, _, rfl, .inr (SqT.of upd_same), rfl, by decide +kernel, _, rfl, iteT' (by decide +kernel) ?_⟩
          have S5 := same_new hp5 (.tup [V.str "when", V.str "while", V.str "with"])
          have eD5 := S5 _ _ eD4
          have SH5 := S4.trans S5
          generalize upd H4 p5 (.tup [V.str "when", V.str "while", V.str "with"]) = H5 at eD5 SH5
          have le3 : (Str.ofString "end").length = 3 := by decide
          refine ⟨_, rfl, .inl ⟨rfl, _, SqL.of eD5⟩, _, rfl, _, _, rfl, rfl, by rw [sizeLine_eq, le3]; omega, ?_⟩
          refine ⟨_, _, _, rfl, rfl, eD5, by rw [List.length_map, sizeLine_eq]; simp only [List.length_append, List.length_cons, List.length_nil]; omega, ?_⟩
          refine ⟨_, _, r, (acc ++ [rowT lead ("with" :: x :: s.words)] ++ b1.rows (lead ++ "  ")) ++ [lead ++ "end"], rfl, Same.at SH5 hD _, hr2, hdr, hrf, by omega, ?_, ?_⟩
          · rw [upd_same]; simp only [List.map_append, List.map_cons, List.map_nil]
          · rw [hacc]
            simp only [Bk.rows, List.append_assoc, List.cons_append, List.nil_append]
    · rintro σ H' ⟨o3, o4, bi, acc, rfl, S, hBi, hdi, hfi, hni, hD', hacc⟩
      rw [List.drop_length] at hBi
      cases hBi
      have : b.rows lead = acc := by rw [hacc]; exact List.append_nil _
      rw [this] at q
      exact ⟨_, rfl, q D _ S hD hD'⟩
end
section
variable {P : Program} {w : World} {K : PySem.W.Frag} {mg : Str → Option Value} {base : Heap}
/-! ### shown -/
def spShown : Sp := fun vs H Q _ => ∃ (r pn pb : Addr) (ns : List Str) (ws : List V) (b : Bk), vs = [.ref r] ∧ H r = some (.tup [.ref pn, .ref pb]) ∧ H pn = some (.lst (ns.map V.str)) ∧ Fits 100 20 ns ∧ H pb = some (.lst ws) ∧ IsBk H noM ws b ∧ b.dp ≤ 70 ∧ b.fit ∧ b.n ≤ 10000 ∧
  ∀ p H', Same H H' → H' p = some (.lst ((Txt.join " " (("jars" : Str) :: ns) :: b.rows "").map V.str)) → Q (.ref p) H'
theorem ok_shown (T : Txt K mg) : FnOk P w K mg base CX0 95 T.f_shown T.fd_shown ["program"] spShown := by
  have G_block_rows := ok_block_rows (P := P) (w := w) (base := base) T 70
  refine T.shown.F.ok sc_shown (fun vs H Q E h => ?_) (fun cdv A outer s H vs Q E hr h => ?_)
  · obtain ⟨r, pn, pb, ns, ws, b, rfl, _⟩ := h; rfl
  obtain ⟨r, pn, pb, ns, ws, b, rfl, e, en, hns, eb, hB, hd, hf, hbn, q⟩ := h
  refine ⟨_, (pss_one (ps_ret (pe_op op_cat (pe_lst (pa_cons (pe_bm PySem.F.plainAttrs_str PySem.F.slot_str_join PySem.F.type_str_join mt_join pe_str (pa_cons (pe_op op_cat (pe_lst (pa_cons pe_str pa_nil)) (pe_ix ix_tup (pv 0) pe_int (fun _ _ => rfl))) pa_nil)) pa_nil)) (pe_call G_block_rows hr rfl T.block_rows.m T.block_rows.F.kp T.block_rows.b .nil pass0 (pa_cons (pe_ix ix_tup (pv 0) pe_int (fun _ _ => rfl)) (pa_cons pe_str pa_nil)))))), ?_⟩
  try dsimp only [kx, kxb]
  have one : (1 : Nat) ≤ sizeLine := by decide
  have hnl := hns.1
  have hj : Fits 100 21 (("jars" : Str) :: ns) := hns.cons (by decide)
  have hrl := b.rows_len ""
  refine ⟨rfl, one, fun p1 hp1 => ⟨_, rfl, _, _, _, _, rfl, rfl, SqT.of (same_new hp1 _ _ _ e), rfl, ?_⟩⟩
  have S1 := same_new hp1 (.lst [V.str "jars"])
  have e1 : upd H p1 (.lst [V.str "jars"]) p1 = some (.lst [V.str "jars"]) := upd_same
  generalize upd H p1 (.lst [V.str "jars"]) = H1 at S1 e1
  refine ⟨p1, pn, _, _, rfl, rfl, e1, S1 _ _ en, by rw [sizeLine_eq, List.length_map]; show 1 + _ ≤ _; omega, fun p2 hp2 => ?_⟩
  have S2 := same_new hp2 (.lst ([V.str "jars"] ++ ns.map V.str))
  have e2 : upd H1 p2 (.lst ([V.str "jars"] ++ ns.map V.str)) p2 = some (.lst ((("jars" : Str) :: ns).map V.str)) := upd_same
  generalize upd H1 p2 (.lst ([V.str "jars"] ++ ns.map V.str)) = H2 at S2 e2
  refine ⟨_, _, _, rfl, rfl, SqL.of e2, hj.join (by decide), one, fun p3 hp3 => ?_⟩
  have S3 := same_new hp3 (.lst [V.str (Txt.join " " (("jars" : Str) :: ns))])
  have e3 : upd H2 p3 (.lst [V.str (Txt.join " " (("jars" : Str) :: ns))]) p3 = some (.lst [V.str (Txt.join " " (("jars" : Str) :: ns))]) := upd_same
  generalize upd H2 p3 (.lst [V.str (Txt.join " " (("jars" : Str) :: ns))]) = H3 at S3 e3
  have SS := S1.trans (S2.trans S3)
  refine ⟨_, rfl, _, _, _, _, rfl, rfl, SqT.of (SS _ _ e), rfl, ?_⟩
  refine ⟨pb, "", ws, b, rfl, SS _ _ eb, hB.same SS, hd, hf, by decide, hbn, fun r4 H4 S4 f4 e4 => ?_⟩
  refine ⟨p3, r4, _, _, rfl, rfl, S4 _ _ e3, e4, by rw [sizeLine_eq, List.length_map]; show 1 + _ ≤ _; omega, fun p5 hp5 => ?_⟩
  exact q p5 _ (SS.trans (S4.trans (same_new hp5 _))) upd_same
end
end W10

set_option Elab.async false
set_option linter.all false
set_option maxRecDepth 100000
set_option maxHeartbeats 4000000
namespace W10
open PySem L2 J
section
variable {P : Program} {w : World} {K : PySem.W.Frag} {mg : Str → Option Value} {base : Heap}
/-! ### _law_alike -/
def spAlike (K : PySem.W.Frag) : Sp := fun vs H Q _ => ∃ (u v : V) (n : Nat), vs = [u, v] ∧ AlkL K H [u] [v] n ∧ n ≤ 10000000 ∧ ∀ H', Same H H' → Q (.bl true) H'
def WAlike (K : PySem.W.Frag) (H : Hp) (u v : V) (l r : Addr) (n m : Nat) (σ : St) (H' : Hp) : Prop :=
  ∃ left right o4 o5, σ = [some u, some v, some (.ref l), some (.ref r), o4, o5] ∧ Same H H' ∧ H' l = some (.lst left) ∧ H' r = some (.lst right) ∧ AlkL K H left right m ∧ m ≤ n
theorem ok_law_alike (T : Txt K mg) : FnOk P w K mg base CX0 2 T.f_law_alike T.fd_law_alike ["_law_found", "_law_due"] (spAlike K) := by
  have G_law_whole := ok_law_whole (P := P) (w := w) (base := base) T
  refine T.law_alike.F.ok sc_law_alike (fun vs H Q E h => ?_) (fun cdv A outer s H vs Q E hr h => ?_)
  · obtain ⟨u, v, n, rfl, _⟩ := h; rfl
  obtain ⟨u, v, n, rfl, ha, hn, q⟩ := h
  refine ⟨_, (pss_cons (ps_set (i := 2) sc_law_alike.nd rfl (Or.inl rfl) (pe_lst (pa_cons (pv 0) pa_nil)))
    (pss_cons (ps_set (i := 3) sc_law_alike.nd rfl (Or.inl rfl) (pe_lst (pa_cons (pv 1) pa_nil)))
    (pss_cons (ps_while PassesOwn.never (pt_cmpR (op_neNil hr.units0) (pv 3) (pe_lst pa_nil) (nomark _)) (pss_cons (ps_set (i := 4) sc_law_alike.nd rfl (Or.inl rfl) (pe_bm0 PySem.F.plainAttrs_list PySem.F.slot_list_pop PySem.F.type_list_pop mt_pop (pv 2)))
    (pss_cons (ps_set (i := 5) sc_law_alike.nd rfl (Or.inl rfl) (pe_bm0 PySem.F.plainAttrs_list PySem.F.slot_list_pop PySem.F.type_list_pop mt_pop (pv 3)))
    (pss_one (ps_if (pt_val (pe_callB call_isiTP rfl T.b_isinstance bt_isinstance (pa_cons (pv 5) (pa_cons (pe_tup (pa_cons (pe_bltn (v := .ty "list") rfl T.b_list bt_list rfl) (pa_cons (pe_bltn (v := .ty "tuple") rfl T.b_tuple bt_tuple rfl) pa_nil))) pa_nil)))) (pss_cons (ps_if (pt_cmpR op_ne (pe_callB call_isiP rfl T.b_isinstance bt_isinstance (pa_cons (pv 4) (pa_cons (pe_bltn (v := .ty "list") rfl T.b_list bt_list rfl) pa_nil))) (pe_callB call_isiP rfl T.b_isinstance bt_isinstance (pa_cons (pv 5) (pa_cons (pe_bltn (v := .ty "list") rfl T.b_list bt_list rfl) pa_nil))) (nomark _)) (pss_one (ps_ret pe_bl)) pss_nil)
    (pss_cons (ps_if (PW.pt (pw_or (pt_cmpR op_ne (pe_callB call_isiP rfl T.b_isinstance bt_isinstance (pa_cons (pv 4) (pa_cons (pe_bltn (v := .ty "tuple") rfl T.b_tuple bt_tuple rfl) pa_nil))) (pe_callB call_isiP rfl T.b_isinstance bt_isinstance (pa_cons (pv 5) (pa_cons (pe_bltn (v := .ty "tuple") rfl T.b_tuple bt_tuple rfl) pa_nil))) (nomark _)) (pw_or1 (pt_cmpR op_ne (pe_callB call_len_seq rfl T.b_len PySem.boot_len (pa_cons (pv 4) pa_nil)) (pe_callB call_len_seq rfl T.b_len PySem.boot_len (pa_cons (pv 5) pa_nil)) (nomark _))))) (pss_one (ps_ret pe_bl)) pss_nil)
    (pss_cons (ps_expr (pe_bm PySem.F.plainAttrs_list PySem.F.slot_list_extend PySem.F.type_list_extend mt_extendP (pv 2) (pa_cons (pv 4) pa_nil)))
    (pss_one (ps_expr (pe_bm PySem.F.plainAttrs_list PySem.F.slot_list_extend PySem.F.type_list_extend mt_extendP (pv 3) (pa_cons (pv 5) pa_nil))))))) (pss_one (ps_if (pt_val (pe_callB call_isiP rfl T.b_isinstance bt_isinstance (pa_cons (pv 5) (pa_cons (pe_bltn (v := .ty "str") rfl T.b_str bt_str rfl) pa_nil)))) (pss_one (ps_if (PW.pt (pw_or (pt_not (pt_val (pe_callB call_isiP rfl T.b_isinstance bt_isinstance (pa_cons (pv 4) (pa_cons (pe_bltn (v := .ty "str") rfl T.b_str bt_str rfl) pa_nil))))) (pw_or1 (pt_cmpR op_ne (pv 4) (pv 5) (nomark _))))) (pss_one (ps_ret pe_bl)) pss_nil)) (pss_one (ps_if (PW.pt (pw_or (pt_not (pt_val (pe_call G_law_whole hr rfl T.law_whole.m T.law_whole.F.kp T.law_whole.b .nil pass0 (pa_cons (pv 4) pa_nil)))) (pw_or1 (pt_cmpR op_ne (pv 4) (pv 5) (nomark _))))) (pss_one (ps_ret pe_bl)) pss_nil)))))))))
    (pss_one (ps_ret pe_bl))))), ?_⟩
  try dsimp only [kx, kxb]
  have one : (1 : Nat) ≤ sizeLine := by decide
  refine ⟨_, rfl, one, fun l hl => ?_⟩
  refine ⟨_, rfl, one, fun r hr' => ?_⟩
  have S1 : Same H (upd H l (.lst [u])) := same_new hl _
  have S2 : Same (upd H l (.lst [u])) (upd (upd H l (.lst [u])) r (.lst [v])) := same_new hr' _
  have hlr : l ≠ r := ne_of_none upd_same hr'
  have hrH : H r = none := S1.free hr'
  refine ⟨WAlike K H u v l r n, ⟨n, [u], [v], none, none, rfl, S1.trans S2, S2 _ _ upd_same, upd_same, ha, Nat.le_refl _⟩, ?_⟩
  rintro m σ H' ⟨left, right, o4, o5, rfl, S, hL, hR, hk, hm⟩
  refine ⟨_, rfl, Nat.zero_le _, fun p hp => ?_⟩
  have Sp : Same H' (upd H' p (.lst [])) := same_new hp _
  refine ⟨_, _, _, rfl, rfl, SqL.of (Sp _ _ hR), SqL.of upd_same, _, rfl, ?_⟩
  rcases hk.last with ⟨rfl, rfl⟩ | ⟨xs', ys', x, y, m1, k1, rfl, rfl, h1, h2, rfl⟩
  · exact iteF' rfl (q _ (S.trans Sp))
  refine iteT' (by simp) ?_
  refine ⟨fun σ' H'' => ∃ m', m' < m1 + k1 ∧ WAlike K H u v l r n m' σ' H'', fun σ' H'' z => z, ?_⟩
  have SH1 : Same H (upd H' p (.lst [])) := S.trans Sp
  have hL1 := Sp _ _ hL
  have hR1 := Sp _ _ hR
  generalize upd H' p (.lst []) = H1 at SH1 hL1 hR1
  refine ⟨_, rfl, .inl ⟨rfl, _, SqL.of hL1⟩, _, _, _, rfl, rfl, hL1, last_get xs' x, ?_⟩
  refine ⟨_, rfl, .inl ⟨rfl, _, SqL.of (by rw [upd_ne hlr.symm]; exact hR1)⟩, _, _, _, rfl, rfl, (by rw [upd_ne hlr.symm]; exact hR1), last_get ys' y, ?_⟩
  rw [List.dropLast_concat, List.dropLast_concat]
  have SH3 : Same H (upd (upd H1 l (.lst xs')) r (.lst ys')) := Same.at (Same.at SH1 hl _) hrH _
  have hL3 : upd (upd H1 l (.lst xs')) r (.lst ys') l = some (.lst xs') := by rw [upd_ne hlr]; exact upd_same
  have hR3 : upd (upd H1 l (.lst xs')) r (.lst ys') r = some (.lst ys') := upd_same
  generalize upd (upd H1 l (.lst xs')) r (.lst ys') = H3 at SH3 hL3 hR3
  have two : (2 : Nat) ≤ sizeLine := by decide
  refine ⟨_, rfl, two, fun p3 hp3 => ?_⟩
  have S3 : Same H3 (upd H3 p3 (.tup [V.ty "list", V.ty "tuple"])) := same_new hp3 _
  have SH4 := SH3.trans S3
  have hL4 := S3 _ _ hL3
  have hR4 := S3 _ _ hR3
  have hT4 : upd H3 p3 (.tup [V.ty "list", V.ty "tuple"]) p3 = some (.tup (["list", "tuple"].map V.ty)) := upd_same
  cases h2 with
  | int i =>
    refine ⟨_, "int", _, ["list", "tuple"], false, rfl, .inl (.int i), hT4, by decide +kernel, _, rfl, iteF' rfl ?_⟩
    refine ⟨_, rfl, _, "int", _, false, rfl, .inl (.int i), by decide +kernel, _, rfl, iteF' rfl ?_⟩
    refine ⟨_, rfl, i, rfl, _, rfl, iteF' rfl ?_⟩
    refine ⟨_, rfl, _, rfl, rfl, _, rfl, iteF' (by simp) ?_⟩
    exact ⟨m1, by omega, xs', ys', _, _, rfl, SH4, hL4, hR4, h1, by omega⟩
  | str z =>
    refine ⟨_, "str", _, ["list", "tuple"], false, rfl, .inl (.str z), hT4, by decide +kernel, _, rfl, iteF' rfl ?_⟩
    refine ⟨_, rfl, _, "str", _, true, rfl, .inl (.str z), by decide +kernel, _, rfl, iteT' rfl ?_⟩
    refine ⟨_, rfl, _, "str", _, true, rfl, .inl (.str z), by decide +kernel, _, rfl, iteF' rfl ?_⟩
    refine ⟨_, rfl, _, rfl, rfl, _, rfl, iteF' (by simp) ?_⟩
    exact ⟨m1, by omega, xs', ys', _, _, rfl, SH4, hL4, hR4, h1, by omega⟩
  | @tup a b us vs k e1 e2 h3 =>
    have f1 := e1.mono SH4.tup
    have f2 := e2.mono SH4.tup
    have lens := h3.len
    have lens1 := h1.len
    refine ⟨_, "tuple", _, ["list", "tuple"], true, rfl, .inr ⟨rfl, _, _, rfl, f2⟩, hT4, by decide +kernel, _, rfl, iteT' rfl ?_⟩
    refine ⟨_, rfl, _, "tuple", _, false, rfl, .inr ⟨rfl, _, _, rfl, f1⟩, by decide +kernel, _, rfl, _, "tuple", _, false, rfl, .inr ⟨rfl, _, _, rfl, f2⟩, by decide +kernel, rfl, _, rfl, iteF' rfl ?_⟩
    refine ⟨_, rfl, _, "tuple", _, true, rfl, .inr ⟨rfl, _, _, rfl, f1⟩, by decide +kernel, _, rfl, _, "tuple", _, true, rfl, .inr ⟨rfl, _, _, rfl, f2⟩, by decide +kernel, rfl, _, rfl, iteF' rfl ?_⟩
    refine ⟨_, rfl, _, _, rfl, .inr (f1.sq), _, rfl, _, _, rfl, .inr (f2.sq), rfl, _, rfl, iteF' (by rw [lens.1]; simp) ?_⟩
    refine ⟨_, rfl, .inl ⟨rfl, _, SqL.of hL4⟩, _, rfl, _, _, _, _, rfl, rfl, hL4, .inr f1, (by rw [sizeLine_eq]; omega), ?_⟩
    have rl : r ≠ l := hlr.symm
    refine ⟨_, rfl, .inl ⟨rfl, _, SqL.of (by rw [upd_ne rl]; exact hR4)⟩, _, rfl, _, _, _, _, rfl, rfl, (by rw [upd_ne rl]; exact hR4), .inr (f2.mono ((but_upd (l := l) _).tup hL4)), (by rw [sizeLine_eq]; omega), ?_⟩
    refine ⟨m1 + k, by omega, xs' ++ us, ys' ++ vs, _, _, rfl, Same.at (Same.at SH4 hl _) hrH _, ?_, upd_same, h1.app h3, by omega⟩
    rw [upd_ne hlr]; exact upd_same
  | @lst a b us vs k e1 e2 h3 =>
    have f1 := SH4 _ _ e1
    have f2 := SH4 _ _ e2
    have lens := h3.len
    have lens1 := h1.len
    refine ⟨_, "list", _, ["list", "tuple"], true, rfl, .inl (.lst f2), hT4, by decide +kernel, _, rfl, iteT' rfl ?_⟩
    refine ⟨_, rfl, _, "list", _, true, rfl, .inl (.lst f1), by decide +kernel, _, rfl, _, "list", _, true, rfl, .inl (.lst f2), by decide +kernel, rfl, _, rfl, iteF' rfl ?_⟩
    refine ⟨_, rfl, _, "list", _, false, rfl, .inl (.lst f1), by decide +kernel, _, rfl, _, "list", _, false, rfl, .inl (.lst f2), by decide +kernel, rfl, _, rfl, iteF' rfl ?_⟩
    refine ⟨_, rfl, _, _, rfl, .inl (SqL.of f1), _, rfl, _, _, rfl, .inl (SqL.of f2), rfl, _, rfl, iteF' (by rw [lens.1]; simp) ?_⟩
    refine ⟨_, rfl, .inl ⟨rfl, _, SqL.of hL4⟩, _, rfl, _, _, _, _, rfl, rfl, hL4, .inl f1, (by rw [sizeLine_eq]; omega), ?_⟩
    have bl : b ≠ l := ne_of_none e2 hl
    have rl : r ≠ l := hlr.symm
    refine ⟨_, rfl, .inl ⟨rfl, _, SqL.of (by rw [upd_ne rl]; exact hR4)⟩, _, rfl, _, _, _, _, rfl, rfl, (by rw [upd_ne rl]; exact hR4), .inl (by rw [upd_ne bl]; exact f2), (by rw [sizeLine_eq]; omega), ?_⟩
    refine ⟨m1 + k, by omega, xs' ++ us, ys' ++ vs, _, _, rfl, Same.at (Same.at SH4 hl _) hrH _, ?_, upd_same, h1.app h3, by omega⟩
    rw [upd_ne hlr]; exact upd_same
end
section
variable {P : Program} {w : World} {K : PySem.W.Frag} {mg : Str → Option Value} {base : Heap}
/-! ### two of one program are alike -/
theorem isk1 {H : Hp} {u v : V} {s : Sm Str} (h : IsSum H u s) (g : IsSum H v s) : ∃ n, n + 2 ≤ 5 * s.lv ∧ AlkL1 K H u v n := by
  obtain ⟨n, hn, al⟩ := (IsSum.k (K := K) h).alk (IsSum.k g)
  exact ⟨n, hn, al.toL⟩
theorem isk2 {H : Hp} {u v : V} {t : Ts} (h : IsTest H u t) (g : IsTest H v t) : ∃ n, n ≤ 5 * t.sz ∧ AlkL1 K H u v n := (IsTest.k (K := K) h).alk (IsTest.k g)
def _root_.J.Bk.ak : Bk → Nat
  | .nil => 0
  | .set _ a r => 5 * a.lv + 10 + r.ak
  | .say a r => 5 * a.lv + 10 + r.ak
  | .when t b c r => 5 * t.sz + 10 + b.ak + c.ak + r.ak
  | .whil t b r => 5 * t.sz + 10 + b.ak + r.ak
  | .wit _ a b r => 5 * a.lv + 10 + b.ak + r.ak
theorem bk_alk {H : Hp} {vs : List V} {b : Bk} (h : IsBk H noM vs b) : ∀ {ws : List V}, IsBk H noM ws b → ∃ n, n ≤ b.ak ∧ AlkL K H vs ws n := by
  induction h with
  | nil => intro ws g; cases g; exact ⟨0, Nat.le_refl _, .nil⟩
  | @set a x u s vs r e hs _ ih =>
    intro ws g
    cases g with
    | @set a' _ u' _ vs' _ e' hs' g' =>
      obtain ⟨n, hn, al⟩ := ih g'
      obtain ⟨m, hm, al1⟩ := isk1 (K := K) hs hs'
      refine ⟨_, ?_, .tup (.inl e) (.inl e') (.str (.str (.cons1 al1 .nil))) al⟩
      show m + 0 + 1 + 1 + n + 1 ≤ 5 * s.lv + 10 + r.ak
      omega
  | @say a u s vs r e hs _ ih =>
    intro ws g
    cases g with
    | @say a' u' _ vs' _ e' hs' g' =>
      obtain ⟨n, hn, al⟩ := ih g'
      obtain ⟨m, hm, al1⟩ := isk1 (K := K) hs hs'
      refine ⟨_, ?_, .tup (.inl e) (.inl e') (.str (.cons1 al1 .nil)) al⟩
      show m + 0 + 1 + n + 1 ≤ 5 * s.lv + 10 + r.ak
      omega
  | @when a p q u t vb vc vs b c r e ht n1 e1 _ n2 e2 _ _ i1 i2 i3 =>
    intro ws g
    cases g with
    | @when a' p' q' u' _ vb' vc' vs' _ _ _ e' ht' n1' e1' g1 n2' e2' g2 g' =>
      obtain ⟨n, hn, al⟩ := i3 g'
      obtain ⟨nb, hnb, alb⟩ := i1 g1
      obtain ⟨nc, hnc, alc⟩ := i2 g2
      obtain ⟨m, hm, al1⟩ := isk2 (K := K) ht ht'
      refine ⟨_, ?_, .tup (.inl e) (.inl e') (.str (.cons1 al1 (.lst e1 e1' alb (.lst e2 e2' alc .nil)))) al⟩
      show m + (nb + (nc + 0 + 1) + 1) + 1 + n + 1 ≤ 5 * t.sz + 10 + b.ak + c.ak + r.ak
      omega
  | @whil a p u t vb vs b r e ht n1 e1 _ _ i1 i3 =>
    intro ws g
    cases g with
    | @whil a' p' u' _ vb' vs' _ _ e' ht' n1' e1' g1 g' =>
      obtain ⟨n, hn, al⟩ := i3 g'
      obtain ⟨nb, hnb, alb⟩ := i1 g1
      obtain ⟨m, hm, al1⟩ := isk2 (K := K) ht ht'
      refine ⟨_, ?_, .tup (.inl e) (.inl e') (.str (.cons1 al1 (.lst e1 e1' alb .nil))) al⟩
      show m + (nb + 0 + 1) + 1 + n + 1 ≤ 5 * t.sz + 10 + b.ak + r.ak
      omega
  | @wit a p x u s vb vs b r e ht n1 e1 _ _ i1 i3 =>
    intro ws g
    cases g with
    | @wit a' p' _ u' _ vb' vs' _ _ e' ht' n1' e1' g1 g' =>
      obtain ⟨n, hn, al⟩ := i3 g'
      obtain ⟨nb, hnb, alb⟩ := i1 g1
      obtain ⟨m, hm, al1⟩ := isk1 (K := K) ht ht'
      refine ⟨_, ?_, .tup (.inl e) (.inl e') (.str (.str (.cons1 al1 (.lst e1 e1' alb .nil)))) al⟩
      show m + (nb + 0 + 1) + 1 + 1 + n + 1 ≤ 5 * s.lv + 10 + b.ak + r.ak
      omega
theorem sm_lv_fit {s : Sm Str} (h : (Th.s s).fit) : s.lv ≤ 100 := by
  have h1 := s.words_len
  have h2 : s.words.length ≤ 190 := h.2.2.1
  omega
theorem ts_sz_words : ∀ t : Ts, t.sz ≤ t.words.length
  | .less a b => by
    have h1 := a.words_len
    have h2 := b.words_len
    have h3 := a.lv_pos
    have h4 := b.lv_pos
    show a.lv + b.lv + 1 ≤ (a.words ++ b.words).length + 1
    rw [List.length_append]
    omega
  | .same a b => by
    have h1 := a.words_len
    have h2 := b.words_len
    have h3 := a.lv_pos
    have h4 := b.lv_pos
    show a.lv + b.lv + 1 ≤ (a.words ++ b.words).length + 1
    rw [List.length_append]
    omega
  | .not t => by have := ts_sz_words t; show t.sz + 1 ≤ t.words.length + 1; omega
  | .both t u => by
    have h1 := ts_sz_words t
    have h2 := ts_sz_words u
    show t.sz + u.sz + 1 ≤ (t.words ++ u.words).length + 1
    rw [List.length_append]
    omega
theorem ts_sz_fit {t : Ts} (h : (Th.t t).fit) : t.sz ≤ 190 := by
  have h1 := ts_sz_words t
  have h2 : t.words.length ≤ 190 := h.2.2.1
  omega
theorem ak_le : ∀ {b : Bk}, b.fit → b.ak ≤ 1000 * b.n
  | .nil, _ => Nat.le_refl _
  | .set _ a r, h => by
    have h1 := ak_le h.2.2
    have h2 := sm_lv_fit h.2.1
    show 5 * a.lv + 10 + r.ak ≤ 1000 * (r.n + 1)
    omega
  | .say a r, h => by
    have h1 := ak_le h.2
    have h2 := sm_lv_fit h.1
    show 5 * a.lv + 10 + r.ak ≤ 1000 * (r.n + 1)
    omega
  | .when t b c r, h => by
    have h1 := ak_le h.2.1
    have h2 := ak_le h.2.2.1
    have h3 := ak_le h.2.2.2
    have h4 := ts_sz_fit h.1
    show 5 * t.sz + 10 + b.ak + c.ak + r.ak ≤ 1000 * (b.n + c.n + r.n + 1)
    omega
  | .whil t b r, h => by
    have h1 := ak_le h.2.1
    have h3 := ak_le h.2.2
    have h4 := ts_sz_fit h.1
    show 5 * t.sz + 10 + b.ak + r.ak ≤ 1000 * (b.n + r.n + 1)
    omega
  | .wit _ a b r, h => by
    have h1 := ak_le h.2.2.1
    have h3 := ak_le h.2.2.2
    have h4 := sm_lv_fit h.2.1
    show 5 * a.lv + 10 + b.ak + r.ak ≤ 1000 * (b.n + r.n + 1)
    omega
end
end W10

set_option Elab.async false
set_option linter.all false
set_option maxRecDepth 100000
set_option maxHeartbeats 4000000
namespace W10
open PySem L2 J
section
variable {P : Program} {w : World} {K : PySem.W.Frag} {mg : Str → Option Value} {base : Heap}
/-! ### _law_texts, _law_laid -/
def spTexts : Sp := fun vs H Q _ => ∃ (p : Addr) (rows : List Str), vs = [.ref p] ∧ H p = some (.lst (rows.map V.str)) ∧ Q (.bl true) H
theorem ok_law_texts (T : Txt K mg) : FnOk P w K mg base CX0 1 T.f_law_texts T.fd_law_texts ["_law_found"] spTexts := by
  refine T.law_texts.F.ok sc_law_texts (fun vs H Q E h => ?_) (fun cdv A outer s H vs Q E hr h => ?_)
  · obtain ⟨p, rows, rfl, _⟩ := h; rfl
  obtain ⟨p, rows, rfl, hp, q⟩ := h
  refine ⟨_, (pss_cons (ps_if (pt_not (pt_val (pe_callB call_isiP rfl T.b_isinstance bt_isinstance (pa_cons (pv 0) (pa_cons (pe_bltn (v := .ty "list") rfl T.b_list bt_list rfl) pa_nil))))) (pss_one (ps_ret pe_bl)) pss_nil)
    (pss_cons (ps_for PassesOwn.never rfl (pi_list (pv 0)) (pg_name (i := 1) sc_law_texts.nd rfl (Or.inl rfl)) (pss_one (ps_if (pt_not (pt_val (pe_callB call_isiP rfl T.b_isinstance bt_isinstance (pa_cons (pv 1) (pa_cons (pe_bltn (v := .ty "str") rfl T.b_str bt_str rfl) pa_nil))))) (pss_one (ps_ret pe_bl)) pss_nil)))
    (pss_one (ps_ret pe_bl)))), ?_⟩
  try dsimp only [kx, kxb]
  refine ⟨_, rfl, _, "list", _, true, rfl, .inl (.lst hp), by decide +kernel, _, rfl, iteF' rfl ?_⟩
  refine ⟨_, rfl, p, rfl, ⟨_, SqL.of hp⟩, ?_⟩
  refine for_list (xs := rows.map V.str) (fun i σ' H' => (∃ o, σ' = [some (.ref p), o]) ∧ H' = H) ⟨⟨none, rfl⟩, rfl⟩ (fun i σ H' _ z => by rw [z.2]; exact SqL.of hp) ?_ ?_
  · rintro i x σ' H' hx ⟨⟨o, rfl⟩, rfl⟩
    rw [List.getElem?_map] at hx
    cases hpx : rows[i]? with
    | none => rw [hpx] at hx; cases hx
    | some y =>
      rw [hpx] at hx
      cases hx
      exact ⟨_, rfl, _, "str", _, true, rfl, .inl (.str y), by decide +kernel, _, rfl, iteF' rfl ⟨⟨_, rfl⟩, rfl⟩⟩
  · rintro σ' H' ⟨⟨o, rfl⟩, rfl⟩
    exact q
def spLaid (K : PySem.W.Frag) : Sp := fun vs H Q _ => ∃ (pr pc : Addr) (rows W : List Str) (cs : List Int), vs = [.ref pr, .ref pc] ∧ H pr = some (.lst (rows.map V.str)) ∧ SqL K H pc (cs.map V.int) ∧ (∀ r ∈ rows, Pl r ∧ r.length ≤ 1000000) ∧ rows.flatMap wds = W ∧ (∀ x ∈ W, Wd x ∧ x.length ≤ 100) ∧ W.length ≤ 100000 ∧
  ∀ p ms H', Same H H' → H' p = some (.lst (List.map V.str ms)) → ms.flatMap wds = W → (∀ r ∈ ms, r.length ≤ 16000000) → Q (.ref p) H'
/-- what is laid so far -/
structure Laid (W done : List Str) (cur : Str) (i : Nat) : Prop where
  wd : ∃ wc, scB cur = (wc, Str.empty) ∧ done.flatMap wds ++ wc = W.take i
  lc : cur.length ≤ 103 * i
  ld : ∀ r ∈ done, r.length ≤ 103 * i
  nd : done.length ≤ i
theorem bl_slice (c : Int) : Bl (Txt.slice "  " none (some (c % 3))) ∧ (Txt.slice "  " none (some (c % 3))).length ≤ 2 := by
  have h : c % 3 = 0 ∨ c % 3 = 1 ∨ c % 3 = 2 := by omega
  rcases h with h | h | h <;> rw [h]
  · exact ⟨⟨0, by decide +kernel⟩, by decide +kernel⟩
  · exact ⟨⟨1, by decide +kernel⟩, by decide +kernel⟩
  · exact ⟨⟨2, by decide +kernel⟩, by decide +kernel⟩
theorem Laid.add {W done : List Str} {cur b x : Str} {i : Nat} (h : Laid W done cur i) (hb : Bl b) (hb2 : b.length ≤ 2) (hx : W[i]? = some x) (hw : Wd x) (hx1 : x.length ≤ 100) : Laid W done (cur ++ b ++ x ++ " ") (i + 1) := by
  obtain ⟨wc, e1, e2⟩ := h.wd
  refine ⟨⟨wc ++ [x], scB_snoc e1 hb hw, by rw [← List.append_assoc, e2, List.take_add_one, hx]; rfl⟩, ?_, fun r m => Nat.le_trans (h.ld r m) (by omega), Nat.le_succ_of_le h.nd⟩
  have := h.lc
  have h1 : (Str.ofString " ").length = 1 := by decide
  rw [Str.length_append, Str.length_append, Str.length_append, h1]
  omega
theorem Laid.row {W done : List Str} {cur : Str} {i : Nat} (h : Laid W done cur (i + 1)) (hd : done.length ≤ i) : Laid W (done ++ [cur]) "" (i + 1) := by
  obtain ⟨wc, e1, e2⟩ := h.wd
  refine ⟨⟨[], by decide, ?_⟩, Nat.zero_le _, fun r m => ?_, by rw [List.length_append]; show _ + 1 ≤ _; omega⟩
  · rw [List.append_nil, List.flatMap_append, ← e2]
    show _ ++ (wds cur ++ []) = _
    rw [List.append_nil, wds_of e1]
  · rcases List.mem_append.mp m with m | m
    · exact h.ld r m
    · rw [List.mem_singleton.mp m]; exact h.lc
def PLaid (H : Hp) (pr pc l D : Addr) (W : List Str) (i : Nat) (σ : St) (H' : Hp) : Prop :=
  ∃ o3 o5 o6 done cur, σ = [some (.ref pr), some (.ref pc), some (.ref l), o3, some (.ref D), o5, o6] ∧ Same H H' ∧ H' l = some (.lst (W.map V.str)) ∧ H' D = some (.lst (List.map V.str (done ++ [cur]))) ∧ Laid W done cur i
theorem ok_law_laid (T : Txt K mg) : FnOk P w K mg base CX0 1 T.f_law_laid T.fd_law_laid ["_law_rows", "_law_cells"] (spLaid K) := by
  refine T.law_laid.F.ok sc_law_laid (fun vs H Q E h => ?_) (fun cdv A outer s H vs Q E hr h => ?_)
  · obtain ⟨pr, pc, rows, W, cs, rfl, _⟩ := h; rfl
  obtain ⟨pr, pc, rows, W, cs, rfl, hp, hc, hrow, hW, hwd, hwl, q⟩ := h
  refine ⟨_, (pss_cons (ps_set (i := 2) sc_law_laid.nd rfl (Or.inl rfl) (pe_lst pa_nil))
    (pss_cons (ps_for PassesOwn.never rfl (pi_list (pv 0)) (pg_name (i := 3) sc_law_laid.nd rfl (Or.inl rfl)) (pss_one (ps_set (i := 2) sc_law_laid.nd rfl (Or.inl rfl) (pe_op op_cat (pv 2) (pe_bm0 PySem.F.plainAttrs_str PySem.F.slot_str_split PySem.F.type_str_split mt_split0 (pv 3))))))
    (pss_cons (ps_set (i := 4) sc_law_laid.nd rfl (Or.inl rfl) (pe_lst (pa_cons pe_str pa_nil)))
    (pss_cons (ps_for PassesOwn.never rfl (pi_range1 rfl T.b_range (pa_cons (pe_callB call_len_seq rfl T.b_len PySem.boot_len (pa_cons (pv 2) pa_nil)) pa_nil)) (pg_name (i := 5) sc_law_laid.nd rfl (Or.inl rfl)) (pss_cons (ps_set (i := 6) sc_law_laid.nd rfl (Or.inl rfl) (pv 5))
    (pss_consM (ps_if (pt_cmpR op_lt (pv 5) (pe_callB call_len_seq rfl T.b_len PySem.boot_len (pa_cons (pv 1) pa_nil)) (nomark _)) (pss_one (ps_set (i := 6) sc_law_laid.nd rfl (Or.inl rfl) (pe_ix ix_list (pv 1) (pv 5) (fun _ _ => rfl)))) pss_nil)
    (pss_cons (ps_asg (pe_op op_add_str (pe_op op_add_str (pe_op op_add_str (pe_ix ix_list (pv 4) (pe_un un_neg pe_int) (fun _ _ => rfl)) (pe_slice sl_str pe_str po_none (po_some (pe_op op_mod (pv 6) pe_int)))) (pe_ix ix_list (pv 2) (pv 5) (fun _ _ => rfl))) pe_str) (pg_sub (pv 4) (pe_un un_neg pe_int) set_list))
    (pss_one (ps_if (pt_cmpR op_eq (pe_op op_mod (pe_op op_fdiv (pv 6) pe_int) pe_int) pe_int (nomark _)) (pss_one (ps_expr (pe_bm PySem.F.plainAttrs_list PySem.F.slot_list_append PySem.F.type_list_append mt_append (pv 4) (pa_cons pe_str pa_nil)))) pss_nil))))))
    (pss_one (ps_ret (pv 4))))))), ?_⟩
  try dsimp only [kx, kxb]
  have one : (1 : Nat) ≤ sizeLine := by decide
  refine ⟨Nat.zero_le _, fun D hD => ?_⟩
  have S0 := same_new hD (.lst [])
  have eD : upd H D (.lst []) D = some (.lst (List.map V.str [])) := upd_same
  generalize upd H D (.lst []) = H0 at S0 eD
  refine ⟨_, rfl, pr, rfl, ⟨_, SqL.of (S0 _ _ hp)⟩, ?_⟩
  refine for_list (xs := rows.map V.str) (fun i σ' H' => ∃ o l, σ' = [some (.ref pr), some (.ref pc), some (.ref l), o, none, none, none] ∧ Same H H' ∧ H' l = some (.lst (((rows.take i).flatMap wds).map V.str))) ⟨none, D, rfl, S0, eD⟩ (fun i σ H' _ z => by obtain ⟨_, _, _, S, _⟩ := z; exact SqL.of (S _ _ hp)) ?_ ?_
  · rintro i x σ' H' hx ⟨o, l, rfl, S, el⟩
    rw [List.getElem?_map] at hx
    cases hpx : rows[i]? with
    | none => rw [hpx] at hx; cases hx
    | some y =>
      rw [hpx] at hx
      cases hx
      obtain ⟨hy1, hy2⟩ := hrow y (List.mem_of_getElem? hpx)
      have e3 : (rows.take (i + 1)).flatMap wds = (rows.take i).flatMap wds ++ wds y := by rw [List.take_add_one, hpx, List.flatMap_append]; simp
      have hsum : ((rows.take (i + 1)).flatMap wds).length ≤ W.length := by
        have h1 : rows.flatMap wds = (rows.take (i + 1)).flatMap wds ++ (rows.drop (i + 1)).flatMap wds := by rw [← List.flatMap_append, List.take_append_drop]
        rw [← hW, h1, List.length_append]
        omega
      rw [e3, List.length_append] at hsum
      refine ⟨_, rfl, _, rfl, rfl, y, rfl, rfl, by rw [sizeLine_eq]; omega, fun l2 hl2 => ?_⟩
      rw [words_wds hy1]
      have S2 := same_new hl2 (.lst ((wds y).map V.str))
      refine ⟨l, l2, _, _, rfl, rfl, S2 _ _ el, upd_same, by rw [List.length_map, List.length_map, sizeLine_eq]; omega, fun l3 hl3 => ?_⟩
      exact ⟨_, l3, rfl, S.trans (S2.trans (same_new hl3 _)), by rw [upd_same, e3, List.map_append]⟩
  · rintro σ' H1 ⟨o, l, rfl, S1, el⟩
    rw [List.length_map, List.take_length, hW] at el
    refine ⟨one, fun D2 hD2 => ?_⟩
    have S2 := same_new hD2 (.lst [V.str ""])
    have eD2 : upd H1 D2 (.lst [V.str ""]) D2 = some (.lst (List.map V.str ([] ++ [("" : Str)]))) := upd_same
    have el2 := S2 _ _ el
    have fD2 : H D2 = none := by
      cases e : H D2 with
      | none => rfl
      | some z => rw [S1 _ _ e] at hD2; cases hD2
    have nl : l ≠ D2 := ne_of_none el hD2
    have SH2 := S1.trans S2
    generalize upd H1 D2 (.lst [V.str ""]) = H2 at eD2 el2 SH2
    refine ⟨_, rfl, _, _, rfl, .inl (SqL.of el2), _, rfl, by omega, by rw [List.length_map]; omega, ?_⟩
    have hcnt : (((List.map V.str W).length : Nat) : Int).toNat = W.length := by rw [List.length_map]; rfl
    rw [hcnt]
    refine for_range (PLaid H pr pc l D2 W) ⟨o, none, none, [], "", rfl, SH2, el2, eD2, ⟨⟨[], by decide, rfl⟩, Nat.zero_le _, fun r m => (by cases m), Nat.le_refl _⟩⟩ ?_ ?_
    · rintro k σ2 H3 hk ⟨o3, o5, o6, done, cur, rfl, S3, el3, eD3, hL⟩
      have hx : W[k]? = some W[k] := List.getElem?_eq_getElem hk
      obtain ⟨hw1, hw2⟩ := hwd W[k] (List.getElem_mem hk)
      refine ⟨_, rfl, fun σ' H' => (∃ c : Int, σ' = [some (.ref pr), some (.ref pc), some (.ref l), o3, some (.ref D2), some (.int (0 + (k : Int))), some (.int c)]) ∧ H' = H3, ?_, ?_⟩
      · refine ⟨_, rfl, _, rfl, _, _, rfl, .inl (S3.seq hc), _, _, rfl, rfl, _, rfl, ?_⟩
        by_cases hkc : k < cs.length
        · refine iteT' (decide_eq_true (by rw [List.length_map]; omega)) ?_
          exact ⟨_, rfl, _, rfl, pc, _, _, .int cs[k], rfl, rfl, S3.seq hc, by rw [Int.zero_add]; exact atI_nat (by rw [List.getElem?_map, List.getElem?_eq_getElem hkc]; rfl), ⟨_, rfl⟩, rfl⟩
        · exact iteF' (decide_eq_false (by rw [List.length_map]; omega)) ⟨⟨_, rfl⟩, rfl⟩
      · rintro σ3 H4 ⟨⟨c, rfl⟩, rfl⟩
        obtain ⟨hb1, hb2⟩ := bl_slice c
        have hlc := hL.lc
        have hnd := hL.nd
        have hsp : (Str.ofString " ").length = 1 := by decide
        refine ⟨_, rfl, _, rfl, D2, _, _, .str cur, rfl, rfl, SqL.of eD3, by rw [List.map_append]; exact atI_last _ _, _, rfl, _, _, rfl, rfl, (by show (0 : Int) < _; decide), _, rfl, _, rfl, by decide, _, _, rfl, rfl, by rw [sizeLine_eq]; omega, ?_⟩
        refine ⟨_, rfl, _, rfl, l, _, _, .str W[k], rfl, rfl, SqL.of el3, by rw [Int.zero_add]; exact atI_nat (by rw [List.getElem?_map, hx]; rfl), _, _, rfl, rfl, by rw [Str.length_append, sizeLine_eq]; omega, _, _, rfl, rfl, by rw [Str.length_append, Str.length_append, hsp, sizeLine_eq]; omega, ?_⟩
        refine ⟨_, rfl, _, rfl, D2, _, _, done.length, rfl, rfl, eD3, ?_, ?_⟩
        · unfold ixN
          rw [List.length_map, List.length_append]
          show (if (0 : Int) ≤ -1 then _ else if _ then _ else _) = _
          rw [if_neg (by decide), if_pos (by show -(((done.length + 1 : Nat)) : Int) ≤ -1; omega)]
          congr 1
          show (-1 + ((done.length + 1 : Nat) : Int)).toNat = _
          omega
        have hA := hL.add hb1 hb2 hx hw1 hw2
        have eset : (List.map V.str (done ++ [cur])).set done.length (.str (cur ++ Txt.slice "  " none (some (c % 3)) ++ W[k] ++ " ")) = List.map V.str (done ++ [cur ++ Txt.slice "  " none (some (c % 3)) ++ W[k] ++ " "]) := by
          rw [List.map_append, List.map_append, List.set_append_right _ _ (by rw [List.length_map]; omega), List.length_map, Nat.sub_self]
          rfl
        rw [eset]
        generalize cur ++ Txt.slice "  " none (some (c % 3)) ++ W[k] ++ " " = cur2 at hA
        have S4 : Same H (upd H4 D2 (.lst (List.map V.str (done ++ [cur2])))) := Same.at S3 fD2 _
        have el4 : upd H4 D2 (.lst (List.map V.str (done ++ [cur2]))) l = some (.lst (W.map V.str)) := by rw [upd_ne nl]; exact el3
        have eD4 : upd H4 D2 (.lst (List.map V.str (done ++ [cur2]))) D2 = some (.lst (List.map V.str (done ++ [cur2]))) := upd_same
        generalize upd H4 D2 (.lst (List.map V.str (done ++ [cur2]))) = H5 at S4 el4 eD4
        refine ⟨_, rfl, _, _, rfl, rfl, cdiv rfl, _, _, rfl, rfl, (by show (0 : Int) < _; decide), rfl, _, rfl, ?_⟩
        refine ite2 (fun _ => ?_) (fun _ => ⟨_, _, _, done, cur2, rfl, S4, el4, eD4, hA⟩)
        refine ⟨_, rfl, .inl ⟨rfl, _, SqL.of eD4⟩, D2, _, _, rfl, rfl, eD4, by rw [List.length_map, List.length_append, sizeLine_eq]; show done.length + 1 < _; omega, ?_⟩
        refine ⟨_, _, _, done ++ [cur2], "", rfl, Same.at S4 fD2 _, by rw [upd_ne nl]; exact el4, by rw [upd_same, List.map_append (l₁ := done ++ [cur2])]; rfl, hA.row hnd⟩
    · rintro σ2 H3 ⟨o3, o5, o6, done, cur, rfl, S3, el3, eD3, hL⟩
      obtain ⟨wc, e1, e2⟩ := hL.wd
      have hlc := hL.lc
      refine ⟨_, rfl, q D2 (done ++ [cur]) H3 S3 eD3 ?_ fun r m => ?_⟩
      · rw [List.flatMap_append]
        show _ ++ (wds cur ++ []) = _
        rw [List.append_nil, wds_of e1, e2, List.take_length]
      · rcases List.mem_append.mp m with m | m
        · have := hL.ld r m
          omega
        · rw [List.mem_singleton.mp m]; omega
end
end W10

set_option Elab.async false
set_option linter.all false
set_option maxRecDepth 100000
set_option maxHeartbeats 4000000
namespace W10
open PySem L2 J
section
variable {P : Program} {w : World} {K : PySem.W.Frag} {mg : Str → Option Value} {base : Heap}
/-! ### law -/
def spLaw (K : PySem.W.Frag) : Sp := fun vs H Q _ => ∃ (a : Addr) (ns : List Int), vs = [.ref a] ∧ SqL K H a (ns.map V.int) ∧ ns.length ≤ 63 ∧ ∀ H', Q (.bl true) H'
theorem ok_law (T : Txt K mg) : FnOk P w K mg base CX0 140 T.f_law T.fd_law ["_law_script"] (spLaw K) := by
  have G_law_at := (ok_law_at (P := P) (w := w) (base := base) T).mono (show 1 ≤ 139 by omega)
  have G_law_names_of := (ok_law_names_of (P := P) (w := w) (base := base) T).mono (show 1 ≤ 139 by omega)
  have G_law_grown := (ok_law_grown (P := P) (w := w) (base := base) T).mono (show 6 ≤ 139 by omega)
  have G_shown := (ok_shown (P := P) (w := w) (base := base) T).mono (show 95 ≤ 139 by omega)
  have G_law_texts := (ok_law_texts (P := P) (w := w) (base := base) T).mono (show 1 ≤ 139 by omega)
  have G_law_laid := (ok_law_laid (P := P) (w := w) (base := base) T).mono (show 1 ≤ 139 by omega)
  have G_read := (ok_read (P := P) (w := w) (base := base) T).mono (show 107 ≤ 139 by omega)
  have G_law_alike := (ok_law_alike (P := P) (w := w) (base := base) T).mono (show 2 ≤ 139 by omega)
  refine T.law.F.ok sc_law (fun vs H Q E h => ?_) (fun cdv A outer s H vs Q E hr h => ?_)
  · obtain ⟨a, ns, rfl, _⟩ := h; rfl
  obtain ⟨a, sc, rfl, hS, h63, q⟩ := h
  refine ⟨_, (pss_cons (ps_set (i := 1) sc_law.nd rfl (Or.inl rfl) (pe_call G_law_names_of hr rfl T.law_names_of.m T.law_names_of.F.kp T.law_names_of.b .nil pass0 (pa_cons (pe_call G_law_at hr rfl T.law_at.m T.law_at.F.kp T.law_at.b .nil pass0 (pa_cons (pv 0) (pa_cons pe_int pa_nil))) pa_nil)))
    (pss_cons (ps_set (i := 2) sc_law.nd rfl (Or.inl rfl) (pe_call G_law_grown hr rfl T.law_grown.m T.law_grown.F.kp T.law_grown.b .nil pass0 (pa_cons (pe_slice sl_list (pv 0) (po_some pe_int) (po_some pe_int)) (pa_cons (pv 1) (pa_cons (pe_lst pa_nil) pa_nil)))))
    (pss_cons (ps_set (i := 3) sc_law.nd rfl (Or.inl rfl) (pe_call G_shown hr rfl T.shown.m T.shown.F.kp T.shown.b .nil pass0 (pa_cons (pe_call G_law_grown hr rfl T.law_grown.m T.law_grown.F.kp T.law_grown.b .nil pass0 (pa_cons (pe_slice sl_list (pv 0) (po_some pe_int) (po_some pe_int)) (pa_cons (pv 1) (pa_cons (pe_lst pa_nil) pa_nil)))) pa_nil)))
    (pss_cons (ps_if (pt_not (pt_val (pe_call G_law_texts hr rfl T.law_texts.m T.law_texts.F.kp T.law_texts.b .nil pass0 (pa_cons (pv 3) pa_nil)))) (pss_one (ps_ret pe_bl)) pss_nil)
    (pss_cons (ps_set (i := 4) sc_law.nd rfl (Or.inl rfl) (pe_callTy call_list_of rfl T.b_list bt_list (pa_cons (pv 3) pa_nil)))
    (pss_cons (ps_set (i := 5) sc_law.nd rfl (Or.inl rfl) (pe_call G_read hr rfl T.read.m T.read.F.kp T.read.b .nil pass0 (pa_cons (pv 4) pa_nil)))
    (pss_cons (ps_if (PW.pt (pw_or (pt_not (pt_val (pe_call G_law_alike hr rfl T.law_alike.m T.law_alike.F.kp T.law_alike.b .nil pass0 (pa_cons (pv 5) (pa_cons (pv 2) pa_nil))))) (pw_or1 (pt_not (pt_val (pe_call G_law_alike hr rfl T.law_alike.m T.law_alike.F.kp T.law_alike.b .nil pass0 (pa_cons (pv 4) (pa_cons (pv 3) pa_nil)))))))) (pss_one (ps_ret pe_bl)) pss_nil)
    (pss_one (ps_ret (pe_call G_law_alike hr rfl T.law_alike.m T.law_alike.F.kp T.law_alike.b .nil pass0 (pa_cons (pe_call G_read hr rfl T.read.m T.read.F.kp T.read.b .nil pass0 (pa_cons (pe_call G_law_laid hr rfl T.law_laid.m T.law_laid.F.kp T.law_laid.b .nil pass0 (pa_cons (pv 3) (pa_cons (pe_slice sl_list (pv 0) (po_some pe_int) (po_some pe_int)) pa_nil))) pa_nil)) (pa_cons (pv 2) pa_nil)))))))))))), ?_⟩
  try dsimp only [kx, kxb]
  refine ⟨_, rfl, a, sc, 0, rfl, hS, h63, ?_⟩
  refine ⟨_, rfl, fun p1 ns H1 S1 f1 e1 hok => ?_⟩
  obtain ⟨cs, ecs, hcs⟩ := cutV_ints sc (some 1) (some 81)
  have hi := hok.len
  have hln := hok.sm
  -- the program is grown
  refine ⟨_, rfl, _, rfl, _, rfl, _, _, rfl, S1.seq hS, fun pc fpc => ?_⟩
  have S3 : Same H1 (upd H1 pc (.lst (cutV (sc.map V.int) (some 1) (some 81)))) := same_new fpc _
  have ec : upd H1 pc (.lst (cutV (sc.map V.int) (some 1) (some 81))) pc = some (.lst (cs.map V.int)) := by rw [upd_same, ecs]
  generalize upd H1 pc (.lst (cutV (sc.map V.int) (some 1) (some 81))) = H3 at S3 ec
  refine ⟨_, rfl, Nat.zero_le _, fun pm hpm => ?_⟩
  have S4 := same_new hpm (.lst [])
  have em : upd H3 pm (.lst []) pm = some (.lst (([] : List Str).map V.str)) := upd_same
  have ec4 := S4 _ _ ec
  have S34 := S3.trans S4
  generalize upd H3 pm (.lst []) = H4 at S34 em ec4
  refine ⟨pc, p1, pm, cs, ns, [], rfl, SqL.of ec4, by omega, S34 _ _ e1, hi, em, by simp, fun r pn pb ws H5 S5 er epn epb hB => ?_⟩
  have S15 := S34.trans S5
  have hgd := grown_dp (cells := cs) (names := ns) (more := [])
  have hgn := grown_n (cells := cs) (more := []) hi
  have hgf := grown_fit (cells := cs) (more := []) hln (by simp)
  have hgm := grown_nms' (cells := cs) hok
  have hak := ak_le hgf
  -- and once more, to be shown
  refine ⟨_, rfl, _, rfl, _, rfl, _, _, rfl, (S1.trans S15).seq hS, fun pc2 fpc2 => ?_⟩
  have S6 : Same H5 (upd H5 pc2 (.lst (cutV (sc.map V.int) (some 1) (some 81)))) := same_new fpc2 _
  have ec2 : upd H5 pc2 (.lst (cutV (sc.map V.int) (some 1) (some 81))) pc2 = some (.lst (cs.map V.int)) := by rw [upd_same, ecs]
  generalize upd H5 pc2 (.lst (cutV (sc.map V.int) (some 1) (some 81))) = H6 at S6 ec2
  refine ⟨_, rfl, Nat.zero_le _, fun pm2 hpm2 => ?_⟩
  have S7 := same_new hpm2 (.lst [])
  have em2 : upd H6 pm2 (.lst []) pm2 = some (.lst (([] : List Str).map V.str)) := upd_same
  have ec7 := S7 _ _ ec2
  have S57 := S6.trans S7
  generalize upd H6 pm2 (.lst []) = H7 at S57 em2 ec7
  refine ⟨pc2, p1, pm2, cs, ns, [], rfl, SqL.of ec7, by omega, (S15.trans S57) _ _ e1, hi, em2, by simp, fun r2 pn2 pb2 ws2 H8 S8 er2 epn2 epb2 hB2 => ?_⟩
  have S58 := S57.trans S8
  generalize hb : grownF cs ns [] = b at hB hB2 hgd hgn hgf hgm hak
  refine ⟨r2, pn2, pb2, ns, ws2, b, rfl, er2, epn2, ⟨by omega, hln⟩, epb2, hB2, by omega, hgf, by omega, fun pr H9 S9 er9 => ?_⟩
  obtain ⟨hw1, hw2⟩ := shown_wds (b := b) hok.nm hgm
  have hrows : ∀ x ∈ rowT "" (("jars" : Str) :: ns) :: b.rows "", x.length ≤ 1000000 := by
    have h0 : (Str.ofString "").length = 0 := by decide
    have f : Fits 100 10 (("jars" : Str) :: ns) := (show Fits 100 9 ns from ⟨hi, hln⟩).cons (by decide)
    have h1 := row_sz (l := "") f (by decide)
    refine cons2 (P := fun x : Str => x.length ≤ 1000000) (by omega) fun x m => ?_
    have := rows_sz hgf x m
    omega
  have er9' : H9 pr = some (.lst ((rowT "" (("jars" : Str) :: ns) :: b.rows "").map V.str)) := by
    rw [er9]
    congr 3
    show _ = (Str.ofString "" ++ _) :: _
    rw [show (Str.ofString "") = Str.empty from by decide, Str.empty_append]
  clear er9
  obtain ⟨hwl, hws⟩ := ws_len hgf
  have hwlen : (("jars" : Str) :: (ns ++ b.ws)).length ≤ 70000 := by
    rw [List.length_cons, List.length_append]
    omega
  have hbg := Bk.gd_of hgm hgf
  have hrl := b.rows_len ""
  have hrn : (rowT "" (("jars" : Str) :: ns) :: b.rows "").length ≤ 1000 := by rw [List.length_cons]; omega
  generalize hrr : rowT "" (("jars" : Str) :: ns) :: b.rows "" = rows at er9' hw1 hw2 hrows hrn
  refine ⟨_, rfl, pr, rows, rfl, er9', _, rfl, iteF' rfl ?_⟩
  -- handed, found
  refine ⟨_, rfl, pr, _, rfl, .inl (SqL.of er9'), fun ph hph => ?_⟩
  have S10 := same_new hph (.lst (rows.map V.str))
  have eh : upd H9 ph (.lst (rows.map V.str)) ph = some (.lst (rows.map V.str)) := upd_same
  have er10 := S10 _ _ er9'
  have S5x : Same H5 (upd H9 ph (.lst (rows.map V.str))) := S58.trans (S9.trans S10)
  generalize upd H9 ph (.lst (rows.map V.str)) = H10 at S5x eh er10
  refine ⟨_, rfl, ph, rows, ns, b, rfl, eh, fun x m => Nat.le_trans (hrows x m) (by decide), hw1, by rw [hw1]; omega, hok.nm, hok.nd, by omega, hbg, by omega, by omega, fun t vn vb us H11 S11 et evn evb hBf => ?_⟩
  have S5y := S5x.trans S11
  obtain ⟨n1, hn1, al1⟩ := bk_alk (K := K) hBf (hB.same S5y)
  have er11 := S11 _ _ er10
  have eh11 := S11 _ _ eh
  refine ⟨_, rfl, _, rfl, _, _, _, rfl, .tup (.inl et) (.inl (S5y _ _ er)) (.lst evn (S5y _ _ epn) (AlkL.strs ns) (.lst evb (S5y _ _ epb) al1 .nil)) .nil, by omega, fun H12 S12 => ⟨_, rfl, iteF' rfl ?_⟩⟩
  have hdn : (List.map V.str rows).length ≤ 1000 := by rw [List.length_map]; exact hrn
  refine ⟨_, rfl, _, rfl, _, _, _, rfl, .lst (S12 _ _ eh11) (S12 _ _ er11) (AlkL.strs rows) .nil, by omega, fun H13 S13 => ⟨_, rfl, iteF' rfl ?_⟩⟩
  have S5z := S5y.trans (S12.trans S13)
  have er13 := S13 _ _ (S12 _ _ er11)
  -- laid on other rows
  refine ⟨_, rfl, _, rfl, _, rfl, _, rfl, _, _, rfl, (S1.trans (S15.trans S5z)).seq hS, fun pc3 fpc3 => ?_⟩
  have S14 : Same H13 (upd H13 pc3 (.lst (cutV (sc.map V.int) (some 1) (some 81)))) := same_new fpc3 _
  have ec3 : upd H13 pc3 (.lst (cutV (sc.map V.int) (some 1) (some 81))) pc3 = some (.lst (cs.map V.int)) := by rw [upd_same, ecs]
  generalize upd H13 pc3 (.lst (cutV (sc.map V.int) (some 1) (some 81))) = H14 at S14 ec3
  have hwW : ∀ x ∈ ("jars" : Str) :: (ns ++ b.ws), Wd x ∧ x.length ≤ 100 := by
    refine cons2 (P := fun x : Str => Wd x ∧ x.length ≤ 100) ⟨kept_wd (by decide +kernel), by decide⟩ fun x m => ?_
    rcases List.mem_append.mp m with m | m
    · exact ⟨nm_wd (hok.nm x m), hln x m⟩
    · exact ⟨Bk.ws_wd hgm x m, hws x m⟩
  refine ⟨pr, pc3, rows, _, cs, rfl, S14 _ _ er13, SqL.of ec3, fun x m => ⟨hw2 x m, hrows x m⟩, hw1, hwW, by omega, fun pl ms H15 S15' el hms hml => ?_⟩
  refine ⟨pl, ms, ns, b, rfl, el, hml, hms, by rw [hms]; omega, hok.nm, hok.nd, by omega, hbg, by omega, by omega, fun t2 vn2 vb2 us2 H16 S16 et2 evn2 evb2 hBf2 => ?_⟩
  have S5w := S5z.trans (S14.trans (S15'.trans S16))
  obtain ⟨n2, hn2, al2⟩ := bk_alk (K := K) hBf2 (hB.same S5w)
  exact ⟨_, rfl, _, _, _, rfl, .tup (.inl et2) (.inl (S5w _ _ er)) (.lst evn2 (S5w _ _ epn) (AlkL.strs ns) (.lst evb2 (S5w _ _ epb) al2 .nil)) .nil, by omega, fun H17 S17 => q _⟩
end
end W10

set_option Elab.async false
set_option linter.all false
set_option maxRecDepth 100000
set_option maxHeartbeats 4000000
namespace W10
open PySem L2 J
theorem txt_mk {K : PySem.W.Frag} {h : Heap} {mg : Str → Option Value} (X : K.In h) (G : h.Ns mainGlobals mg)
    {cReader : Addr}
    {f1 : Addr} {od1 an1 : Option Addr} {sl1 : Array (Option Value)} {oc1 kV1 dc1 pm1 cd1 ct1 : Value}
    {f2 : Addr} {od2 an2 : Option Addr} {sl2 : Array (Option Value)} {oc2 kV2 dc2 pm2 cd2 ct2 : Value}
    {f3 : Addr} {od3 an3 : Option Addr} {sl3 : Array (Option Value)} {oc3 kV3 dc3 pm3 cd3 ct3 : Value}
    {f4 : Addr} {od4 an4 : Option Addr} {sl4 : Array (Option Value)} {oc4 kV4 dc4 pm4 cd4 ct4 : Value}
    {f5 : Addr} {od5 an5 : Option Addr} {sl5 : Array (Option Value)} {oc5 kV5 dc5 pm5 cd5 ct5 : Value}
    {f6 : Addr} {od6 an6 : Option Addr} {sl6 : Array (Option Value)} {oc6 kV6 dc6 pm6 cd6 ct6 : Value}
    {f7 : Addr} {od7 an7 : Option Addr} {sl7 : Array (Option Value)} {oc7 kV7 dc7 pm7 cd7 ct7 : Value}
    {f8 : Addr} {od8 an8 : Option Addr} {sl8 : Array (Option Value)} {oc8 kV8 dc8 pm8 cd8 ct8 : Value}
    {f9 : Addr} {od9 an9 : Option Addr} {sl9 : Array (Option Value)} {oc9 kV9 dc9 pm9 cd9 ct9 : Value}
    {f10 : Addr} {od10 an10 : Option Addr} {sl10 : Array (Option Value)} {oc10 kV10 dc10 pm10 cd10 ct10 : Value}
    {f11 : Addr} {od11 an11 : Option Addr} {sl11 : Array (Option Value)} {oc11 kV11 dc11 pm11 cd11 ct11 : Value}
    {f12 : Addr} {od12 an12 : Option Addr} {sl12 : Array (Option Value)} {oc12 kV12 dc12 pm12 cd12 ct12 : Value}
    {f13 : Addr} {od13 an13 : Option Addr} {sl13 : Array (Option Value)} {oc13 kV13 dc13 pm13 cd13 ct13 : Value}
    {f14 : Addr} {od14 an14 : Option Addr} {sl14 : Array (Option Value)} {oc14 kV14 dc14 pm14 cd14 ct14 : Value}
    {f15 : Addr} {od15 an15 : Option Addr} {sl15 : Array (Option Value)} {oc15 kV15 dc15 pm15 cd15 ct15 : Value}
    {f16 : Addr} {od16 an16 : Option Addr} {sl16 : Array (Option Value)} {oc16 kV16 dc16 pm16 cd16 ct16 : Value}
    {f17 : Addr} {od17 an17 : Option Addr} {sl17 : Array (Option Value)} {oc17 kV17 dc17 pm17 cd17 ct17 : Value}
    {f18 : Addr} {od18 an18 : Option Addr} {sl18 : Array (Option Value)} {oc18 kV18 dc18 pm18 cd18 ct18 : Value}
    {f19 : Addr} {od19 an19 : Option Addr} {sl19 : Array (Option Value)} {oc19 kV19 dc19 pm19 cd19 ct19 : Value}
    {f20 : Addr} {od20 an20 : Option Addr} {sl20 : Array (Option Value)} {oc20 kV20 dc20 pm20 cd20 ct20 : Value}
    {f21 : Addr} {od21 an21 : Option Addr} {sl21 : Array (Option Value)} {oc21 kV21 dc21 pm21 cd21 ct21 : Value}
    {f22 : Addr} {od22 an22 : Option Addr} {sl22 : Array (Option Value)} {oc22 kV22 dc22 pm22 cd22 ct22 : Value}
    {f23 : Addr} {od23 an23 : Option Addr} {sl23 : Array (Option Value)} {oc23 kV23 dc23 pm23 cd23 ct23 : Value}
    {f24 : Addr} {od24 an24 : Option Addr} {sl24 : Array (Option Value)} {oc24 kV24 dc24 pm24 cd24 ct24 : Value}
    {f25 : Addr} {od25 an25 : Option Addr} {sl25 : Array (Option Value)} {oc25 kV25 dc25 pm25 cd25 ct25 : Value}
    {f26 : Addr} {od26 an26 : Option Addr} {sl26 : Array (Option Value)} {oc26 kV26 dc26 pm26 cd26 ct26 : Value}
    {f27 : Addr} {od27 an27 : Option Addr} {sl27 : Array (Option Value)} {oc27 kV27 dc27 pm27 cd27 ct27 : Value}
    {f28 : Addr} {od28 an28 : Option Addr} {sl28 : Array (Option Value)} {oc28 kV28 dc28 pm28 cd28 ct28 : Value}
    {f29 : Addr} {od29 an29 : Option Addr} {sl29 : Array (Option Value)} {oc29 kV29 dc29 pm29 cd29 ct29 : Value}
    {f30 : Addr} {od30 an30 : Option Addr} {sl30 : Array (Option Value)} {oc30 kV30 dc30 pm30 cd30 ct30 : Value}
    {f31 : Addr} {od31 an31 : Option Addr} {sl31 : Array (Option Value)} {oc31 kV31 dc31 pm31 cd31 ct31 : Value}
    {f32 : Addr} {od32 an32 : Option Addr} {sl32 : Array (Option Value)} {oc32 kV32 dc32 pm32 cd32 ct32 : Value}
    {f33 : Addr} {od33 an33 : Option Addr} {sl33 : Array (Option Value)} {oc33 kV33 dc33 pm33 cd33 ct33 : Value}
    (aCReader : PySem.W.nsIn K mainGlobals "Reader" = some (some (.ref cReader))) (pgReader : PySem.W.plainGet K cReader Str.empty = true) (hdReader : PySem.W.hasDictIn K cReader = true) (poReader : PySem.W.plainOver K cReader = true) (saReader : PySem.W.findIn K (.ref cReader) "__setattr__" = some (some (.builtin "object.__setattr__"))) (mkReader : PySem.W.makesIn K cReader = true) (kcReader : PySem.W.keepIn K (.ref cReader) = true)
    (naReader_words : PySem.W.findIn K (.ref cReader) "words" = some none)
    (naReader_place : PySem.W.findIn K (.ref cReader) "place" = some none)
    (a1 : PySem.W.nsIn K mainGlobals "number_text" = some (some (.ref f1))) (l1 : K.lookup f1 = some ⟨oc1, od1, .func (PySem.W.fnOf "number_text" "number_text" (defArgs s_number_text) (defBody s_number_text) (defScope s_number_text) .none kV1 dc1 pm1 an1 cd1 ct1), sl1⟩) (c1 : PySem.W.codeIn K cd1 "number_text" = true) (k1 : PySem.W.keepIn K (.ref f1) = true)
    (a2 : PySem.W.nsIn K mainGlobals "part_words" = some (some (.ref f2))) (l2 : K.lookup f2 = some ⟨oc2, od2, .func (PySem.W.fnOf "part_words" "part_words" (defArgs s_part_words) (defBody s_part_words) (defScope s_part_words) .none kV2 dc2 pm2 an2 cd2 ct2), sl2⟩) (c2 : PySem.W.codeIn K cd2 "part_words" = true) (k2 : PySem.W.keepIn K (.ref f2) = true)
    (a3 : PySem.W.nsIn K mainGlobals "head_words" = some (some (.ref f3))) (l3 : K.lookup f3 = some ⟨oc3, od3, .func (PySem.W.fnOf "head_words" "head_words" (defArgs s_head_words) (defBody s_head_words) (defScope s_head_words) .none kV3 dc3 pm3 an3 cd3 ct3), sl3⟩) (c3 : PySem.W.codeIn K cd3 "head_words" = true) (k3 : PySem.W.keepIn K (.ref f3) = true)
    (a4 : PySem.W.nsIn K mainGlobals "block_rows" = some (some (.ref f4))) (l4 : K.lookup f4 = some ⟨oc4, od4, .func (PySem.W.fnOf "block_rows" "block_rows" (defArgs s_block_rows) (defBody s_block_rows) (defScope s_block_rows) .none kV4 dc4 pm4 an4 cd4 ct4), sl4⟩) (c4 : PySem.W.codeIn K cd4 "block_rows" = true) (k4 : PySem.W.keepIn K (.ref f4) = true)
    (a5 : PySem.W.nsIn K mainGlobals "shown" = some (some (.ref f5))) (l5 : K.lookup f5 = some ⟨oc5, od5, .func (PySem.W.fnOf "shown" "shown" (defArgs s_shown) (defBody s_shown) (defScope s_shown) .none kV5 dc5 pm5 an5 cd5 ct5), sl5⟩) (c5 : PySem.W.codeIn K cd5 "shown" = true) (k5 : PySem.W.keepIn K (.ref f5) = true)
    (a6 : PySem.W.nsIn K mainGlobals "only_of" = some (some (.ref f6))) (l6 : K.lookup f6 = some ⟨oc6, od6, .func (PySem.W.fnOf "only_of" "only_of" (defArgs s_only_of) (defBody s_only_of) (defScope s_only_of) .none kV6 dc6 pm6 an6 cd6 ct6), sl6⟩) (c6 : PySem.W.codeIn K cd6 "only_of" = true) (k6 : PySem.W.keepIn K (.ref f6) = true)
    (a7 : PySem.W.nsIn K mainGlobals "is_name" = some (some (.ref f7))) (l7 : K.lookup f7 = some ⟨oc7, od7, .func (PySem.W.fnOf "is_name" "is_name" (defArgs s_is_name) (defBody s_is_name) (defScope s_is_name) .none kV7 dc7 pm7 an7 cd7 ct7), sl7⟩) (c7 : PySem.W.codeIn K cd7 "is_name" = true) (k7 : PySem.W.keepIn K (.ref f7) = true)
    (a8 : PySem.W.nsIn K mainGlobals "is_number" = some (some (.ref f8))) (l8 : K.lookup f8 = some ⟨oc8, od8, .func (PySem.W.fnOf "is_number" "is_number" (defArgs s_is_number) (defBody s_is_number) (defScope s_is_number) .none kV8 dc8 pm8 an8 cd8 ct8), sl8⟩) (c8 : PySem.W.codeIn K cd8 "is_number" = true) (k8 : PySem.W.keepIn K (.ref f8) = true)
    (a9 : PySem.W.nsIn K mainGlobals "number_of" = some (some (.ref f9))) (l9 : K.lookup f9 = some ⟨oc9, od9, .func (PySem.W.fnOf "number_of" "number_of" (defArgs s_number_of) (defBody s_number_of) (defScope s_number_of) .none kV9 dc9 pm9 an9 cd9 ct9), sl9⟩) (c9 : PySem.W.codeIn K cd9 "number_of" = true) (k9 : PySem.W.keepIn K (.ref f9) = true)
    (a10 : PySem.W.findIn K (.ref cReader) "__init__" = some (some (.ref f10))) (i10 : PySem.W.isFn K (.ref f10) = true) (l10 : K.lookup f10 = some ⟨oc10, od10, .func (PySem.W.fnOf "__init__" "Reader.__init__" (defArgs s_Reader_init) (defBody s_Reader_init) (defScope s_Reader_init) .none kV10 dc10 pm10 an10 cd10 ct10), sl10⟩) (c10 : PySem.W.codeIn K cd10 "Reader.__init__" = true) (k10 : PySem.W.keepIn K (.ref f10) = true)
    (a11 : PySem.W.findIn K (.ref cReader) "coming" = some (some (.ref f11))) (i11 : PySem.W.isFn K (.ref f11) = true) (l11 : K.lookup f11 = some ⟨oc11, od11, .func (PySem.W.fnOf "coming" "Reader.coming" (defArgs s_Reader_coming) (defBody s_Reader_coming) (defScope s_Reader_coming) .none kV11 dc11 pm11 an11 cd11 ct11), sl11⟩) (c11 : PySem.W.codeIn K cd11 "Reader.coming" = true) (k11 : PySem.W.keepIn K (.ref f11) = true)
    (a12 : PySem.W.findIn K (.ref cReader) "taken" = some (some (.ref f12))) (i12 : PySem.W.isFn K (.ref f12) = true) (l12 : K.lookup f12 = some ⟨oc12, od12, .func (PySem.W.fnOf "taken" "Reader.taken" (defArgs s_Reader_taken) (defBody s_Reader_taken) (defScope s_Reader_taken) .none kV12 dc12 pm12 an12 cd12 ct12), sl12⟩) (c12 : PySem.W.codeIn K cd12 "Reader.taken" = true) (k12 : PySem.W.keepIn K (.ref f12) = true)
    (a13 : PySem.W.findIn K (.ref cReader) "need" = some (some (.ref f13))) (i13 : PySem.W.isFn K (.ref f13) = true) (l13 : K.lookup f13 = some ⟨oc13, od13, .func (PySem.W.fnOf "need" "Reader.need" (defArgs s_Reader_need) (defBody s_Reader_need) (defScope s_Reader_need) .none kV13 dc13 pm13 an13 cd13 ct13), sl13⟩) (c13 : PySem.W.codeIn K cd13 "Reader.need" = true) (k13 : PySem.W.keepIn K (.ref f13) = true)
    (a14 : PySem.W.findIn K (.ref cReader) "read_name" = some (some (.ref f14))) (i14 : PySem.W.isFn K (.ref f14) = true) (l14 : K.lookup f14 = some ⟨oc14, od14, .func (PySem.W.fnOf "read_name" "Reader.read_name" (defArgs s_Reader_read_name) (defBody s_Reader_read_name) (defScope s_Reader_read_name) .none kV14 dc14 pm14 an14 cd14 ct14), sl14⟩) (c14 : PySem.W.codeIn K cd14 "Reader.read_name" = true) (k14 : PySem.W.keepIn K (.ref f14) = true)
    (a15 : PySem.W.findIn K (.ref cReader) "read_names" = some (some (.ref f15))) (i15 : PySem.W.isFn K (.ref f15) = true) (l15 : K.lookup f15 = some ⟨oc15, od15, .func (PySem.W.fnOf "read_names" "Reader.read_names" (defArgs s_Reader_read_names) (defBody s_Reader_read_names) (defScope s_Reader_read_names) .none kV15 dc15 pm15 an15 cd15 ct15), sl15⟩) (c15 : PySem.W.codeIn K cd15 "Reader.read_names" = true) (k15 : PySem.W.keepIn K (.ref f15) = true)
    (a16 : PySem.W.findIn K (.ref cReader) "read_sum" = some (some (.ref f16))) (i16 : PySem.W.isFn K (.ref f16) = true) (l16 : K.lookup f16 = some ⟨oc16, od16, .func (PySem.W.fnOf "read_sum" "Reader.read_sum" (defArgs s_Reader_read_sum) (defBody s_Reader_read_sum) (defScope s_Reader_read_sum) .none kV16 dc16 pm16 an16 cd16 ct16), sl16⟩) (c16 : PySem.W.codeIn K cd16 "Reader.read_sum" = true) (k16 : PySem.W.keepIn K (.ref f16) = true)
    (a17 : PySem.W.findIn K (.ref cReader) "read_test" = some (some (.ref f17))) (i17 : PySem.W.isFn K (.ref f17) = true) (l17 : K.lookup f17 = some ⟨oc17, od17, .func (PySem.W.fnOf "read_test" "Reader.read_test" (defArgs s_Reader_read_test) (defBody s_Reader_read_test) (defScope s_Reader_read_test) .none kV17 dc17 pm17 an17 cd17 ct17), sl17⟩) (c17 : PySem.W.codeIn K cd17 "Reader.read_test" = true) (k17 : PySem.W.keepIn K (.ref f17) = true)
    (a18 : PySem.W.findIn K (.ref cReader) "read_block" = some (some (.ref f18))) (i18 : PySem.W.isFn K (.ref f18) = true) (l18 : K.lookup f18 = some ⟨oc18, od18, .func (PySem.W.fnOf "read_block" "Reader.read_block" (defArgs s_Reader_read_block) (defBody s_Reader_read_block) (defScope s_Reader_read_block) .none kV18 dc18 pm18 an18 cd18 ct18), sl18⟩) (c18 : PySem.W.codeIn K cd18 "Reader.read_block" = true) (k18 : PySem.W.keepIn K (.ref f18) = true)
    (a19 : PySem.W.nsIn K mainGlobals "read" = some (some (.ref f19))) (l19 : K.lookup f19 = some ⟨oc19, od19, .func (PySem.W.fnOf "read" "read" (defArgs s_read) (defBody s_read) (defScope s_read) .none kV19 dc19 pm19 an19 cd19 ct19), sl19⟩) (c19 : PySem.W.codeIn K cd19 "read" = true) (k19 : PySem.W.keepIn K (.ref f19) = true)
    (a20 : PySem.W.nsIn K mainGlobals "_law_draw" = some (some (.ref f20))) (l20 : K.lookup f20 = some ⟨oc20, od20, .func (PySem.W.fnOf "_law_draw" "_law_draw" (defArgs s_law_draw) (defBody s_law_draw) (defScope s_law_draw) .none kV20 dc20 pm20 an20 cd20 ct20), sl20⟩) (c20 : PySem.W.codeIn K cd20 "_law_draw" = true) (k20 : PySem.W.keepIn K (.ref f20) = true)
    (a21 : PySem.W.nsIn K mainGlobals "_law_whole" = some (some (.ref f21))) (l21 : K.lookup f21 = some ⟨oc21, od21, .func (PySem.W.fnOf "_law_whole" "_law_whole" (defArgs s_law_whole) (defBody s_law_whole) (defScope s_law_whole) .none kV21 dc21 pm21 an21 cd21 ct21), sl21⟩) (c21 : PySem.W.codeIn K cd21 "_law_whole" = true) (k21 : PySem.W.keepIn K (.ref f21) = true)
    (a22 : PySem.W.nsIn K mainGlobals "_law_at" = some (some (.ref f22))) (l22 : K.lookup f22 = some ⟨oc22, od22, .func (PySem.W.fnOf "_law_at" "_law_at" (defArgs s_law_at) (defBody s_law_at) (defScope s_law_at) .none kV22 dc22 pm22 an22 cd22 ct22), sl22⟩) (c22 : PySem.W.codeIn K cd22 "_law_at" = true) (k22 : PySem.W.keepIn K (.ref f22) = true)
    (a23 : PySem.W.nsIn K mainGlobals "_law_alike" = some (some (.ref f23))) (l23 : K.lookup f23 = some ⟨oc23, od23, .func (PySem.W.fnOf "_law_alike" "_law_alike" (defArgs s_law_alike) (defBody s_law_alike) (defScope s_law_alike) .none kV23 dc23 pm23 an23 cd23 ct23), sl23⟩) (c23 : PySem.W.codeIn K cd23 "_law_alike" = true) (k23 : PySem.W.keepIn K (.ref f23) = true)
    (a24 : PySem.W.nsIn K mainGlobals "_law_leaf" = some (some (.ref f24))) (l24 : K.lookup f24 = some ⟨oc24, od24, .func (PySem.W.fnOf "_law_leaf" "_law_leaf" (defArgs s_law_leaf) (defBody s_law_leaf) (defScope s_law_leaf) .none kV24 dc24 pm24 an24 cd24 ct24), sl24⟩) (c24 : PySem.W.codeIn K cd24 "_law_leaf" = true) (k24 : PySem.W.keepIn K (.ref f24) = true)
    (a25 : PySem.W.nsIn K mainGlobals "_law_sum_of" = some (some (.ref f25))) (l25 : K.lookup f25 = some ⟨oc25, od25, .func (PySem.W.fnOf "_law_sum_of" "_law_sum_of" (defArgs s_law_sum_of) (defBody s_law_sum_of) (defScope s_law_sum_of) .none kV25 dc25 pm25 an25 cd25 ct25), sl25⟩) (c25 : PySem.W.codeIn K cd25 "_law_sum_of" = true) (k25 : PySem.W.keepIn K (.ref f25) = true)
    (a26 : PySem.W.nsIn K mainGlobals "_law_test_of" = some (some (.ref f26))) (l26 : K.lookup f26 = some ⟨oc26, od26, .func (PySem.W.fnOf "_law_test_of" "_law_test_of" (defArgs s_law_test_of) (defBody s_law_test_of) (defScope s_law_test_of) .none kV26 dc26 pm26 an26 cd26 ct26), sl26⟩) (c26 : PySem.W.codeIn K cd26 "_law_test_of" = true) (k26 : PySem.W.keepIn K (.ref f26) = true)
    (a27 : PySem.W.nsIn K mainGlobals "_law_head_of" = some (some (.ref f27))) (l27 : K.lookup f27 = some ⟨oc27, od27, .func (PySem.W.fnOf "_law_head_of" "_law_head_of" (defArgs s_law_head_of) (defBody s_law_head_of) (defScope s_law_head_of) .none kV27 dc27 pm27 an27 cd27 ct27), sl27⟩) (c27 : PySem.W.codeIn K cd27 "_law_head_of" = true) (k27 : PySem.W.keepIn K (.ref f27) = true)
    (a28 : PySem.W.nsIn K mainGlobals "_law_close" = some (some (.ref f28))) (l28 : K.lookup f28 = some ⟨oc28, od28, .func (PySem.W.fnOf "_law_close" "_law_close" (defArgs s_law_close) (defBody s_law_close) (defScope s_law_close) .none kV28 dc28 pm28 an28 cd28 ct28), sl28⟩) (c28 : PySem.W.codeIn K cd28 "_law_close" = true) (k28 : PySem.W.keepIn K (.ref f28) = true)
    (a29 : PySem.W.nsIn K mainGlobals "_law_grown" = some (some (.ref f29))) (l29 : K.lookup f29 = some ⟨oc29, od29, .func (PySem.W.fnOf "_law_grown" "_law_grown" (defArgs s_law_grown) (defBody s_law_grown) (defScope s_law_grown) .none kV29 dc29 pm29 an29 cd29 ct29), sl29⟩) (c29 : PySem.W.codeIn K cd29 "_law_grown" = true) (k29 : PySem.W.keepIn K (.ref f29) = true)
    (a30 : PySem.W.nsIn K mainGlobals "_law_names_of" = some (some (.ref f30))) (l30 : K.lookup f30 = some ⟨oc30, od30, .func (PySem.W.fnOf "_law_names_of" "_law_names_of" (defArgs s_law_names_of) (defBody s_law_names_of) (defScope s_law_names_of) .none kV30 dc30 pm30 an30 cd30 ct30), sl30⟩) (c30 : PySem.W.codeIn K cd30 "_law_names_of" = true) (k30 : PySem.W.keepIn K (.ref f30) = true)
    (a31 : PySem.W.nsIn K mainGlobals "_law_texts" = some (some (.ref f31))) (l31 : K.lookup f31 = some ⟨oc31, od31, .func (PySem.W.fnOf "_law_texts" "_law_texts" (defArgs s_law_texts) (defBody s_law_texts) (defScope s_law_texts) .none kV31 dc31 pm31 an31 cd31 ct31), sl31⟩) (c31 : PySem.W.codeIn K cd31 "_law_texts" = true) (k31 : PySem.W.keepIn K (.ref f31) = true)
    (a32 : PySem.W.nsIn K mainGlobals "_law_laid" = some (some (.ref f32))) (l32 : K.lookup f32 = some ⟨oc32, od32, .func (PySem.W.fnOf "_law_laid" "_law_laid" (defArgs s_law_laid) (defBody s_law_laid) (defScope s_law_laid) .none kV32 dc32 pm32 an32 cd32 ct32), sl32⟩) (c32 : PySem.W.codeIn K cd32 "_law_laid" = true) (k32 : PySem.W.keepIn K (.ref f32) = true)
    (a33 : PySem.W.nsIn K mainGlobals "law" = some (some (.ref f33))) (l33 : K.lookup f33 = some ⟨oc33, od33, .func (PySem.W.fnOf "law" "law" (defArgs s_law) (defBody s_law) (defScope s_law) .none kV33 dc33 pm33 an33 cd33 ct33), sl33⟩) (c33 : PySem.W.codeIn K cd33 "law" = true) (k33 : PySem.W.keepIn K (.ref f33) = true)
    (z1 : PySem.W.nsIn K mainGlobals "len" = some none) (z2 : PySem.W.nsIn K mainGlobals "range" = some none) (z3 : PySem.W.nsIn K mainGlobals "isinstance" = some none) (z4 : PySem.W.nsIn K mainGlobals "list" = some none) (z5 : PySem.W.nsIn K mainGlobals "tuple" = some none) (z6 : PySem.W.nsIn K mainGlobals "str" = some none) (z7 : PySem.W.nsIn K mainGlobals "int" = some none) (z8 : PySem.W.nsIn K mainGlobals "bool" = some none) (z9 : PySem.W.nsIn K mainGlobals "abs" = some none) (z10 : PySem.W.nsIn K mainGlobals "reversed" = some none) {gn0 : Addr} {gd0 : Option Addr} {gt0_0 gt0_1 gt0_2 gt0_3 gt0_4 : Tok} {gc0 : Nat} {gs0 : Array (Option Value)} (zg0 : PySem.W.nsIn K mainGlobals "ORDER_WORDS" = some (some (.ref gn0))) (zl0 : K.lookup gn0 = some ⟨.type "tuple", gd0, .seq #[.str "set" gt0_0, .str "say" gt0_1, .str "when" gt0_2, .str "while" gt0_3, .str "with" gt0_4] gc0, gs0⟩) {gn1 : Addr} {gd1 : Option Addr} {gt1_0 gt1_1 gt1_2 : Tok} {gc1 : Nat} {gs1 : Array (Option Value)} (zg1 : PySem.W.nsIn K mainGlobals "SUM_WORDS" = some (some (.ref gn1))) (zl1 : K.lookup gn1 = some ⟨.type "tuple", gd1, .seq #[.str "add" gt1_0, .str "sub" gt1_1, .str "mul" gt1_2] gc1, gs1⟩) {gn2 : Addr} {gd2 : Option Addr} {gt2_0 gt2_1 gt2_2 gt2_3 gt2_4 gt2_5 gt2_6 gt2_7 gt2_8 gt2_9 gt2_10 gt2_11 gt2_12 gt2_13 gt2_14 : Tok} {gc2 : Nat} {gs2 : Array (Option Value)} (zg2 : PySem.W.nsIn K mainGlobals "KEPT" = some (some (.ref gn2))) (zl2 : K.lookup gn2 = some ⟨.type "tuple", gd2, .seq #[.str "jars" gt2_0, .str "set" gt2_1, .str "say" gt2_2, .str "when" gt2_3, .str "else" gt2_4, .str "while" gt2_5, .str "with" gt2_6, .str "end" gt2_7, .str "add" gt2_8, .str "sub" gt2_9, .str "mul" gt2_10, .str "less" gt2_11, .str "same" gt2_12, .str "not" gt2_13, .str "both" gt2_14] gc2, gs2⟩) {gy0 : Tok} (zy0 : PySem.W.nsIn K mainGlobals "LETTERS" = some (some (.str "abcdefghijklmnopqrstuvwxyz" gy0))) {gy1 : Tok} (zy1 : PySem.W.nsIn K mainGlobals "FIGURES" = some (some (.str "0123456789" gy1))) :
    ∃ T : Txt K mg, T.f_law = f33 ∧ ∃ kV dc pm an cd ct, T.fd_law = PySem.W.fnOf "law" "law" (defArgs s_law) (defBody s_law) (defScope s_law) .none kV dc pm an cd ct := by
  have F1 := fun_mk (st := s_number_text) l1 c1 k1
  have B1 := F1.binds (ps := ["number"]) fun _ _ _ _ _ _ => len1 fun _ => rfl
  have F2 := fun_mk (st := s_part_words) l2 c2 k2
  have B2 := F2.binds (ps := ["part"]) fun _ _ _ _ _ _ => len1 fun _ => rfl
  have F3 := fun_mk (st := s_head_words) l3 c3 k3
  have B3 := F3.binds (ps := ["order"]) fun _ _ _ _ _ _ => len1 fun _ => rfl
  have F4 := fun_mk (st := s_block_rows) l4 c4 k4
  have B4 := F4.binds (ps := ["block", "lead"]) fun _ _ _ _ _ _ => len2 fun _ _ => rfl
  have F5 := fun_mk (st := s_shown) l5 c5 k5
  have B5 := F5.binds (ps := ["program"]) fun _ _ _ _ _ _ => len1 fun _ => rfl
  have F6 := fun_mk (st := s_only_of) l6 c6 k6
  have B6 := F6.binds (ps := ["signs", "text"]) fun _ _ _ _ _ _ => len2 fun _ _ => rfl
  have F7 := fun_mk (st := s_is_name) l7 c7 k7
  have B7 := F7.binds (ps := ["word"]) fun _ _ _ _ _ _ => len1 fun _ => rfl
  have F8 := fun_mk (st := s_is_number) l8 c8 k8
  have B8 := F8.binds (ps := ["word"]) fun _ _ _ _ _ _ => len1 fun _ => rfl
  have F9 := fun_mk (st := s_number_of) l9 c9 k9
  have B9 := F9.binds (ps := ["word"]) fun _ _ _ _ _ _ => len1 fun _ => rfl
  have F10 := fun_mk (st := s_Reader_init) l10 c10 k10
  have B10 := F10.binds (ps := ["self", "words"]) fun _ _ _ _ _ _ => len2 fun _ _ => rfl
  have F11 := fun_mk (st := s_Reader_coming) l11 c11 k11
  have B11 := F11.binds (ps := ["self"]) fun _ _ _ _ _ _ => len1 fun _ => rfl
  have F12 := fun_mk (st := s_Reader_taken) l12 c12 k12
  have B12 := F12.binds (ps := ["self"]) fun _ _ _ _ _ _ => len1 fun _ => rfl
  have F13 := fun_mk (st := s_Reader_need) l13 c13 k13
  have B13 := F13.binds (ps := ["self", "wanted"]) fun _ _ _ _ _ _ => len2 fun _ _ => rfl
  have F14 := fun_mk (st := s_Reader_read_name) l14 c14 k14
  have B14 := F14.binds (ps := ["self"]) fun _ _ _ _ _ _ => len1 fun _ => rfl
  have F15 := fun_mk (st := s_Reader_read_names) l15 c15 k15
  have B15 := F15.binds (ps := ["self"]) fun _ _ _ _ _ _ => len1 fun _ => rfl
  have F16 := fun_mk (st := s_Reader_read_sum) l16 c16 k16
  have B16 := F16.binds (ps := ["self"]) fun _ _ _ _ _ _ => len1 fun _ => rfl
  have F17 := fun_mk (st := s_Reader_read_test) l17 c17 k17
  have B17 := F17.binds (ps := ["self"]) fun _ _ _ _ _ _ => len1 fun _ => rfl
  have F18 := fun_mk (st := s_Reader_read_block) l18 c18 k18
  have B18 := F18.binds (ps := ["self"]) fun _ _ _ _ _ _ => len1 fun _ => rfl
  have F19 := fun_mk (st := s_read) l19 c19 k19
  have B19 := F19.binds (ps := ["rows"]) fun _ _ _ _ _ _ => len1 fun _ => rfl
  have F20 := fun_mk (st := s_law_draw) l20 c20 k20
  have B20 := F20.binds (ps := ["_law_number", "_law_prime", "_law_many"]) fun _ _ _ _ _ _ => len3 fun _ _ _ => rfl
  have F21 := fun_mk (st := s_law_whole) l21 c21 k21
  have B21 := F21.binds (ps := ["_law_found"]) fun _ _ _ _ _ _ => len1 fun _ => rfl
  have F22 := fun_mk (st := s_law_at) l22 c22 k22
  have B22 := F22.binds (ps := ["_law_script", "_law_k"]) fun _ _ _ _ _ _ => len2 fun _ _ => rfl
  have F23 := fun_mk (st := s_law_alike) l23 c23 k23
  have B23 := F23.binds (ps := ["_law_found", "_law_due"]) fun _ _ _ _ _ _ => len2 fun _ _ => rfl
  have F24 := fun_mk (st := s_law_leaf) l24 c24 k24
  have B24 := F24.binds (ps := ["_law_salt", "_law_prime", "_law_second", "_law_scope"]) fun _ _ _ _ _ _ => len4 fun _ _ _ _ => rfl
  have F25 := fun_mk (st := s_law_sum_of) l25 c25 k25
  have B25 := F25.binds (ps := ["_law_salt", "_law_scope"]) fun _ _ _ _ _ _ => len2 fun _ _ => rfl
  have F26 := fun_mk (st := s_law_test_of) l26 c26 k26
  have B26 := F26.binds (ps := ["_law_salt", "_law_scope"]) fun _ _ _ _ _ _ => len2 fun _ _ => rfl
  have F27 := fun_mk (st := s_law_head_of) l27 c27 k27
  have B27 := F27.binds (ps := ["_law_way", "_law_salt", "_law_scope"]) fun _ _ _ _ _ _ => len3 fun _ _ _ => rfl
  have F28 := fun_mk (st := s_law_close) l28 c28 k28
  have B28 := F28.binds (ps := ["_law_blocks", "_law_heads", "_law_scope", "_law_salt"]) fun _ _ _ _ _ _ => len4 fun _ _ _ _ => rfl
  have F29 := fun_mk (st := s_law_grown) l29 c29 k29
  have B29 := F29.binds (ps := ["_law_cells", "_law_names", "_law_more"]) fun _ _ _ _ _ _ => len3 fun _ _ _ => rfl
  have F30 := fun_mk (st := s_law_names_of) l30 c30 k30
  have B30 := F30.binds (ps := ["_law_cell"]) fun _ _ _ _ _ _ => len1 fun _ => rfl
  have F31 := fun_mk (st := s_law_texts) l31 c31 k31
  have B31 := F31.binds (ps := ["_law_found"]) fun _ _ _ _ _ _ => len1 fun _ => rfl
  have F32 := fun_mk (st := s_law_laid) l32 c32 k32
  have B32 := F32.binds (ps := ["_law_rows", "_law_cells"]) fun _ _ _ _ _ _ => len2 fun _ _ => rfl
  have F33 := fun_mk (st := s_law) l33 c33 k33
  have B33 := F33.binds (ps := ["_law_script"]) fun _ _ _ _ _ _ => len1 fun _ => rfl
  exact ⟨{ f_number_text := _, fd_number_text := _, number_text := ⟨F1, B1, PySem.W.mg_of X G a1⟩, f_part_words := _, fd_part_words := _, part_words := ⟨F2, B2, PySem.W.mg_of X G a2⟩, f_head_words := _, fd_head_words := _, head_words := ⟨F3, B3, PySem.W.mg_of X G a3⟩, f_block_rows := _, fd_block_rows := _, block_rows := ⟨F4, B4, PySem.W.mg_of X G a4⟩, f_shown := _, fd_shown := _, shown := ⟨F5, B5, PySem.W.mg_of X G a5⟩, f_only_of := _, fd_only_of := _, only_of := ⟨F6, B6, PySem.W.mg_of X G a6⟩, f_is_name := _, fd_is_name := _, is_name := ⟨F7, B7, PySem.W.mg_of X G a7⟩, f_is_number := _, fd_is_number := _, is_number := ⟨F8, B8, PySem.W.mg_of X G a8⟩, f_number_of := _, fd_number_of := _, number_of := ⟨F9, B9, PySem.W.mg_of X G a9⟩, f_Reader_init := _, fd_Reader_init := _, Reader_init := ⟨F10, B10⟩, me_Reader_init := ⟨a10, i10, k10⟩, f_Reader_coming := _, fd_Reader_coming := _, Reader_coming := ⟨F11, B11⟩, me_Reader_coming := ⟨a11, i11, k11⟩, f_Reader_taken := _, fd_Reader_taken := _, Reader_taken := ⟨F12, B12⟩, me_Reader_taken := ⟨a12, i12, k12⟩, f_Reader_need := _, fd_Reader_need := _, Reader_need := ⟨F13, B13⟩, me_Reader_need := ⟨a13, i13, k13⟩, f_Reader_read_name := _, fd_Reader_read_name := _, Reader_read_name := ⟨F14, B14⟩, me_Reader_read_name := ⟨a14, i14, k14⟩, f_Reader_read_names := _, fd_Reader_read_names := _, Reader_read_names := ⟨F15, B15⟩, me_Reader_read_names := ⟨a15, i15, k15⟩, f_Reader_read_sum := _, fd_Reader_read_sum := _, Reader_read_sum := ⟨F16, B16⟩, me_Reader_read_sum := ⟨a16, i16, k16⟩, f_Reader_read_test := _, fd_Reader_read_test := _, Reader_read_test := ⟨F17, B17⟩, me_Reader_read_test := ⟨a17, i17, k17⟩, f_Reader_read_block := _, fd_Reader_read_block := _, Reader_read_block := ⟨F18, B18⟩, me_Reader_read_block := ⟨a18, i18, k18⟩, f_read := _, fd_read := _, read := ⟨F19, B19, PySem.W.mg_of X G a19⟩, f_law_draw := _, fd_law_draw := _, law_draw := ⟨F20, B20, PySem.W.mg_of X G a20⟩, f_law_whole := _, fd_law_whole := _, law_whole := ⟨F21, B21, PySem.W.mg_of X G a21⟩, f_law_at := _, fd_law_at := _, law_at := ⟨F22, B22, PySem.W.mg_of X G a22⟩, f_law_alike := _, fd_law_alike := _, law_alike := ⟨F23, B23, PySem.W.mg_of X G a23⟩, f_law_leaf := _, fd_law_leaf := _, law_leaf := ⟨F24, B24, PySem.W.mg_of X G a24⟩, f_law_sum_of := _, fd_law_sum_of := _, law_sum_of := ⟨F25, B25, PySem.W.mg_of X G a25⟩, f_law_test_of := _, fd_law_test_of := _, law_test_of := ⟨F26, B26, PySem.W.mg_of X G a26⟩, f_law_head_of := _, fd_law_head_of := _, law_head_of := ⟨F27, B27, PySem.W.mg_of X G a27⟩, f_law_close := _, fd_law_close := _, law_close := ⟨F28, B28, PySem.W.mg_of X G a28⟩, f_law_grown := _, fd_law_grown := _, law_grown := ⟨F29, B29, PySem.W.mg_of X G a29⟩, f_law_names_of := _, fd_law_names_of := _, law_names_of := ⟨F30, B30, PySem.W.mg_of X G a30⟩, f_law_texts := _, fd_law_texts := _, law_texts := ⟨F31, B31, PySem.W.mg_of X G a31⟩, f_law_laid := _, fd_law_laid := _, law_laid := ⟨F32, B32, PySem.W.mg_of X G a32⟩, f_law := _, fd_law := _, law := ⟨F33, B33, PySem.W.mg_of X G a33⟩, c_Reader := _, cl_Reader := ⟨pgReader, hdReader, poReader, saReader⟩, mg_Reader := PySem.W.mg_of X G aCReader, mk_Reader := ⟨mkReader, a10, i10, kcReader⟩, na_Reader_words := naReader_words, na_Reader_place := naReader_place, b_len := PySem.W.mg_none_of X G z1, b_range := PySem.W.mg_none_of X G z2, b_isinstance := PySem.W.mg_none_of X G z3, b_list := PySem.W.mg_none_of X G z4, b_tuple := PySem.W.mg_none_of X G z5, b_str := PySem.W.mg_none_of X G z6, b_int := PySem.W.mg_none_of X G z7, b_bool := PySem.W.mg_none_of X G z8, b_abs := PySem.W.mg_none_of X G z9, b_reversed := PySem.W.mg_none_of X G z10, a_ORDER_WORDS := _, m_ORDER_WORDS := PySem.W.mg_of X G zg0, k_ORDER_WORDS := fun _ => .inr ⟨_, _, _, zl0, rfl, rfl, (by show 5 ≤ sizeLine; decide), .cons ⟨_, rfl⟩ (.cons ⟨_, rfl⟩ (.cons ⟨_, rfl⟩ (.cons ⟨_, rfl⟩ (.cons ⟨_, rfl⟩ .nil))))⟩, a_SUM_WORDS := _, m_SUM_WORDS := PySem.W.mg_of X G zg1, k_SUM_WORDS := fun _ => .inr ⟨_, _, _, zl1, rfl, rfl, (by show 3 ≤ sizeLine; decide), .cons ⟨_, rfl⟩ (.cons ⟨_, rfl⟩ (.cons ⟨_, rfl⟩ .nil))⟩, a_KEPT := _, m_KEPT := PySem.W.mg_of X G zg2, k_KEPT := fun _ => .inr ⟨_, _, _, zl2, rfl, rfl, (by show 15 ≤ sizeLine; decide), .cons ⟨_, rfl⟩ (.cons ⟨_, rfl⟩ (.cons ⟨_, rfl⟩ (.cons ⟨_, rfl⟩ (.cons ⟨_, rfl⟩ (.cons ⟨_, rfl⟩ (.cons ⟨_, rfl⟩ (.cons ⟨_, rfl⟩ (.cons ⟨_, rfl⟩ (.cons ⟨_, rfl⟩ (.cons ⟨_, rfl⟩ (.cons ⟨_, rfl⟩ (.cons ⟨_, rfl⟩ (.cons ⟨_, rfl⟩ (.cons ⟨_, rfl⟩ .nil))))))))))))))⟩, t_LETTERS := _, m_LETTERS := PySem.W.mg_of X G zy0, t_FIGURES := _, m_FIGURES := PySem.W.mg_of X G zy1 }, rfl, _, _, _, _, _, _, rfl⟩
theorem walk {l : PySem.W.OpenLaw} {q : Program} {loose : List Str} {XP : (Str → Option Value) → Heap → Prop} {YP : World → Heap → Prop} {d : DefRec} {K : Params → PySem.W.Frag} (hn : l.most = some 63) (hdf : d.params.defaults = [])
    (hY : ∀ (w : World) (h : Heap), YP w h → (K w.params).In h)
    (F : ∀ (w : World) (mg : Str → Option Value) (fa : Addr) (h : Heap), (K w.params).In h → h.Ns mainGlobals mg → mg d.name = some (.ref fa) →
      ∃ fd : FuncData, (∀ (s : Shared) (u : Value), BindsTo s fd ⟨[u], []⟩ [("_law_script", u)]) ∧ ∀ base : Heap, (K w.params).In base → base.Ns mainGlobals mg → FnOk l.prog w (K w.params) mg base CX0 140 fa fd ["_law_script"] (spLaw (K w.params))) :
    PySem.W.WalkO q loose XP YP l.row.toRowW d [] (fun f vs => PySem.call f vs) :=
  L2.walk_of (n := 63) (k := 140) (x := "_law_script") (CX := fun _ => CX0) (sp := fun w => spLaw (K w.params)) hn (by decide) hdf ⟨rfl, by decide, by decide⟩ hY F (fun _ _ a ns hl _ hS => ⟨a, ns, rfl, hS, hl, fun _ => rfl⟩) fun _ _ _ _ _ z => z
theorem fin_of {l : PySem.W.OpenLaw} {w : World} {K : PySem.W.Frag} {h : Heap} {mg : Str → Option Value} {fa f : Addr} (X : K.In h) (G : h.Ns mainGlobals mg) (hfa : mg "law" = some (.ref fa)) (a1 : PySem.W.nsIn K mainGlobals "law" = some (some (.ref f)))
    (t : ∃ T : Txt K mg, T.f_law = f ∧ ∃ kV dc pm an cd ct, T.fd_law = PySem.W.fnOf "law" "law" (defArgs s_law) (defBody s_law) (defScope s_law) .none kV dc pm an cd ct) :
    ∃ fd : FuncData, (∀ (s : Shared) (v : Value), BindsTo s fd ⟨[v], []⟩ [("_law_script", v)]) ∧ ∀ base : Heap, K.In base → base.Ns mainGlobals mg → FnOk l.prog w K mg base CX0 140 fa fd ["_law_script"] (spLaw K) := by
  have e := hfa.symm.trans (PySem.W.mg_of X G a1)
  cases e
  obtain ⟨T, rfl, kV, dc, pm, an, cd, ct, e⟩ := t
  refine ⟨T.fd_law, fun s v => ?_, fun base _ _ => ok_law T⟩
  rw [e]
  exact .of_eq rfl
end W10
open PySem PySem.W PyProof.Rows
set_option maxRecDepth 100000 in
set_option maxHeartbeats 0 in
theorem PySem.Challenge.cw_jarcards_k10_whole_shown_and_read_holds : PySem.Challenge.rw_jarcards_k10_whole_shown_and_read.Holds := by
  refine W10.top1 ?_
  k_fill
  refine W10.walk (l := PySem.Challenge.rw_jarcards_k10_whole_shown_and_read) rfl rfl (fun w h Y => PySem.W.kIn_of Y) ?F
  case F =>
    intro w mg fa h KX G hmg
    refine' W10.fin_of KX G hmg ?zz (W10.txt_mk KX G ?aCReader ?pgReader ?hdReader ?poReader ?saReader ?mkReader ?kcReader ?naReader_words ?naReader_place ?a1 ?l1 ?c1 ?k1 ?a2 ?l2 ?c2 ?k2 ?a3 ?l3 ?c3 ?k3 ?a4 ?l4 ?c4 ?k4 ?a5 ?l5 ?c5 ?k5 ?a6 ?l6 ?c6 ?k6 ?a7 ?l7 ?c7 ?k7 ?a8 ?l8 ?c8 ?k8 ?a9 ?l9 ?c9 ?k9 ?a10 ?i10 ?l10 ?c10 ?k10 ?a11 ?i11 ?l11 ?c11 ?k11 ?a12 ?i12 ?l12 ?c12 ?k12 ?a13 ?i13 ?l13 ?c13 ?k13 ?a14 ?i14 ?l14 ?c14 ?k14 ?a15 ?i15 ?l15 ?c15 ?k15 ?a16 ?i16 ?l16 ?c16 ?k16 ?a17 ?i17 ?l17 ?c17 ?k17 ?a18 ?i18 ?l18 ?c18 ?k18 ?a19 ?l19 ?c19 ?k19 ?a20 ?l20 ?c20 ?k20 ?a21 ?l21 ?c21 ?k21 ?a22 ?l22 ?c22 ?k22 ?a23 ?l23 ?c23 ?k23 ?a24 ?l24 ?c24 ?k24 ?a25 ?l25 ?c25 ?k25 ?a26 ?l26 ?c26 ?k26 ?a27 ?l27 ?c27 ?k27 ?a28 ?l28 ?c28 ?k28 ?a29 ?l29 ?c29 ?k29 ?a30 ?l30 ?c30 ?k30 ?a31 ?l31 ?c31 ?k31 ?a32 ?l32 ?c32 ?k32 ?a33 ?l33 ?c33 ?k33 ?z1 ?z2 ?z3 ?z4 ?z5 ?z6 ?z7 ?z8 ?z9 ?z10 ?zg0 ?zl0 ?zg1 ?zl1 ?zg2 ?zl2 ?zy0 ?zy1)
    (case zz => k_is)
    (case aCReader => k_is)
    (case pgReader => k_is)
    (case hdReader => k_is)
    (case poReader => k_is)
    (case saReader => k_is)
    (case mkReader => k_is)
    (case kcReader => first | k_is | kit_is | kernel_rfl)
    (case naReader_words => k_is)
    (case naReader_place => k_is)
    (case a1 => k_is)
    (case l1 => k_is)
    (case c1 => k_is)
    (case k1 => k_is)
    (case a2 => k_is)
    (case l2 => k_is)
    (case c2 => k_is)
    (case k2 => k_is)
    (case a3 => k_is)
    (case l3 => k_is)
    (case c3 => k_is)
    (case k3 => k_is)
    (case a4 => k_is)
    (case l4 => k_is)
    (case c4 => k_is)
    (case k4 => k_is)
    (case a5 => k_is)
    (case l5 => k_is)
    (case c5 => k_is)
    (case k5 => k_is)
    (case a6 => k_is)
    (case l6 => k_is)
    (case c6 => k_is)
    (case k6 => k_is)
    (case a7 => k_is)
    (case l7 => k_is)
    (case c7 => k_is)
    (case k7 => k_is)
    (case a8 => k_is)
    (case l8 => k_is)
    (case c8 => k_is)
    (case k8 => k_is)
    (case a9 => k_is)
    (case l9 => k_is)
    (case c9 => k_is)
    (case k9 => k_is)
    (case a10 => k_is)
    (case i10 => k_is)
    (case l10 => k_is)
    (case c10 => k_is)
    (case k10 => k_is)
    (case a11 => k_is)
    (case i11 => k_is)
    (case l11 => k_is)
    (case c11 => k_is)
    (case k11 => k_is)
    (case a12 => k_is)
    (case i12 => k_is)
    (case l12 => k_is)
    (case c12 => k_is)
    (case k12 => k_is)
    (case a13 => k_is)
    (case i13 => k_is)
    (case l13 => k_is)
    (case c13 => k_is)
    (case k13 => k_is)
    (case a14 => k_is)
    (case i14 => k_is)
    (case l14 => k_is)
    (case c14 => k_is)
    (case k14 => k_is)
    (case a15 => k_is)
    (case i15 => k_is)
    (case l15 => k_is)
    (case c15 => k_is)
    (case k15 => k_is)
    (case a16 => k_is)
    (case i16 => k_is)
    (case l16 => k_is)
    (case c16 => k_is)
    (case k16 => k_is)
    (case a17 => k_is)
    (case i17 => k_is)
    (case l17 => k_is)
    (case c17 => k_is)
    (case k17 => k_is)
    (case a18 => k_is)
    (case i18 => k_is)
    (case l18 => k_is)
    (case c18 => k_is)
    (case k18 => k_is)
    (case a19 => k_is)
    (case l19 => k_is)
    (case c19 => k_is)
    (case k19 => k_is)
    (case a20 => k_is)
    (case l20 => k_is)
    (case c20 => k_is)
    (case k20 => k_is)
    (case a21 => k_is)
    (case l21 => k_is)
    (case c21 => k_is)
    (case k21 => k_is)
    (case a22 => k_is)
    (case l22 => k_is)
    (case c22 => k_is)
    (case k22 => k_is)
    (case a23 => k_is)
    (case l23 => k_is)
    (case c23 => k_is)
    (case k23 => k_is)
    (case a24 => k_is)
    (case l24 => k_is)
    (case c24 => k_is)
    (case k24 => k_is)
    (case a25 => k_is)
    (case l25 => k_is)
    (case c25 => k_is)
    (case k25 => k_is)
    (case a26 => k_is)
    (case l26 => k_is)
    (case c26 => k_is)
    (case k26 => k_is)
    (case a27 => k_is)
    (case l27 => k_is)
    (case c27 => k_is)
    (case k27 => k_is)
    (case a28 => k_is)
    (case l28 => k_is)
    (case c28 => k_is)
    (case k28 => k_is)
    (case a29 => k_is)
    (case l29 => k_is)
    (case c29 => k_is)
    (case k29 => k_is)
    (case a30 => k_is)
    (case l30 => k_is)
    (case c30 => k_is)
    (case k30 => k_is)
    (case a31 => k_is)
    (case l31 => k_is)
    (case c31 => k_is)
    (case k31 => k_is)
    (case a32 => k_is)
    (case l32 => k_is)
    (case c32 => k_is)
    (case k32 => k_is)
    (case a33 => k_is)
    (case l33 => k_is)
    (case c33 => k_is)
    (case k33 => k_is)
    (case z1 => k_is)
    (case z2 => k_is)
    (case z3 => k_is)
    (case z4 => k_is)
    (case z5 => k_is)
    (case z6 => k_is)
    (case z7 => k_is)
    (case z8 => k_is)
    (case z9 => k_is)
    (case z10 => k_is)
    (case zg0 => k_is)
    (case zl0 => k_is)
    (case zg1 => k_is)
    (case zl1 => k_is)
    (case zg2 => k_is)
    (case zl2 => k_is)
    (case zy0 => k_is)
    (case zy1 => k_is)
#print axioms PySem.Challenge.cw_jarcards_k10_whole_shown_and_read_holds
