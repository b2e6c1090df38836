import PyProof.Rows.All
import Wide.All
import OpenK.AllK
import Wide.FinOn
import Lean
import PyProof.EqAt
import PyProof.EqKinds
import PyProof.TupleCall
import PySem.Challenge.RW_jarcards_k05_strangers
set_option Elab.async false
set_option linter.all false
set_option maxRecDepth 100000
set_option maxHeartbeats 4000000
/-! ### the module's top, run at once over a tree of objects -/
namespace JH
open PySem PySem.W PyProof.Rows
def runT (tb : String → Option Builtin) (p : Program) (w : World) (m : Nat) (ann : Option Value) : Nat → SharedT → Thread → Option SharedT
  | 0, _, _ => none
  | n + 1, s, t => match through t with
    | true => some s
    | false => match stepOk m ann t with
      | false => none
      | true => match stepT (denote tb) p w s t with
        | some (s2, t2) => runT tb p w m ann n s2 t2
        | none => none
theorem runT_of {tb : String → Option Builtin} {p : Program} {w : World} {m : Nat} {ann : Option Value} : ∀ {n : Nat} {s r : SharedT} {t : Thread}, runT tb p w m ann n s t = some r → topRun tb p w m ann n s.abs t = some r.abs
  | 0, _, _, _, h => by cases h
  | n + 1, s, r, t, h => by
    unfold runT at h
    unfold topRun
    cases ht : through t with
    | true => rw [ht] at h; cases h; rfl
    | false =>
      rw [ht] at h
      cases hk : stepOk m ann t with
      | false => rw [hk] at h; cases h
      | true =>
        rw [hk] at h
        cases hs : stepT (denote tb) p w s t with
        | none => rw [hs] at h; cases h
        | some x =>
          obtain ⟨s2, t2⟩ := x
          rw [hs] at h
          rw [stepT_spec hs]
          exact runT_of h
def grow : Nat → List Obj → BT → BT
  | _, [], t => t
  | i, o :: os, t => grow (i + 1) os (t.ins i o)
noncomputable def bootT (P : Params) : BT := grow 0 (boot_heap P).objs.toList .nil
/-- what is looked at behind the top -/
noncomputable def look {α : Type} (p q : Program) (Xt : Shared → Bool) (Yf : Shared → α) (w : World) (s : Shared) :=
  ((staticsOk (importedModules p.main.body) (boot_heap w.params) s.heap && namesBound p s.heap && gensDone s && laidKept (boot_heap w.params) s.heap), openSeen q [] (importedModules p.main.body) Xt true s, Yf s)
theorem left_of {p q : Program} {Xt : Shared → Bool} {α : Type} {Yf : Shared → α} {Ya : World → α} {N M m : Nat} {ann : Option Value}
    (h1 : opening p = plainProg p.main.scope.names) (h2 : Nat.ble 600 N = true) (h3 : ∀ s, fenceModules? p s = some s) (h4 : Nat.ble M N = true)
    (heap : ∀ P : Params, absHeap (bootT P) m (boot_heap P).life = boot_heap P)
    (size : ∀ P : Params, ((boot_heap P).isNs mainGlobals, (boot_heap P).objs.size, (boot_heap P).nsMap mainGlobals "__annotations__") = (true, m, ann))
    (go : ∀ (w : World) (os : OsState), (runT treeTable p w m ann M ⟨bootT w.params, m, (boot_heap w.params).life, Array.mk [], boot_drawn, boot_toks, os⟩ (topStub p)).map (fun s => look p q Xt Yf w s.abs) = some (true, openGood q [], Ya w)) :
    LeftO p q [] Xt Yf Ya N := fun w => by
  obtain ⟨⟨h, gs, d, k, os⟩, e, e'⟩ := Option.map_eq_some_iff.mp (boot_open h1 h2 h3 w)
  obtain ⟨rfl, rfl, rfl, rfl⟩ : h = boot_heap w.params ∧ gs = Array.mk [] ∧ d = boot_drawn ∧ k = boot_toks := by simpa using e'
  obtain ⟨z1, z2, z3⟩ : _ ∧ _ ∧ _ := by simpa only [Prod.mk.injEq] using size w.params
  obtain ⟨sT, r1, r2⟩ := Option.map_eq_some_iff.mp (go w os)
  have l1 : (staticsOk (importedModules p.main.body) (boot_heap w.params) sT.abs.heap && namesBound p sT.abs.heap && gensDone sT.abs && laidKept (boot_heap w.params) sT.abs.heap) = true := congrArg Prod.fst r2
  have l2 : (openSeen q [] (importedModules p.main.body) Xt true sT.abs, Yf sT.abs) = (openGood q [], Ya w) := congrArg Prod.snd r2
  have r3 := runT_of r1
  have e0 : (⟨bootT w.params, m, (boot_heap w.params).life, Array.mk [], boot_drawn, boot_toks, os⟩ : SharedT).abs = ⟨boot_heap w.params, Array.mk [], boot_drawn, boot_toks, os⟩ := by
    unfold SharedT.abs
    dsimp only
    rw [heap]
  rw [e0] at r3
  have r4 := topRun_mono (N - M) _ _ _ _ r3
  rw [show M + (N - M) = N by have := Nat.le_of_ble_eq_true h4; omega] at r4
  have t : topFrom treeTable p w N ⟨boot_heap w.params, Array.mk [], boot_drawn, boot_toks, os⟩ = some sT.abs := by
    unfold topFrom
    dsimp only
    rw [z1, z2, z3, r4]
    show (match staticsOk (importedModules p.main.body) (boot_heap w.params) sT.abs.heap && namesBound p sT.abs.heap && gensDone sT.abs && laidKept (boot_heap w.params) sT.abs.heap with | true => _ | false => _) = _
    rw [l1]
  unfold openEnds
  rw [e]
  show (topFrom treeTable p w N ⟨boot_heap w.params, Array.mk [], boot_drawn, boot_toks, os⟩).map _ = _
  rw [t]
  exact congrArg some l2
end JH

set_option Elab.async false
set_option linter.all false
set_option maxRecDepth 100000
set_option maxHeartbeats 4000000
namespace W05
open PySem PySem.W PyProof.Rows
/-! ### the top of the text, run at once -/
def keptB (l : List Stmt) : List Stmt := l.filter fun s => match s with
  | .Assign [.Name x _] _ _ => !(x == ("__name__" : Str))
  | _ => true
def seenP : Program := { PySem.Challenge.pw_jarcards_k05_strangers with main := { PySem.Challenge.pw_jarcards_k05_strangers.main with body := keptB PySem.Challenge.pw_jarcards_k05_strangers.main.body } }
section
local macro_rules
  | `(tactic| o_head $H) => `(tactic| (
    refine holds_open (q := seenP)
      (loose := []) (N := 6000)
      (Xt := fun s => xlAt seenP [] s &&
        recOk (RowW.records (OpenRow.toRowW (OpenLaw.row PySem.Challenge.rw_jarcards_k05_strangers))) s)
      (XP := XL seenP []) (Yf := Hook.obs $H)
      (Ya := Hook.val $H) (YP := Hook.says $H)
      (JH.left_of (M := 6000) (m := 11) (ann := some (Value.ref 6))
        (by kernel_rfl) (by rfl) (fun s => by kernel_rfl) (by rfl)
        (fun P => by kernel_rfl) (fun P => by kernel_rfl)
        (fun w os => by kernel_rfl))
      (Hook.of $H) (Hook.keeps $H)
      (fun s e => xl_of s (Bool.and_eq_true_iff.mp e).1)
      XL.keeps (by rfl) (by rfl) (by rfl)
      (fun s e => recFacts_of (Bool.and_eq_true_iff.mp e).2)
      (by rfl) (by first | assumption | decide +kernel)
      (by decide +kernel)
      ⟨rfl, rfl, rfl, rfl, rfl, by decide +kernel⟩ ?hw ?hc))
set_option maxHeartbeats 0 in
open_top top1 for PySem.Challenge.rw_jarcards_k05_strangers
end
end W05

set_option Elab.async false
set_option linter.all false
set_option maxRecDepth 100000
/-! THE HAND LAYER, for ints, bools, texts, own classes, LISTS and tuples (index, slices, in, append, pop ..), calls, loops. Paste it whole ahead of your own text; what your proof does not reach may be deleted. -/
namespace L2
open PySem PySem.Spec PyProof.Rows

/-- a key: an int or a str -/
abbrev Key := Sum Int Str
def keyIs : Key → Value → Bool
  | .inl k, v => Value.isInt k v
  | .inr x, v => Value.isStrOf x v
def keyH (w : World) : Key → Int
  | .inl k => hashInt k
  | .inr x => hashStr w x
theorem keyIs_shape : ∀ {k : Key} {v : Value}, keyIs k v = true → (∃ i t, k = Sum.inl i ∧ v = Value.int i t) ∨ (∃ x t, k = Sum.inr x ∧ v = Value.str x t)
  | .inl i, v, h => by
    obtain ⟨t, e⟩ := Value.isInt_shape (k := i) (v := v) h
    exact .inl ⟨i, t, rfl, e⟩
  | .inr x, v, h => by
    obtain ⟨t, e⟩ := Value.isStrOf_shape (x := x) (v := v) h
    exact .inr ⟨x, t, rfl, e⟩
theorem key_ll (a b : Int) : decide ((Sum.inl a : Key) = Sum.inl b) = (a == b) := by
  by_cases e : a = b
  · subst e; simp
  · have h : ¬ (Sum.inl a : Key) = Sum.inl b := fun q => e (Sum.inl.inj q)
    rw [decide_eq_false h]
    exact (beq_eq_false_iff_ne.mpr e).symm
theorem key_rr (a b : Str) : decide ((Sum.inr a : Key) = Sum.inr b) = decide (a = b) := by
  by_cases e : a = b
  · subst e; simp
  · have h : ¬ (Sum.inr a : Key) = Sum.inr b := fun q => e (Sum.inr.inj q)
    rw [decide_eq_false h, decide_eq_false e]
theorem key_lr (a : Int) (b : Str) : decide ((Sum.inl a : Key) = Sum.inr b) = false := decide_eq_false (fun q => nomatch q)
theorem key_rl (a : Str) (b : Int) : decide ((Sum.inr a : Key) = Sum.inl b) = false := decide_eq_false (fun q => nomatch q)

def mixKind (prog : Program) (w : World) : PySem.KeyKind prog w Key where
  is := keyIs
  hash := keyH w
  inj := fun v a b ha hb => by
    rcases keyIs_shape ha with ⟨i, t, rfl, rfl⟩ | ⟨x, t, rfl, rfl⟩
    · rcases keyIs_shape hb with ⟨j, u, rfl, e⟩ | ⟨y, u, rfl, e⟩
      · injection e with e1 _; rw [e1]
      · exact nomatch e
    · rcases keyIs_shape hb with ⟨j, u, rfl, e⟩ | ⟨y, u, rfl, e⟩
      · exact nomatch e
      · injection e with e1 _; rw [e1]
  byValue := fun k v h => by
    rcases keyIs_shape h with ⟨i, t, rfl, rfl⟩ | ⟨x, t, rfl, rfl⟩ <;> rfl
  pyHash := fun hv h => by
    rcases keyIs_shape hv with ⟨i, t, rfl, rfl⟩ | ⟨x, t, rfl, rfl⟩
    · exact wpAny_pyHash_int h
    · exact wpAny_pyHash_str h
  eqBool := fun hu hv h => by
    rcases keyIs_shape hu with ⟨i, t, rfl, rfl⟩ | ⟨x, t, rfl, rfl⟩
    · rcases keyIs_shape hv with ⟨j, u, rfl, rfl⟩ | ⟨y, u, rfl, rfl⟩
      · rw [key_ll] at h; exact wpAny_eqBool_int h
      · rw [key_lr] at h; exact SeqAt.EqAt.int_str i t y u _ _ _ _ h
    · rcases keyIs_shape hv with ⟨j, u, rfl, rfl⟩ | ⟨y, u, rfl, rfl⟩
      · rw [key_rl] at h; exact SeqAt.EqAt.str_int x t j u _ _ _ _ h
      · rw [key_rr] at h; exact wpAny_eqBool_str h
  «strs» := fun k x t v h => by
    rcases keyIs_shape h with ⟨i, u, rfl, e⟩ | ⟨y, u, rfl, e⟩
    · exact nomatch e
    · injection e with e1 _
      subst e1
      cases v <;> rfl

end L2

namespace L2
open PySem PySem.Spec PyProof.Rows

/-- a value, without the heap -/
inductive V where
  | non | bl (b : Bool) | int (i : Int) | str (x : Str) | byt (b : Array UInt8) | flt (b : UInt64) | ref (a : Addr) | ty (n : String)
  deriving DecidableEq

def RelV : V → Value → Prop
  | .non, u => u = Value.none
  | .bl b, u => u = Value.bool b
  | .int i, u => ∃ t, u = Value.int i t
  | .str x, u => ∃ t, u = Value.str x t
  | .byt b, u => ∃ t, u = Value.bytes b t
  | .flt b, u => ∃ t, u = Value.float b t
  | .ref a, u => u = Value.ref a
  | .ty n, u => u = Value.type n

abbrev Vals : List V → List Value → Prop := Paired RelV
theorem Vals.length {xs : List V} {us : List Value} (r : Vals xs us) : xs.length = us.length := Paired.length r
theorem Vals.get : ∀ {xs : List V} {us : List Value} {i : Nat} {x : V}, Vals xs us → xs[i]? = some x → ∃ u, us[i]? = some u ∧ RelV x u
  | _, _, _, _, .nil, e => by simp at e
  | _, _, 0, _, .cons r _, e => by simp at e; subst e; exact ⟨_, rfl, r⟩
  | _, _, i + 1, x, .cons _ t, e => by
    obtain ⟨u, h1, h2⟩ := Vals.get (i := i) (x := x) t (by simpa using e)
    exact ⟨u, by simpa using h1, h2⟩
theorem Vals.set {x : V} {u : Value} (r : RelV x u) : ∀ {xs : List V} {us : List Value} (i : Nat), Vals xs us → Vals (xs.set i x) (us.set i u)
  | _, _, _, .nil => .nil
  | _, _, 0, .cons _ t => .cons r t
  | _, _, i + 1, .cons q t => .cons q (Vals.set r i t)
theorem Vals.append : ∀ {xs ys : List V} {us ws : List Value}, Vals xs us → Vals ys ws → Vals (xs ++ ys) (us ++ ws)
  | _, _, _, _, .nil, s => s
  | _, _, _, _, .cons r t, s => .cons r (Vals.append t s)
theorem Vals.take : ∀ {xs : List V} {us : List Value} (n : Nat), Vals xs us → Vals (xs.take n) (us.take n)
  | _, _, 0, _ => .nil
  | _, _, _ + 1, .nil => .nil
  | _, _, n + 1, .cons r t => .cons r (Vals.take n t)
theorem Vals.drop : ∀ {xs : List V} {us : List Value} (n : Nat), Vals xs us → Vals (xs.drop n) (us.drop n)
  | _, _, 0, r => r
  | _, _, _ + 1, .nil => .nil
  | _, _, n + 1, .cons _ t => Vals.drop n t

def RelO : Option V → Option Value → Prop
  | some v, some u => RelV v u
  | none, none => True
  | _, _ => False
def KV {κ : Type} : List (κ × V) → List (κ × Value) → Prop := Paired fun (p : κ × V) (q : κ × Value) => p.1 = q.1 ∧ RelV p.2 q.2

/-- a key of a dict (00_mix): an int or a text -/
def kV : Key → V
  | .inl i => .int i
  | .inr x => .str x

/-- what stands at a tracked address -/
inductive HO where
  /-- a list -/
  | lst (xs : List V)
  /-- a tuple (never changes) -/
  | tup (xs : List V)
  /-- a dict whose keys are ints and texts; one whose keys are tuples of ints and texts (the empty one is both) -/
  | dK (kvs : List (Key × V)) | dT (kvs : List (List Key × V))
  /-- a set of ints: its members, its size -/
  | set (S : Int → Bool) (n : Nat)
  /-- an instance of the class at C, its dict at dx, its attributes -/
  | ins (C dx : Addr) (fs : List (Str × V))
  /-- the dict of the instance at x -/
  | own (x : Addr)
  /-- the dict of an exception -/
  | xd (fs : List (Str × V))
  /-- a bound method, f of x -/
  | met (f x : Addr)
  /-- a range object lo, lo + 1, .. below hi -/
  | rng (lo hi : Int)
  /-- a thing that is known to the object (the script; a dict while a loop walks it): read, never written while it is so -/
  | frz (o : Obj) (u : HO)
  /-- a code object's table -/
  | tbl (ps : Array Value)
  /-- any other thing, by what is true of its one object (a def of one's own: SetO a S n := HO.ext fun h => ..) -/
  | ext (φ : Heap → Prop)

abbrev Hp := Addr → Option HO
def upd (H : Hp) (a : Addr) (o : HO) : Hp := fun b => if b = a then some o else H b
theorem upd_same {H : Hp} {a : Addr} {o : HO} : upd H a o a = some o := by unfold upd; rw [if_pos rfl]
theorem upd_ne {H : Hp} {a b : Addr} {o : HO} (h : b ≠ a) : upd H a o b = H b := by unfold upd; rw [if_neg h]
theorem upd_upd {H : Hp} {a : Addr} {o u : HO} : upd (upd H a o) a u = upd H a u := by
  funext b; unfold upd; split <;> rfl
/-- two objects of different content stand apart -/
theorem ne_of {H : Hp} {a b : Addr} {o u : HO} (h : H a = some o) (h' : H b = some u) (d : o ≠ u) : a ≠ b := by
  intro e; subst e; rw [h] at h'; exact d (Option.some.inj h')
theorem ne_of_none {H : Hp} {a b : Addr} {o : HO} (h : H a = some o) (h' : H b = none) : a ≠ b := by
  intro e; subst e; rw [h] at h'; cases h'

section
variable (P : Program) (w : World)
def ObjOk (H : Hp) (h : Heap) (a : Addr) : HO → Prop
  | .lst xs => xs.length ≤ sizeLine ∧ ∃ (its : List Value) (n : Nat), Vals xs its ∧ h.get? a = some { cls := .type "list", data := .seq its.toArray n }
  | .tup xs => xs.length ≤ sizeLine ∧ ∃ its : List Value, Vals xs its ∧ IsTup h a its.toArray
  | .dK kvs => kvs.length ≤ sizeLine ∧ (a == sysModules) = false ∧ ∃ vs, KV kvs vs ∧ h.DictOf (mixKind P w) a vs
  | .dT kvs => kvs.length ≤ sizeLine ∧ (a == sysModules) = false ∧ ∃ xs : List (List Key × Addr × Value),
      Paired (fun (p : List Key × V) (q : List Key × Addr × Value) => p.1 = q.1 ∧ H q.2.1 = some (.tup (p.1.map kV)) ∧ RelV p.2 q.2.2) kvs xs ∧
      ∃ o es ep, h.get? a = some o ∧ o.ExactDict ∧ o.data = .dict es ep ∧ es.toList = xs.map (entryOfKey (tupleKind (mixKind P w))) ∧ (xs.map (·.1)).Nodup
  | .set S n => h.SetOf (intKind P w) a S n
  | .ins C dx fs => H dx = some (.own a) ∧ fs.length ≤ 1000 ∧ dx ≠ a ∧ h.get? a = some (PySem.W.instObj C dx) ∧
      ∃ mA, h.Ns1 dx mA ∧ (∀ f, RelO (fs.lookup f) (mA f)) ∧ PySem.Within mA (fs.map (·.1))
  | .own _ => ∃ o, h.get? a = some o
  | .xd fs => ∃ mA, h.Ns1 a mA ∧ ∀ f, RelO (fs.lookup f) (mA f)
  | .rng lo hi => ∃ t u v, h.get? a = some { cls := .type "range", data := .fields #[.int lo t, .int hi u, .int 1 v] }
  | .frz o u => h.get? a = some o ∧ ObjOk H h a u
  | .tbl ps => h.get? a = some { cls := .none, data := .fields ps }
  | .met f x => h.get? a = some (PySem.W.methodObj (.ref f) (.ref x))
  | .ext φ => φ h ∧ (∃ o, h.get? a = some o) ∧ ∀ h1 h2 : Heap, φ h1 → (∀ o, h1.get? a = some o → h2.get? a = some o) → φ h2
/-- the abstract heap is held -/
def HOk (H : Hp) (h : Heap) : Prop := ∀ a o, H a = some o → ObjOk P w H h a o
end

section
variable {P : Program} {w : World} {H H' : Hp} {h h' : Heap} {a : Addr} {o : HO}
theorem ObjOk.lt (x : ObjOk P w H h a o) : a < h.objs.size := by
  cases o with
  | lst xs => obtain ⟨_, _, _, _, e⟩ := x; exact Heap.lt_size e
  | tup xs => obtain ⟨_, _, _, p⟩ := x; exact p.lt
  | dK kvs => obtain ⟨_, _, _, _, o, _, _, e, _⟩ := x; exact Heap.lt_size e
  | dT kvs => obtain ⟨_, _, _, _, o, _, _, e, _⟩ := x; exact Heap.lt_size e
  | set S n => obtain ⟨o, _, _, _, e, _⟩ := x; exact Heap.lt_size e
  | ins C dx fs => obtain ⟨_, _, _, e, _⟩ := x; exact Heap.lt_size e
  | own y => obtain ⟨_, e⟩ := x; exact Heap.lt_size e
  | xd fs => obtain ⟨_, ⟨_, _, _, e, _⟩, _⟩ := x; exact Heap.lt_size e
  | rng lo hi => obtain ⟨_, _, _, e⟩ := x; exact Heap.lt_size e
  | frz ob u => obtain ⟨e, _⟩ := x; exact Heap.lt_size e
  | tbl ps => exact Heap.lt_size (show h.get? a = some _ from x)
  | met f y => exact Heap.lt_size (show h.get? a = some _ from x)
  | ext φ => obtain ⟨_, ⟨_, e⟩, _⟩ := x; exact Heap.lt_size e
theorem Paired.mapP {α β : Type} {F G : α → β → Prop} : ∀ {l₁ : List α} {l₂ : List β}, Paired F l₁ l₂ → (∀ a b, F a b → G a b) → Paired G l₁ l₂
  | _, _, .nil, _ => .nil
  | _, _, .cons r t, f => .cons (f _ _ r) (Paired.mapP t f)
/-- what an object's description leans on: its own object, its own dict, the tuples -/
theorem ObjOk.stay (x : ObjOk P w H h a o) (k : ∀ b u, (b = a ∨ H b = some (.own a)) → h.get? b = some u → h'.get? b = some u)
    (ho : ∀ b, H b = some (.own a) → H' b = some (.own a)) (ht : ∀ b xs, H b = some (.tup xs) → H' b = some (.tup xs)) : ObjOk P w H' h' a o := by
  induction o with
  | lst xs => obtain ⟨z, its, n, r, e⟩ := x; exact ⟨z, its, n, r, k _ _ (.inl rfl) e⟩
  | tup xs => obtain ⟨z, its, r, ob, e, c⟩ := x; exact ⟨z, its, r, ob, k _ _ (.inl rfl) e, c⟩
  | dK kvs => obtain ⟨z, y, vs, r, ob, es, ep, e, c⟩ := x; exact ⟨z, y, vs, r, ob, es, ep, k _ _ (.inl rfl) e, c⟩
  | dT kvs =>
    obtain ⟨z, y, xs, r, ob, es, ep, e, c⟩ := x
    exact ⟨z, y, xs, Paired.mapP r fun p q z => ⟨z.1, ht _ _ z.2.1, z.2.2⟩, ob, es, ep, k _ _ (.inl rfl) e, c⟩
  | set S n => obtain ⟨ob, es, ep, t, e, c⟩ := x; exact ⟨ob, es, ep, t, k _ _ (.inl rfl) e, c⟩
  | ins C dx fs =>
    obtain ⟨d, z, ne, e, mA, ⟨od, es, ep, e2, c⟩, r⟩ := x
    exact ⟨ho _ d, z, ne, k _ _ (.inl rfl) e, mA, ⟨od, es, ep, k _ _ (.inr d) e2, c⟩, r⟩
  | own y => obtain ⟨ob, e⟩ := x; exact ⟨ob, k _ _ (.inl rfl) e⟩
  | xd fs => obtain ⟨mA, ⟨od, es, ep, e, c⟩, r⟩ := x; exact ⟨mA, ⟨od, es, ep, k _ _ (.inl rfl) e, c⟩, r⟩
  | rng lo hi => obtain ⟨t, u, v, e⟩ := x; exact ⟨t, u, v, k _ _ (.inl rfl) e⟩
  | frz ob u ih => obtain ⟨e, q⟩ := x; exact ⟨k _ _ (.inl rfl) e, ih q⟩
  | tbl ps =>
    have e : h.get? a = some { cls := .none, data := .fields ps } := x
    show h'.get? a = some { cls := .none, data := .fields ps }
    exact k a _ (.inl rfl) e
  | met f y =>
    have e : h.get? a = some (PySem.W.methodObj (.ref f) (.ref y)) := x
    show h'.get? a = some (PySem.W.methodObj (.ref f) (.ref y))
    exact k a _ (.inl rfl) e
  | ext φ => obtain ⟨p, ⟨o, e⟩, st⟩ := x; exact ⟨st _ _ p fun o q => k _ _ (.inl rfl) q, ⟨o, k _ _ (.inl rfl) e⟩, st⟩
theorem HOk.lt (x : HOk P w H h) (e : H a = some o) : a < h.objs.size := (x a o e).lt
theorem HOk.fresh (x : HOk P w H h) (e : h.objs.size ≤ a) : H a = none := by
  cases q : H a with
  | none => rfl
  | some u => exact absurd (Nat.lt_of_lt_of_le (x.lt q) e) (Nat.lt_irrefl _)
/-- every object of the heap is kept -/
theorem HOk.kept (x : HOk P w H h) (k : ∀ b u, h.get? b = some u → h'.get? b = some u) : HOk P w H h' := fun a o e =>
  (x a o e).stay (fun b u _ q => k b u q) (fun _ q => q) fun _ _ q => q
/-- a new object is laid and tracked -/
theorem HOk.laid (x : HOk P w H h) (k : ∀ b u, h.get? b = some u → h'.get? b = some u) (hp : h.objs.size ≤ a) (new : ObjOk P w (upd H a o) h' a o) : HOk P w (upd H a o) h' := fun b u e => by
  have hn := x.fresh hp
  by_cases hb : b = a
  · subst hb; rw [upd_same] at e; cases e; exact new
  · rw [upd_ne hb] at e
    exact (x b u e).stay (fun c v _ q => k c v q) (fun c q => by rw [upd_ne (ne_of_none q hn)]; exact q) fun c xs q => by rw [upd_ne (ne_of_none q hn)]; exact q
end

/-- what may be read as u: it is u, or a known u -/
def Rd (H : Hp) (a : Addr) (u : HO) : Prop := H a = some u ∨ ∃ o, H a = some (.frz o u)
theorem Rd.ok {P : Program} {w : World} {H : Hp} {h : Heap} {a : Addr} {u : HO} (r : Rd H a u) (x : HOk P w H h) : ObjOk P w H h a u := by
  rcases r with r | ⟨o, r⟩
  · exact x a u r
  · obtain ⟨_, q⟩ := x a _ r
    exact q
/-- what may be written -/
def Mut : Option HO → Prop
  | some (.lst _) => True
  | some (.dK _) => True
  | some (.dT _) => True
  | some (.set _ _) => True
  | some (.ins _ _ _) => True
  | some (.ext _) => True
  | _ => False
section
variable {P : Program} {w : World} {H : Hp} {h h' : Heap} {x e : Addr} {o' : HO}
/-- the object at e is changed: x itself, or the dict of the instance x -/
theorem HOk.write (ok : HOk P w H h) (mu : Mut (H x)) (he : e = x ∨ H e = some (.own x)) (k : ∀ b u, b ≠ e → h.get? b = some u → h'.get? b = some u) (heo : ∃ u, h'.get? e = some u)
    (new : ObjOk P w (upd H x o') h' x o') : HOk P w (upd H x o') h' := fun b u q => by
  have nown : ∀ c y, H c = some (.own y) → c ≠ x := fun c y r z => by subst z; rw [r] at mu; exact mu
  have ntup : ∀ c xs, H c = some (.tup xs) → c ≠ x := fun c xs r z => by subst z; rw [r] at mu; exact mu
  by_cases hb : b = x
  · subst hb; rw [upd_same] at q; cases q; exact new
  · rw [upd_ne hb] at q
    by_cases hbe : b = e
    · have q' : H b = some (.own x) := by
        rcases he with z | z
        · exact absurd (hbe.trans z) hb
        · rw [hbe]; exact z
      rw [q] at q'; cases q'
      obtain ⟨v, hv⟩ := heo
      exact ⟨v, by rw [hbe]; exact hv⟩
    · refine (ok b u q).stay (fun c v hc r => k c v ?_ r) (fun c r => by rw [upd_ne (nown c b r)]; exact r) fun c xs r => by rw [upd_ne (ntup c xs r)]; exact r
      rcases hc with rfl | hc
      · exact hbe
      · rintro rfl
        rcases he with z | z
        · exact nown c b hc z
        · rw [hc] at z; cases z; exact hb rfl
end

/-! ### kept unless tracked; of the frames at fs (the callers') the slots may change (an exception that passes writes there); of the records at ex (iterators) nothing is said -/
structure Un (fs ex : List Addr) (H H' : Hp) (h h' : Heap) : Prop where
  keep : ∀ b o, h.get? b = some o → H b = none → b ∉ fs → b ∉ ex → h'.get? b = some o
  slot : ∀ b o, h.get? b = some o → H b = none → b ∈ fs → b ∉ ex → ∃ sl, h'.get? b = some { o with slots := sl }
  free : ∀ b o, h.get? b = some o → H b = none → b ∉ ex → H' b = none
  there : ∀ b o, h.get? b = some o → b ∉ ex → ∃ o', h'.get? b = some o'
  tups : ∀ b xs, H b = some (.tup xs) → H' b = some (.tup xs)
  frzs : ∀ b o u, H b = some (.frz o u) → H' b = some (.frz o u)
  tbls : ∀ b ps, H b = some (.tbl ps) → ∃ more, H' b = some (.tbl (ps ++ more))
section
variable {fs fs' ex ex' : List Addr} {H H1 H2 : Hp} {h h1 h2 h' : Heap} {a x e : Addr} {o : HO}
theorem Un.any (u : Un fs ex H H1 h h1) {b : Addr} {ob : Obj} (q : h.get? b = some ob) (n : H b = none) (hx : b ∉ ex) : ∃ sl, h1.get? b = some { ob with slots := sl } := by
  by_cases hb : b ∈ fs
  · exact u.slot b ob q n hb hx
  · exact ⟨ob.slots, u.keep b ob q n hb hx⟩
theorem Un.kept (k : ∀ b u, h.get? b = some u → h'.get? b = some u) : Un fs ex H H h h' :=
  ⟨fun b ob q _ _ _ => k b ob q, fun b ob q _ _ _ => ⟨ob.slots, k b ob q⟩, fun _ _ _ n _ => n, fun b ob q _ => ⟨ob, k b ob q⟩, fun _ _ q => q, fun _ _ _ q => q, fun _ ps q => ⟨#[], by rw [q]; simp⟩⟩
theorem Un.refl : Un fs ex H H h h := Un.kept fun _ _ q => q
theorem Un.laid (k : ∀ b u, h.get? b = some u → h'.get? b = some u) (hp : h.objs.size ≤ a) (hn : H a = none) : Un fs ex H (upd H a o) h h' where
  keep := fun b u q _ _ _ => k b u q
  slot := fun b u q _ _ _ => ⟨u.slots, k b u q⟩
  free := fun b u q n _ => by rw [upd_ne (Nat.ne_of_lt (Nat.lt_of_lt_of_le (Heap.lt_size q) hp))]; exact n
  there := fun b u q _ => ⟨u, k b u q⟩
  tups := fun b xs q => by rw [upd_ne (ne_of_none q hn)]; exact q
  frzs := fun b u xs q => by rw [upd_ne (ne_of_none q hn)]; exact q
  tbls := fun b ps q => ⟨#[], by rw [upd_ne (ne_of_none q hn), q]; simp⟩
theorem Un.write (mu : Mut (H x)) (he : e = x ∨ H e = some (.own x)) (k : ∀ b u, b ≠ e → h.get? b = some u → h'.get? b = some u) (heo : ∃ u, h'.get? e = some u) : Un fs ex H (upd H x o) h h' := by
  have hx : ∀ b, H b = none → b ≠ x := fun b n z => by subst z; rw [n] at mu; exact mu
  have hb : ∀ b, H b = none → b ≠ e := fun b n z => by
    subst z
    rcases he with r | r
    · exact hx b n r
    · rw [n] at r; cases r
  have hm : ∀ b u, H b = some u → ¬ Mut (some u) → b ≠ x := fun b u q nm z => by subst z; rw [q] at mu; exact nm mu
  refine ⟨fun b u q n _ _ => k b u (hb b n) q, fun b u q n _ _ => ⟨u.slots, k b u (hb b n) q⟩, fun b u q n _ => by rw [upd_ne (hx b n)]; exact n, fun b u q _ => ?_,
    fun b xs q => by rw [upd_ne (hm b _ q fun z => z)]; exact q, fun b u xs q => by rw [upd_ne (hm b _ q fun z => z)]; exact q, fun b ps q => ⟨#[], by rw [upd_ne (hm b _ q fun z => z), q]; simp⟩⟩
  by_cases hbe : b = e
  · subst hbe; exact heo
  · exact ⟨u, k b u hbe q⟩
end

/-! ### the heap without what is tracked -/
def trk (h : Heap) (H : Hp) : List Addr := (List.range h.objs.size).filter fun a => (H a).isSome
def hidT (h : Heap) (H : Hp) : Heap := PySem.W.hideAll h (trk h H)
theorem hidT_size (h : Heap) (H : Hp) : (hidT h H).objs.size = h.objs.size := PySem.W.hideAll_size _ _
theorem hidT_get {h : Heap} {H : Hp} {b : Addr} {o : Obj} (e : h.get? b = some o) (n : H b = none) : (hidT h H).get? b = some o :=
  PySem.W.hideAll_get _ e fun hm => by
    have q : (H b).isSome = true := (List.mem_filter.mp hm).2
    rw [n] at q; simp at q
theorem of_hidT {h : Heap} {H : Hp} {b : Addr} {o : Obj} (e : (hidT h H).get? b = some o) : h.get? b = some o ∧ H b = none := by
  have e' : h.get? b = some o := PySem.W.of_hideAll (trk h H) e
  refine ⟨e', ?_⟩
  cases q : H b with
  | none => rfl
  | some x =>
    have hm : b ∈ trk h H := List.mem_filter.mpr ⟨List.mem_range.mpr (Heap.lt_size e'), by simp [q]⟩
    have z : (hidT h H).get? b = none := PySem.W.hideAll_none (trk h H) hm
    rw [z] at e; cases e

/-! ### OpenK's ledger, filled with every new object but one -/
end L2

namespace L2
open PySem PySem.Spec PyProof.Rows

/-- the module's facts, over the base: the heap at the law's entry without what is tracked there -/
structure Mod (K : PySem.W.Frag) (mg : Str → Option Value) (base : Heap) : Prop where
  kin : K.In base
  glob : base.Ns mainGlobals mg
  blt : ∃ mb, base.Ns builtinsNs mb ∧ ∀ x : Str, x ≠ "__name__" → mb x = bootBuiltins x
  nolimit : base.NoLimit

/-- the context: a def's body (or a comprehension's block) running. base: fixed through the whole law; s₀, H₀: the entry; outer: the frames whose slots others may change (a def's callers); stack: all frames that run;
   ex: iterators that were made ahead of the entry and are walked here (a comprehension's); fn: the names whose cells were made at the entry (a def: all; a comprehension's block: its own); calm: not within an except suite; pn: pins that every state bears; xe: what is wanted of an exception that leaves the code -/
structure Cx where
  prog : Program
  w : World
  K : PySem.W.Frag
  mg : Str → Option Value
  base : Heap
  A : Around
  N : List Str
  s₀ : Shared
  H₀ : Hp
  env : Env
  outer : List Env
  stack : List Env
  ex : List Addr
  fn : Str → Bool
  calm : Bool
  pn : List (Addr × Obj)
  xe : Value → Shared → Prop
/-- the callers' frames -/
def frs (l : List Env) : List Addr := l.filterMap (·.frame)
abbrev Cx.fs (X : Cx) : List Addr := frs X.outer

def Vis (sc : Scope) (x : Str) : Prop := sc.names.lookup x = some .local ∨ sc.names.lookup x = some .cell ∨ sc.names.lookup x = some .free
def Loc (sc : Scope) (x : Str) : Prop := sc.names.lookup x = some .local ∨ sc.names.lookup x = some .cell
def Look (env : Env) (h : Heap) (m : Str → Option Value) (x : Str) (u : Value) : Prop :=
  (env.kindOf x = some .local ∧ m x = some u) ∨ ((env.kindOf x = some .cell ∨ env.kindOf x = some .free) ∧ ∃ c, env.cells.lookup x = some c ∧ h.IsCell c (some u))

structure Cx.Ok (X : Cx) : Prop where
  mod : Mod X.K X.mg X.base
  kind : X.env.scope.kind = .function
  glob : X.env.globals = mainGlobals
  blt : X.env.builtins = builtinsNs
  above : X.s₀.heap.objs.size ≤ X.env.locals
  inj : ∀ x y c, X.env.cells.lookup x = some c → X.env.cells.lookup y = some c → x = y
  has : ∀ x, (X.env.kindOf x = some .cell ∨ X.env.kindOf x = some .free) → ∃ c, X.env.cells.lookup x = some c
  cab : ∀ x c, X.fn x = true → X.env.cells.lookup x = some c → X.s₀.heap.objs.size ≤ c
  hd : X.calm = true → X.A.handled = none
  frames : X.A.frames = some X.stack
  stk : X.stack = X.outer ∨ (X.stack = X.env :: X.outer ∧ X.env.frame = some X.env.locals)
  exf : ∀ b ∈ X.ex, b ≠ X.env.locals ∧ ∀ x c, X.env.cells.lookup x = some c → c ≠ b
  bs : ∀ b o, X.base.get? b = some o → X.s₀.heap.get? b = some o ∧ X.H₀ b = none
  bsz : X.base.objs.size ≤ X.s₀.heap.objs.size
  noex : ∀ b o, X.base.get? b = some o → b ∉ X.ex
  exfs : ∀ b ∈ X.ex, b ∉ X.fs
  funs : X.s₀.heap.FunFrames X.base X.outer
  frf : ∀ b ∈ X.fs, X.H₀ b = none

structure Inv (X : Cx) (pins : List (Addr × Obj)) (σ : List (Option V)) (H : Hp) (s : Shared) : Prop where
  ok : X.Ok
  os : s.os = X.s₀.os
  bare : AllBare s.gens
  base : Un X.fs X.ex X.H₀ H X.s₀.heap s.heap
  loc : ∃ m, s.heap.Ns X.env.locals m ∧ ∀ (i : Nat) (x : Str) (v : V), X.N[i]? = some x → σ[i]? = some (some v) → Vis X.env.scope x → ∃ u, RelV v u ∧ Look X.env s.heap m x u
  cell : ∀ x c, X.env.cells.lookup x = some c → ∃ v, s.heap.IsCell c v
  free : H X.env.locals = none
  freeC : ∀ x c, X.env.cells.lookup x = some c → H c = none
  pin : ∀ p ∈ X.pn ++ pins, s.heap.get? p.1 = some p.2 ∧ H p.1 = none ∧ p.1 ≠ X.env.locals ∧ p.1 ∉ X.fs ∧ ∀ v, p.2.data ≠ .cell v
  hok : HOk X.prog X.w H s.heap
  len : σ.length = X.N.length

section
variable {X : Cx} {pins : List (Addr × Obj)} {σ : List (Option V)} {H H' : Hp} {s : Shared} {h' : Heap}

theorem Cx.Ok.nofr (ok : X.Ok) {b : Addr} {o : Obj} (e : X.base.get? b = some o) : b ∉ X.fs := fun hb => by
  have := (ok.funs.mem hb).1
  rw [e] at this; cases this
theorem Inv.bs (I : Inv X pins σ H s) : ∀ b o, X.base.get? b = some o → s.heap.get? b = some o ∧ H b = none := fun b o e =>
  ⟨I.base.keep b o (I.ok.bs b o e).1 (I.ok.bs b o e).2 (I.ok.nofr e) (I.ok.noex b o e), I.base.free b o (I.ok.bs b o e).1 (I.ok.bs b o e).2 (I.ok.noex b o e)⟩
theorem Inv.bk (I : Inv X pins σ H s) : ∀ b o, X.base.get? b = some o → s.heap.get? b = some o := fun b o e => (I.bs b o e).1
theorem Inv.mod (I : Inv X pins σ H s) : Mod X.K X.mg X.base := I.ok.mod
theorem Inv.kIn (I : Inv X pins σ H s) : X.K.In s.heap := I.ok.mod.kin.keeps I.bk
theorem Inv.lt (I : Inv X pins σ H s) : X.env.locals < s.heap.objs.size := let ⟨_, hn, _⟩ := I.loc; hn.lt
theorem Inv.sz (I : Inv X pins σ H s) : X.s₀.heap.objs.size ≤ s.heap.objs.size := Nat.le_trans I.ok.above (Nat.le_of_lt I.lt)
theorem Inv.nofs (I : Inv X pins σ H s) {a : Addr} (h : s.heap.objs.size ≤ a) : a ∉ X.fs := fun hb => by
  obtain ⟨_, o, ho, _⟩ := I.ok.funs.mem hb
  exact absurd (Nat.lt_of_lt_of_le (Heap.lt_size ho) (Nat.le_trans I.sz h)) (Nat.lt_irrefl _)
theorem Inv.cne (I : Inv X pins σ H s) : ∀ x c, X.env.cells.lookup x = some c → c ≠ X.env.locals := fun x c e z => by
  obtain ⟨v, o, ho, hd⟩ := I.cell x c e
  obtain ⟨m, ⟨o', es, ep, ho', hd', _⟩, _⟩ := I.loc
  rw [z, ho'] at ho; cases ho; rw [hd'] at hd; cases hd
theorem Inv.funs (I : Inv X pins σ H s) : s.heap.FunFrames X.base X.outer := by
  have all : ∀ (l : List Env), (∀ b ∈ frs l, b ∈ X.fs) → X.s₀.heap.FunFrames X.base l → s.heap.FunFrames X.base l := by
    intro l
    induction l with
    | nil => intro _ _; trivial
    | cons env r ih =>
      intro hs hl
      obtain ⟨hk, ⟨L, o, hf, hn, ho, hd⟩, hr⟩ := hl
      have hL : L ∈ X.fs := hs L (by unfold frs; rw [List.filterMap_cons, hf]; exact List.mem_cons_self)
      obtain ⟨sl, e⟩ := I.base.slot L o ho (I.ok.frf L hL) hL fun z => I.ok.exfs L z hL
      exact ⟨hk, ⟨L, _, hf, hn, e, hd⟩, ih (fun b hb => hs b (by unfold frs; rw [List.filterMap_cons, hf]; exact List.mem_cons_of_mem _ hb)) hr⟩
  exact all X.outer (fun _ hb => hb) I.ok.funs

/-- the frames that run, for a call -/
theorem Inv.stack (I : Inv X pins σ H s) : s.heap.FunFrames X.base X.stack := by
  rcases I.ok.stk with e | ⟨e, hf⟩
  · rw [e]; exact I.funs
  · rw [e]
    obtain ⟨m, hn, _⟩ := I.loc
    refine .cons (by rw [I.ok.kind]; decide) hf hn ?_ I.funs
    exact Heap.get?_none_of_le (Nat.le_trans I.ok.bsz I.ok.above)
theorem Inv.stkSub (I : Inv X pins σ H s) : ∀ b ∈ frs X.stack, b ∈ X.env.locals :: X.fs := fun b hb => by
  rcases I.ok.stk with e | ⟨e, hf⟩
  · rw [e] at hb; exact List.mem_cons_of_mem _ hb
  · rw [e] at hb
    unfold frs at hb
    rw [List.filterMap_cons, hf] at hb
    exact hb
theorem Inv.stkFree (I : Inv X pins σ H s) : ∀ b ∈ frs X.stack, H b = none := fun b hb => by
  rcases List.mem_cons.mp (I.stkSub b hb) with e | hb
  · rw [e]; exact I.free
  · obtain ⟨_, o, ho, _⟩ := I.ok.funs.mem hb
    exact I.base.free b o ho (I.ok.frf b hb) fun z => I.ok.exfs b z hb

/-- THE STEP: the untracked objects but the frame and the records at ch are kept (the callers' frames up to slots), the frame's map is kept, the new abstract heap is held -/
theorem Inv.step {g' : Array GenState} {t' : Nat} {d' : Drawn} {ch : List Addr} (I : Inv X pins σ H s)
    (hch : ∀ b ∈ ch, (b ∈ X.ex ∨ X.s₀.heap.objs.size ≤ b) ∧ b ≠ X.env.locals ∧ (∀ x c, X.env.cells.lookup x = some c → c ≠ b) ∧ ∀ p ∈ X.pn ++ pins, p.1 ≠ b)
    (keep : ∀ b o, b ≠ X.env.locals → b ∉ X.fs → b ∉ ch → s.heap.get? b = some o → H b = none → h'.get? b = some o)
    (slot : ∀ b o, b ≠ X.env.locals → b ∈ X.fs → b ∉ ch → s.heap.get? b = some o → H b = none → ∃ sl, h'.get? b = some { o with slots := sl }) (free : ∀ b o, b ∉ ch → s.heap.get? b = some o → H b = none → H' b = none)
    (there : ∀ b o, b ∉ ch → s.heap.get? b = some o → ∃ o', h'.get? b = some o')
    (tups : ∀ b xs, H b = some (.tup xs) → H' b = some (.tup xs)) (frzs : ∀ b o u, H b = some (.frz o u) → H' b = some (.frz o u)) (tbls : ∀ b ps, H b = some (.tbl ps) → ∃ more, H' b = some (.tbl (ps ++ more)))
    (ns : ∀ m, s.heap.Ns X.env.locals m → h'.Ns X.env.locals m) (hok : HOk X.prog X.w H' h') (hg : AllBare g') :
    Inv X pins σ H' { s with heap := h', gens := g', drawn := d', toks := t' } := by
  have neL : ∀ b o, X.s₀.heap.get? b = some o → b ≠ X.env.locals := fun b o e => Nat.ne_of_lt (Nat.lt_of_lt_of_le (Heap.lt_size e) I.ok.above)
  have neC : ∀ b o, X.s₀.heap.get? b = some o → b ∉ X.ex → b ∉ ch := fun b o e hx hb => by
    rcases (hch b hb).1 with z | z
    · exact hx z
    · exact absurd (Nat.lt_of_lt_of_le (Heap.lt_size e) z) (Nat.lt_irrefl _)
  have cellK : ∀ x c, X.env.cells.lookup x = some c → ∀ v, s.heap.IsCell c v → h'.IsCell c v := fun x c e v ⟨o, ho, hd⟩ => by
    have nch : c ∉ ch := fun z => (hch c z).2.2.1 x c e rfl
    by_cases hc : c ∈ X.fs
    · obtain ⟨sl, q⟩ := slot c o (I.cne x c e) hc nch ho (I.freeC x c e)
      exact ⟨_, q, hd⟩
    · exact ⟨o, keep c o (I.cne x c e) hc nch ho (I.freeC x c e), hd⟩
  refine ⟨I.ok, I.os, hg, ⟨fun b o e n hb hx => ?_, fun b o e n hb hx => ?_, fun b o e n hx => ?_, fun b o e hx => ?_, fun b xs e => tups b xs (I.base.tups b xs e), fun b o xs e => frzs b o xs (I.base.frzs b o xs e), fun b ps e => ?_⟩, ?_, fun x c e => ?_, ?_, fun x c e => ?_, fun p hp => ?_, hok, I.len⟩
  · exact keep b o (neL b o e) hb (neC b o e hx) (I.base.keep b o e n hb hx) (I.base.free b o e n hx)
  · obtain ⟨sl, e1⟩ := I.base.slot b o e n hb hx
    obtain ⟨sl', e2⟩ := slot b _ (neL b o e) hb (neC b o e hx) e1 (I.base.free b o e n hx)
    exact ⟨sl', e2⟩
  · obtain ⟨o', e1⟩ := I.base.there b o e hx
    exact free b o' (neC b o e hx) e1 (I.base.free b o e n hx)
  · obtain ⟨o', e1⟩ := I.base.there b o e hx
    exact there b o' (neC b o e hx) e1
  · obtain ⟨m1, e1⟩ := I.base.tbls b ps e
    obtain ⟨m2, e2⟩ := tbls b _ e1
    exact ⟨m1 ++ m2, by rw [e2, Array.append_assoc]⟩
  · obtain ⟨m, hn, hl⟩ := I.loc
    refine ⟨m, ns m hn, fun i x v e1 e2 e3 => ?_⟩
    obtain ⟨u, r, l⟩ := hl i x v e1 e2 e3
    refine ⟨u, r, ?_⟩
    rcases l with l | ⟨k, c, e, z⟩
    · exact .inl l
    · exact .inr ⟨k, c, e, cellK x c e _ z⟩
  · obtain ⟨v, z⟩ := I.cell x c e
    exact ⟨v, cellK x c e v z⟩
  · obtain ⟨m, ⟨o, _, _, ho, _⟩, _⟩ := I.loc
    exact free _ o (fun z => (hch _ z).2.1 rfl) ho I.free
  · obtain ⟨v, o, ho, hd⟩ := I.cell x c e
    exact free c o (fun z => (hch c z).2.2.1 x c e rfl) ho (I.freeC x c e)
  · obtain ⟨e, n, ne, nf, d⟩ := I.pin p hp
    have nch : p.1 ∉ ch := fun z => (hch p.1 z).2.2.2 p hp rfl
    exact ⟨keep p.1 p.2 ne nf nch e n, free p.1 p.2 nch e n, ne, nf, d⟩
/-- .. where the frame's own object is kept too -/
theorem Inv.un {t' : Nat} (I : Inv X pins σ H s) (u : Un X.fs [] H H' s.heap h') (hok : HOk X.prog X.w H' h') : Inv X pins σ H' { s with heap := h', toks := t' } := by
  obtain ⟨m, ⟨o, es, ep, ho, r⟩, _⟩ := id I.loc
  obtain ⟨sl, hL⟩ := u.any ho I.free (by simp)
  exact I.step (g' := s.gens) (d' := s.drawn) (ch := []) (fun _ z => nomatch z) (fun b o _ hb _ e n => u.keep b o e n hb (by simp)) (fun b o _ hb _ e n => u.slot b o e n hb (by simp)) (fun b o _ e n => u.free b o e n (by simp)) (fun b o _ e => u.there b o e (by simp)) u.tups u.frzs u.tbls (fun m' hm => by
    obtain ⟨o', es', ep', ho', r'⟩ := hm
    rw [ho] at ho'; cases ho'
    exact ⟨_, es', ep', hL, r'⟩) hok I.bare
/-- behind a call (or a comprehension's block): the slots of this frame may have changed too, the records at ch may have turned -/
theorem Inv.call {g' : Array GenState} {t' : Nat} {d' : Drawn} {ch : List Addr} (I : Inv X pins σ H s) (u : Un (frs X.stack) ch H H' s.heap h') (hok : HOk X.prog X.w H' h') (hg : AllBare g')
    (hch : ∀ b ∈ ch, (b ∈ X.ex ∨ X.s₀.heap.objs.size ≤ b) ∧ b ≠ X.env.locals ∧ (∀ x c, X.env.cells.lookup x = some c → c ≠ b) ∧ ∀ p ∈ X.pn ++ pins, p.1 ≠ b) :
    Inv X pins σ H' { s with heap := h', gens := g', drawn := d', toks := t' } := by
  obtain ⟨m, ⟨o, es, ep, ho, r⟩, _⟩ := id I.loc
  obtain ⟨sl, hL⟩ := u.any ho I.free fun z => (hch _ z).2.1 rfl
  exact I.step (ch := ch) hch (fun b o hL hb hc e n => u.keep b o e n (fun z => (List.mem_cons.mp (I.stkSub b z)).elim hL hb) hc) (fun b o _ _ hc e n => u.any e n hc) (fun b o hc e n => u.free b o e n hc) (fun b o hc e => u.there b o e hc) u.tups u.frzs u.tbls (fun m' hm => by
    obtain ⟨o', es', ep', ho', r'⟩ := hm
    rw [ho] at ho'; cases ho'
    exact ⟨_, es', ep', hL, r'⟩) hok hg
/-- an untracked record of ours (an iterator) has turned -/
theorem Inv.turned {t' : Nat} {it : Addr} (I : Inv X pins σ H s) (k : ∀ b o, b ≠ it → s.heap.get? b = some o → h'.get? b = some o) (hn : H it = none) (hL : it ≠ X.env.locals)
    (h1 : it ∈ X.ex ∨ X.s₀.heap.objs.size ≤ it) (h2 : ∀ x c, X.env.cells.lookup x = some c → c ≠ it) (h3 : ∀ p ∈ X.pn ++ pins, p.1 ≠ it) : Inv X pins σ H { s with heap := h', toks := t' } := by
  have nit : ∀ b u, H b = some u → b ≠ it := fun b u e z => by rw [z, hn] at e; cases e
  refine I.step (g' := s.gens) (d' := s.drawn) (ch := [it]) (fun b hb => ?_) (fun b o _ _ hc e _ => k b o (fun z => hc (by simp [z])) e) (fun b o _ _ hc e _ => ⟨o.slots, k b o (fun z => hc (by simp [z])) e⟩) (fun _ _ _ _ n => n)
    (fun b o hc e => ⟨o, k b o (fun z => hc (by simp [z])) e⟩) (fun _ _ e => e) (fun _ _ _ e => e) (fun b ps e => ⟨#[], by rw [e]; simp⟩) (fun m hm => ?_) (fun b u e => ?_) I.bare
  · have e : b = it := by simpa using hb
    subst e
    exact ⟨h1, hL, h2, h3⟩
  · obtain ⟨o, es, ep, ho, r⟩ := hm
    exact ⟨o, es, ep, k _ o (Ne.symm hL) ho, r⟩
  · refine (I.hok b u e).stay (fun c v hc q => k c v ?_ q) (fun _ q => q) fun _ _ q => q
    rcases hc with z | z
    · rw [z]; exact nit b u e
    · exact nit c _ z
theorem Inv.tok (I : Inv X pins σ H s) (t : Nat) : Inv X pins σ H { s with toks := t } := I.un (h' := s.heap) (t' := t) Un.refl I.hok
/-- all objects kept -/
theorem Inv.kept {t' : Nat} (I : Inv X pins σ H s) (k : ∀ b u, s.heap.get? b = some u → h'.get? b = some u) : Inv X pins σ H { s with heap := h', toks := t' } := I.un (Un.kept k) (I.hok.kept k)
/-- a new object laid and tracked -/
theorem Inv.laid {a : Addr} {o : HO} {t' : Nat} (I : Inv X pins σ H s) (k : ∀ b u, s.heap.get? b = some u → h'.get? b = some u) (hp : s.heap.objs.size ≤ a) (new : ObjOk X.prog X.w (upd H a o) h' a o) :
    Inv X pins σ (upd H a o) { s with heap := h', toks := t' } := I.un (Un.laid k hp (I.hok.fresh hp)) (I.hok.laid k hp new)
/-- an object written -/
theorem Inv.write {x e : Addr} {o : HO} {t' : Nat} (I : Inv X pins σ H s) (mu : Mut (H x)) (he : e = x ∨ H e = some (.own x)) (k : ∀ b u, b ≠ e → s.heap.get? b = some u → h'.get? b = some u) (heo : ∃ u, h'.get? e = some u)
    (new : ObjOk X.prog X.w (upd H x o) h' x o) : Inv X pins σ (upd H x o) { s with heap := h', toks := t' } := I.un (Un.write mu he k heo) (I.hok.write mu he k heo new)
theorem Inv.pins_of {pins' : List (Addr × Obj)} (I : Inv X pins σ H s) (h : ∀ p ∈ pins', s.heap.get? p.1 = some p.2 ∧ H p.1 = none ∧ p.1 ≠ X.env.locals ∧ p.1 ∉ X.fs ∧ ∀ v, p.2.data ≠ .cell v) : Inv X pins' σ H s :=
  ⟨I.ok, I.os, I.bare, I.base, I.loc, I.cell, I.free, I.freeC, fun p hp => (List.mem_append.mp hp).elim (fun z => I.pin p (List.mem_append_left _ z)) (h p), I.hok, I.len⟩

theorem nodup_ix {N : List Str} (hN : N.Nodup) {i j : Nat} {x : Str} (a : N[i]? = some x) (b : N[j]? = some x) : i = j := by
  obtain ⟨h1, e1⟩ := List.getElem?_eq_some_iff.mp a
  obtain ⟨h2, e2⟩ := List.getElem?_eq_some_iff.mp b
  exact (List.getElem_inj hN).mp (e1.trans e2.symm)

/-- a name is stored; what changed -/
theorem store_ok2 {M : Model} {A : Around} {E : Value → Shared → Prop} {i : Nat} {x : Str} {v : V} {u : Value} {Q : Unit → Shared → Prop} (I : Inv X pins σ H s) (hN : X.N.Nodup) (hi : X.N[i]? = some x) (hx : Loc X.env.scope x) (r : RelV v u)
    (h : ∀ s', Inv X pins (σ.set i (some v)) H s' → (∃ a, Heap.SameBut a s.heap s'.heap ∧ (a = X.env.locals ∨ X.env.cells.lookup x = some a)) → Q () s') (hf : X.fn x = true ∨ X.env.scope.names.lookup x = some .local := by first | exact .inl rfl | exact .inr rfl | assumption) : wpAny M A (storeName X.env x u) Q E s := by
  obtain ⟨m, hn, hl⟩ := id I.loc
  have hcls : (X.env.scope.kind == .class || (X.env.scope.kind == .module && X.env.locals != X.env.globals)) = false := by rw [I.ok.kind]; rfl
  have hiσ : i < σ.length := by rw [I.len]; exact (List.getElem?_eq_some_iff.mp hi).1
  have cne := I.cne
  have tracked : ∀ {a : Addr} {h' : Heap}, (∃ o, s.heap.get? a = some o ∧ H a = none) → Heap.SameBut a s.heap h' → HOk X.prog X.w H h' := fun {a h'} ha hs b ob e => by
    obtain ⟨_, _, hfree⟩ := ha
    refine (I.hok b ob e).stay (fun c w' hc q => (hs.2 c ?_).trans q) (fun _ q => q) fun _ _ q => q
    rintro rfl
    rcases hc with rfl | hc
    · rw [hfree] at e; cases e
    · rw [hfree] at hc; cases hc
  rcases hx with hk | hk
  · refine wpAny_storeName_local hk hn (fun h' hn' hs => ?_) hcls
    obtain ⟨oL, _, _, hoL, _⟩ := id hn
    refine h _ ⟨I.ok, I.os, I.bare, ⟨fun b o e n hb hx => ?_, fun b o e n hb hx => ?_, I.base.free, fun b o e hx => ?_, I.base.tups, I.base.frzs, I.base.tbls⟩, ⟨_, hn', fun j y v' e1 e2 e3 => ?_⟩, fun y c e => ?_, I.free, I.freeC, fun p hp => ?_, tracked ⟨oL, hoL, I.free⟩ hs, by simpa using I.len⟩ ⟨_, hs, .inl rfl⟩
    · exact (hs.2 b (Nat.ne_of_lt (Nat.lt_of_lt_of_le (Heap.lt_size e) I.ok.above))).trans (I.base.keep b o e n hb hx)
    · obtain ⟨sl, e1⟩ := I.base.slot b o e n hb hx
      exact ⟨sl, (hs.2 b (Nat.ne_of_lt (Nat.lt_of_lt_of_le (Heap.lt_size e) I.ok.above))).trans e1⟩
    · obtain ⟨o', e1⟩ := I.base.there b o e hx
      exact ⟨o', (hs.2 b (Nat.ne_of_lt (Nat.lt_of_lt_of_le (Heap.lt_size e) I.ok.above))).trans e1⟩
    · by_cases hj : j = i
      · subst hj
        rw [hi] at e1; cases e1
        rw [List.getElem?_set_self hiσ] at e2
        cases e2
        exact ⟨u, r, .inl ⟨hk, by simp⟩⟩
      · rw [List.getElem?_set_ne (Ne.symm hj)] at e2
        obtain ⟨u', r', q⟩ := hl j y v' e1 e2 e3
        refine ⟨u', r', ?_⟩
        rcases q with ⟨k, e⟩ | ⟨k, c, e, z⟩
        · refine .inl ⟨k, ?_⟩
          have : y ≠ x := fun e => hj (nodup_ix hN e1 (e ▸ hi))
          simp [this, e]
        · exact .inr ⟨k, c, e, z.sameBut hs (cne y c e)⟩
    · obtain ⟨w', z⟩ := I.cell y c e
      exact ⟨w', z.sameBut hs (cne y c e)⟩
    · obtain ⟨e, n, ne, nf, d⟩ := I.pin p hp
      exact ⟨(hs.2 p.1 ne).trans e, n, ne, nf, d⟩
  · have hfn : X.fn x = true := by
      rcases hf with z | z
      · exact z
      · rw [z] at hk; cases hk
    obtain ⟨c, hc⟩ := I.ok.has x (.inl hk)
    obtain ⟨w', z⟩ := I.cell x c hc
    refine wpAny_storeName_cell I.ok.kind hk hc z (fun h' hc' hs => ?_)
    obtain ⟨oc, hoc, hocd⟩ := id z
    refine h { s with heap := h' } ⟨I.ok, I.os, I.bare, ⟨fun b o e n hb hx => ?_, fun b o e n hb hx => ?_, I.base.free, fun b o e hx => ?_, I.base.tups, I.base.frzs, I.base.tbls⟩, ⟨m, hn.sameBut hs (Ne.symm (cne x c hc)), fun j y v' e1 e2 e3 => ?_⟩, fun y c' e => ?_, I.free, I.freeC, fun p hp => ?_, tracked ⟨oc, hoc, I.freeC x c hc⟩ hs, by simpa using I.len⟩ ⟨c, hs, .inr hc⟩
    · exact (hs.2 b (Nat.ne_of_lt (Nat.lt_of_lt_of_le (Heap.lt_size e) (I.ok.cab x c hfn hc)))).trans (I.base.keep b o e n hb hx)
    · obtain ⟨sl, e1⟩ := I.base.slot b o e n hb hx
      exact ⟨sl, (hs.2 b (Nat.ne_of_lt (Nat.lt_of_lt_of_le (Heap.lt_size e) (I.ok.cab x c hfn hc)))).trans e1⟩
    · obtain ⟨o', e1⟩ := I.base.there b o e hx
      exact ⟨o', (hs.2 b (Nat.ne_of_lt (Nat.lt_of_lt_of_le (Heap.lt_size e) (I.ok.cab x c hfn hc)))).trans e1⟩
    · by_cases hj : j = i
      · subst hj
        rw [hi] at e1; cases e1
        rw [List.getElem?_set_self hiσ] at e2
        cases e2
        exact ⟨u, r, .inr ⟨.inl hk, c, hc, hc'⟩⟩
      · rw [List.getElem?_set_ne (Ne.symm hj)] at e2
        obtain ⟨u', r', q⟩ := hl j y v' e1 e2 e3
        refine ⟨u', r', ?_⟩
        rcases q with q | ⟨k, c', e, z'⟩
        · exact .inl q
        · refine .inr ⟨k, c', e, z'.sameBut hs ?_⟩
          rintro rfl
          exact hj (nodup_ix hN e1 (I.ok.inj _ _ _ e hc ▸ hi))
    · by_cases hcc : c' = c
      · subst hcc; exact ⟨_, hc'⟩
      · obtain ⟨w2, z2⟩ := I.cell y c' e
        exact ⟨w2, z2.sameBut hs hcc⟩
    · obtain ⟨e, n, ne, nf, d⟩ := I.pin p hp
      refine ⟨(hs.2 p.1 ?_).trans e, n, ne, nf, d⟩
      intro q
      rw [q, hoc] at e
      have q' : oc = p.2 := Option.some.inj e
      exact d w' (by rw [← q']; exact hocd)
theorem store_ok {M : Model} {A : Around} {E : Value → Shared → Prop} {i : Nat} {x : Str} {v : V} {u : Value} {Q : Unit → Shared → Prop} (I : Inv X pins σ H s) (hN : X.N.Nodup) (hi : X.N[i]? = some x) (hx : Loc X.env.scope x) (r : RelV v u)
    (h : ∀ s', Inv X pins (σ.set i (some v)) H s' → Q () s') (hf : X.fn x = true ∨ X.env.scope.names.lookup x = some .local := by first | exact .inl rfl | exact .inr rfl | assumption) : wpAny M A (storeName X.env x u) Q E s :=
  store_ok2 I hN hi hx r (fun s' I' _ => h s' I') hf
/-- behind a call or a block, the state as it is -/
theorem Inv.call' {s' : Shared} {ch : List Addr} (I : Inv X pins σ H s) (ho : s'.os = s.os) (u : Un (frs X.stack) ch H H' s.heap s'.heap) (hok : HOk X.prog X.w H' s'.heap) (hg : AllBare s'.gens)
    (hch : ∀ b ∈ ch, (b ∈ X.ex ∨ X.s₀.heap.objs.size ≤ b) ∧ b ≠ X.env.locals ∧ (∀ x c, X.env.cells.lookup x = some c → c ≠ b) ∧ ∀ p ∈ X.pn ++ pins, p.1 ≠ b) : Inv X pins σ H' s' := by
  obtain ⟨h', g', d', t', o'⟩ := s'
  have e : o' = s.os := ho
  subst e
  exact I.call (g' := g') (t' := t') (d' := d') u hok hg hch
end

/-! ### the judgements -/
/-- an exception: its class, its own dict's address (where it has one), the abstract heap behind it -/
abbrev XK := Value → Option Addr → Hp → Prop
abbrev St := List (Option V)
abbrev VK := V → Hp → Prop
/-- an expression's reading; a test's; an argument list's -/
abbrev TE := St → Hp → VK → Prop
abbrev TT := St → Hp → (Bool → Hp → Prop) → Prop
abbrev TA := St → Hp → (List V → Hp → Prop) → Prop
/-- what is wanted behind a statement -/
structure Ends where
  nx : St → Hp → Prop
  rt : VK
  bk : St → Hp → Prop := fun _ _ => False
  ct : St → Hp → Prop := fun _ _ => False
abbrev TS := Ends → St → Hp → Prop

def EP (X : Cx) (pins : List (Addr × Obj)) (σ : St) (Q : VK) (u : Value) (s' : Shared) : Prop := ∃ v H', Inv X pins σ H' s' ∧ RelV v u ∧ Q v H'
def TP (X : Cx) (pins : List (Addr × Obj)) (σ : St) (Q : Bool → Hp → Prop) (b : Bool) (s' : Shared) : Prop := ∃ H', Inv X pins σ H' s' ∧ Q b H'
def AP (X : Cx) (pins : List (Addr × Obj)) (σ : St) (Q : List V → Hp → Prop) (us : List Value) (s' : Shared) : Prop := ∃ vs H', Inv X pins σ H' s' ∧ Vals vs us ∧ Q vs H'
def SP (X : Cx) (pins : List (Addr × Obj)) (D : Ends) (f : Flow) (s' : Shared) : Prop :=
  match f with
  | .next => ∃ σ' H', Inv X pins σ' H' s' ∧ D.nx σ' H'
  | .brk => ∃ σ' H', Inv X pins σ' H' s' ∧ D.bk σ' H'
  | .cont => ∃ σ' H', Inv X pins σ' H' s' ∧ D.ct σ' H'
  | .ret u => ∃ v σ' H', Inv X pins σ' H' s' ∧ RelV v u ∧ D.rt v H'

def PE (X : Cx) (e : Expr) (t : TE) : Prop :=
  ∀ (pins : List (Addr × Obj)) (s : Shared) (σ : St) (H : Hp) (Q : VK), Inv X pins σ H s → t σ H Q → wpAny (model X.prog X.w) X.A (eval e X.env) (EP X pins σ Q) X.xe s
def PT (X : Cx) (e : Expr) (t : TT) : Prop :=
  ∀ (pins : List (Addr × Obj)) (s : Shared) (σ : St) (H : Hp) (Q : Bool → Hp → Prop), Inv X pins σ H s → t σ H Q → wpAny (model X.prog X.w) X.A (isTrue e X.env (eval e X.env)) (TP X pins σ Q) X.xe s
/-- a test whatever its 'whole' is (and, or) -/
def PW (X : Cx) (e : Expr) (t : TT) : Prop :=
  ∀ (whole : Sem Value) (pins : List (Addr × Obj)) (s : Shared) (σ : St) (H : Hp) (Q : Bool → Hp → Prop), Inv X pins σ H s → t σ H Q → wpAny (model X.prog X.w) X.A (isTrue e X.env whole) (TP X pins σ Q) X.xe s
theorem PW.pt {X : Cx} {e : Expr} {t : TT} (h : PW X e t) : PT X e t := h _
/-- an argument list (no star), from the left -/
def PA (X : Cx) (es : List Expr) (t : TA) : Prop :=
  ∀ (pos : Pos) (pins : List (Addr × Obj)) (s : Shared) (σ : St) (H : Hp) (Q : List V → Hp → Prop), Inv X pins σ H s → t σ H Q → wpAny (model X.prog X.w) X.A (spliced (backTo pos (starEach es X.env))) (AP X pins σ Q) X.xe s
def PS (X : Cx) (st : Stmt) (t : TS) : Prop :=
  ∀ (pins : List (Addr × Obj)) (s : Shared) (σ : St) (H : Hp) (D : Ends), Inv X pins σ H s → t D σ H → wpAny (model X.prog X.w) X.A (exec st X.env) (SP X pins D) X.xe s
def PSs (X : Cx) (st : List Stmt) (t : TS) : Prop :=
  ∀ (pins : List (Addr × Obj)) (s : Shared) (σ : St) (H : Hp) (D : Ends), Inv X pins σ H s → t D σ H → wpAny (model X.prog X.w) X.A (execs st X.env) (SP X pins D) X.xe s
/-- weaken the end -/
theorem thn {α : Type} {t : Sem α} {Q Q' : α → Shared → Prop} {M : Model} {A : Around} {E : Value → Shared → Prop} {s : Shared} (h : wpAny M A t Q E s) (hQ : ∀ a s, Q a s → Q' a s) : wpAny M A t Q' E s := wpAny_mono h hQ fun _ _ x => x
end L2

namespace L2
open PySem PySem.Spec PyProof.Rows
section
variable {X : Cx}

/-- two expressions in a row -/
theorem bin {a b : Expr} {ta tb : TE} (ha : PE X a ta) (hb : PE X b tb) {pins : List (Addr × Obj)} {s : Shared} {σ : St} {H : Hp} {R : V → V → Hp → Prop} (I : Inv X pins σ H s) (h : ta σ H fun x H1 => tb σ H1 fun y H2 => R x y H2)
    {α : Type} {Q : α → Shared → Prop} {f : Value → Value → Sem α}
    (hf : ∀ v u s2 x y H2, Inv X pins σ H2 s2 → RelV x v → RelV y u → R x y H2 → wpAny (model X.prog X.w) X.A (f v u) Q X.xe s2) :
    wpAny (model X.prog X.w) X.A (eval a X.env) (fun v s₁ => wpAny (model X.prog X.w) X.A (eval b X.env) (fun u s₂ => wpAny (model X.prog X.w) X.A (f v u) Q X.xe s₂) X.xe s₁) X.xe s := by
  refine thn (ha pins s σ H _ I h) fun v s1 ⟨x, H1, I1, r1, q1⟩ => ?_
  refine thn (hb pins s1 σ H1 _ I1 q1) fun u s2 ⟨y, H2, I2, r2, q2⟩ => ?_
  exact hf v u s2 x y H2 I2 r1 r2 q2

/-! ### names and constants -/
def tVar (i : Nat) : TE := fun σ H Q => ∃ v, σ[i]? = some (some v) ∧ Q v H
def tC (v : V) : TE := fun _ H Q => Q v H
theorem pe_var {i : Nat} {x : Str} {pos : Pos} (hN : X.N[i]? = some x) (hv : Vis X.env.scope x) (hd : (x == ("__debug__" : Str)) = false := by decide) (hcd : (x == ("__classdict__" : Str)) = false := by decide) : PE X (.Name x pos) (tVar i) := by
  intro pins s σ H Q I h
  obtain ⟨v, e, h⟩ := h
  obtain ⟨m, hn, hl⟩ := I.loc
  obtain ⟨u, r, l⟩ := hl i x v hN e hv
  have fin : EP X pins σ Q u s := ⟨v, H, I, r, h⟩
  rcases l with ⟨hk, hm⟩ | ⟨hk, c, hc, hcell⟩
  · exact wpAny_Name (wpAny_loadName_local I.ok.kind hk hn hm fin) hd
  · rcases hk with hk | hk
    · exact wpAny_Name (wpAny_loadName_cell I.ok.kind hk hc hcell fin) hd
    · exact wpAny_Name (wpAny_loadName_free I.ok.kind hk hc hcell fin hcd) hd
theorem pe_int {i j pos} : PE X (.Constant (.int i) j pos) (tC (.int i)) := fun _ _ _ H _ I h => wpAny_Constant_int ⟨.int i, H, I.tok _, ⟨_, rfl⟩, h⟩
theorem pe_bl {b j pos} : PE X (.Constant (.bool b) j pos) (tC (.bl b)) := fun _ _ _ H _ I h => Constant_bool ⟨.bl b, H, I, rfl, h⟩
theorem pe_str {x j pos} : PE X (.Constant (.str x) j pos) (tC (.str x)) := fun _ _ _ H _ I h => Calls.Constant_str ⟨.str x, H, I.tok _, ⟨_, rfl⟩, h⟩

/-- a global name of the def -/
def Gl (X : Cx) (x : Str) : Prop := X.env.kindOf x = some .globalImplicit
theorem ld_glob {E : Value → Shared → Prop} {pins : List (Addr × Obj)} {s : Shared} {σ : St} {H : Hp} {x : Str} {u : Value} {pos : Pos} {Q : Value → Shared → Prop} (I : Inv X pins σ H s) (hg : Gl X x) (hm : X.mg x = some u) (h : Q u s)
    (hd : (x == ("__debug__" : Str)) = false := by decide) : wpAny (model X.prog X.w) X.A (eval (.Name x pos) X.env) Q E s :=
  Calls.Name_function_global I.ok.kind hg (Calls.loadGlobal_global (by rw [I.ok.glob]; exact I.mod.glob.keeps I.bk) hm h) hd
theorem ld_blt {E : Value → Shared → Prop} {pins : List (Addr × Obj)} {s : Shared} {σ : St} {H : Hp} {x : Str} {u : Value} {pos : Pos} {Q : Value → Shared → Prop} (I : Inv X pins σ H s) (hg : Gl X x) (hm : X.mg x = none) (hv : bootBuiltins x = some u) (h : Q u s)
    (hn : x ≠ "__name__" := by decide) (hd : (x == ("__debug__" : Str)) = false := by decide) : wpAny (model X.prog X.w) X.A (eval (.Name x pos) X.env) Q E s := by
  obtain ⟨mb, h1, h2⟩ := I.mod.blt
  exact Calls.Name_function_global I.ok.kind hg (Calls.loadGlobal_builtin (by rw [I.ok.glob]; exact I.mod.glob.keeps I.bk) hm (by rw [I.ok.blt]; exact h1.keeps I.bk) ((h2 x hn).trans hv) h) hd
/-- a module's constant, a class, a function, as a value -/
theorem pe_glob {x : Str} {v : V} {u : Value} {pos : Pos} (hg : Gl X x) (hm : X.mg x = some u) (r : RelV v u) (hd : (x == ("__debug__" : Str)) = false := by decide) : PE X (.Name x pos) (tC v) :=
  fun _ _ _ H _ I h => ld_glob I hg hm ⟨v, H, I, r, h⟩ hd
theorem pe_bltn {x : Str} {v : V} {u : Value} {pos : Pos} (hg : Gl X x) (hm : X.mg x = none) (hv : bootBuiltins x = some u) (r : RelV v u) (hn : x ≠ "__name__" := by decide) (hd : (x == ("__debug__" : Str)) = false := by decide) : PE X (.Name x pos) (tC v) :=
  fun _ _ _ H _ I h => ld_blt I hg hm hv ⟨v, H, I, r, h⟩ hn hd

/-! ### arithmetic -/
variable {a b : Expr} {ta tb : TE} {pos : Pos}

/-! ### comparisons -/
def PC (X : Cx) (op : CmpOp) (a b : Expr) (t : TE) : Prop :=
  ∀ (pins : List (Addr × Obj)) (s : Shared) (σ : St) (H : Hp) (Q : VK), Inv X pins σ H s → t σ H Q →
    wpAny (model X.prog X.w) X.A (eval a X.env) (fun v s₁ => wpAny (model X.prog X.w) X.A (eval b X.env) (fun u s₂ => wpAny (model X.prog X.w) X.A (compareOp op v u) (EP X pins σ Q) X.xe s₂) X.xe s₁) X.xe s
/-- a comparison as a value, as a test -/
def tB (t : TE) : TT := fun σ H Q => t σ H fun x H1 => ∃ c, x = .bl c ∧ Q c H1
theorem pt_cmp {op : CmpOp} {t : TE} (h : PC X op a b t) (h1 : behindInMarks op b = false := by first | exact nobehind _ (by decide) (by decide) | rfl) : PT X (.Compare a [op] [b] pos) (tB t) := by
  intro pins s σ H Q I hw
  refine wpAny_isTrue_Compare1 (thn (h pins s σ H _ I hw) fun v s1 h1 => thn h1 fun u s2 h2 => thn h2 fun c s3 ⟨x, H1, I1, r1, q1⟩ => ?_) h1
  obtain ⟨d, rfl, q⟩ := q1
  cases r1
  exact wpAny_truthy_bool ⟨H1, I1, q⟩
/-- an expression whose value is a bool, as a test -/
theorem pt_val {e : Expr} {t : TE} (h : PE X e t) (he : ∀ whole, isTrue e X.env whole = (do let v ← whole; standAt e.pos; holding [v] (truthy v)) := by intro _; rfl) : PT X e (tB t) := by
  intro pins s σ H Q I hw
  refine isTrue_plain (thn (h pins s σ H _ I hw) fun v s1 ⟨x, H1, I1, r1, q1⟩ => ?_) (he _)
  obtain ⟨d, rfl, q⟩ := q1
  cases r1
  exact wpAny_truthy_bool ⟨H1, I1, q⟩

/-! ### and, or, not -/
variable {tA tB' : TT} {rest : List Expr}
def tAnd (t u : TT) : TT := fun σ H Q => t σ H fun c H1 => if c = true then u σ H1 Q else Q false H1
def tOr (t u : TT) : TT := fun σ H Q => t σ H fun c H1 => if c = true then Q true H1 else u σ H1 Q
def tNot (t : TT) : TT := fun σ H Q => t σ H fun c H1 => Q (!c) H1
theorem pw_and1 (ha : PT X a tA) : PW X (.BoolOp .And [a] pos) tA := by
  intro wh pins s σ H Q I h
  refine isTrue_and (thn (ha pins s σ H Q I h) fun c s1 e => ?_)
  cases c with
  | true => exact isTrue_and_nil e
  | false => exact e
theorem pw_or1 (ha : PT X a tA) : PW X (.BoolOp .Or [a] pos) tA := by
  intro wh pins s σ H Q I h
  refine isTrue_or (thn (ha pins s σ H Q I h) fun c s1 e => ?_)
  cases c with
  | false => exact isTrue_or_nil e
  | true => exact e
theorem pw_and (ha : PT X a tA) (hb : PW X (.BoolOp .And (b :: rest) pos) tB') : PW X (.BoolOp .And (a :: b :: rest) pos) (tAnd tA tB') := by
  intro wh pins s σ H Q I h
  refine isTrue_and (thn (ha pins s σ H _ I h) fun c s1 ⟨H1, I1, q1⟩ => ?_)
  cases c with
  | true => exact hb wh pins s1 σ H1 Q I1 q1
  | false => exact ⟨H1, I1, q1⟩
theorem pw_or (ha : PT X a tA) (hb : PW X (.BoolOp .Or (b :: rest) pos) tB') : PW X (.BoolOp .Or (a :: b :: rest) pos) (tOr tA tB') := by
  intro wh pins s σ H Q I h
  refine isTrue_or (thn (ha pins s σ H _ I h) fun c s1 ⟨H1, I1, q1⟩ => ?_)
  cases c with
  | true => exact ⟨H1, I1, q1⟩
  | false => exact hb wh pins s1 σ H1 Q I1 q1
theorem pt_not (ha : PT X a tA) : PT X (.UnaryOp .Not a pos) (tNot tA) := by
  intro pins s σ H Q I h
  exact isTrue_not (ha pins s σ H (fun c H1 => Q (!c) H1) I h)
/-- .. as values (bools) -/
def tAndV (ta tb : TE) : TE := fun σ H Q => ta σ H fun x H1 => ∃ c, x = .bl c ∧ if c = true then tb σ H1 Q else Q (.bl false) H1
def tNotV (ta : TE) : TE := fun σ H Q => ta σ H fun x H1 => ∃ c, x = .bl c ∧ Q (.bl (!c)) H1
theorem pe_one {op} {t : TE} (h : PE X a t) : PE X (.BoolOp op [a] pos) t := fun pins s σ H Q I hw => BoolOp_one (h pins s σ H Q I hw)
theorem pe_and (ha : PE X a ta) (hb : PE X (.BoolOp .And (b :: rest) pos) tb) : PE X (.BoolOp .And (a :: b :: rest) pos) (tAndV ta tb) := by
  intro pins s σ H Q I h
  refine BoolOp_and (thn (ha pins s σ H _ I h) fun v s1 ⟨x, H1, I1, r1, q1⟩ => ?_)
  obtain ⟨c, rfl, q1⟩ := q1
  cases r1
  refine wpAny_truthy_bool ?_
  cases c with
  | true => exact hb pins s1 σ H1 Q I1 q1
  | false => exact ⟨.bl false, H1, I1, rfl, q1⟩
theorem pe_not (ha : PE X a ta) : PE X (.UnaryOp .Not a pos) (tNotV ta) := by
  intro pins s σ H Q I h
  refine UnaryOp_ (thn (ha pins s σ H _ I h) fun v s1 ⟨x, H1, I1, r1, q1⟩ => ?_)
  obtain ⟨c, rfl, q1⟩ := q1
  cases r1
  exact not_of (wpAny_truthy_bool ⟨.bl (!c), H1, I1, rfl, q1⟩)
/-- a if t else b -/
def tIf (t : TT) (ta tb : TE) : TE := fun σ H Q => t σ H fun c H1 => if c = true then ta σ H1 Q else tb σ H1 Q
theorem pe_ifExp {c : Expr} (hc : PT X c tA) (ha : PE X a ta) (hb : PE X b tb) : PE X (.IfExp c a b pos) (tIf tA ta tb) := by
  intro pins s σ H Q I h
  refine wpAny_IfExp (thn (hc pins s σ H _ I h) fun d s1 ⟨H1, I1, q1⟩ => ?_)
  cases d with
  | true => exact ha pins s1 σ H1 Q I1 q1
  | false => exact hb pins s1 σ H1 Q I1 q1
end
end L2

namespace L2
open PySem PySem.Spec PyProof.Rows

/-! ### a list, a tuple that is read: tracked, frozen, or an object of the module -/
def SqL (K : PySem.W.Frag) (H : Hp) (a : Addr) (xs : List V) : Prop :=
  Rd H a (.lst xs) ∨
    ∃ (o : Obj) (its : Array Value) (n : Nat), K.lookup a = some o ∧ o.cls = .type "list" ∧ o.dict = none ∧ o.data = .seq its n ∧ its.size ≤ sizeLine ∧ Vals xs its.toList
def SqT (K : PySem.W.Frag) (H : Hp) (a : Addr) (xs : List V) : Prop :=
  Rd H a (.tup xs) ∨
    ∃ (o : Obj) (its : Array Value) (n : Nat), K.lookup a = some o ∧ o.cls = .type "tuple" ∧ o.data = .seq its n ∧ its.size ≤ sizeLine ∧ Vals xs its.toList
def absV : Value → Option V
  | .none => some .non
  | .bool b => some (.bl b)
  | .int i _ => some (.int i)
  | .str x _ => some (.str x)
  | .bytes b _ => some (.byt b)
  | .float b _ => some (.flt b)
  | .ref a => some (.ref a)
  | .type n => some (.ty n)
  | _ => none
theorem RelV.abs {x : V} {u : Value} (r : RelV x u) : absV u = some x := by
  cases x with
  | non => cases r; rfl
  | bl _ => cases r; rfl
  | int _ => obtain ⟨t, rfl⟩ := r; rfl
  | str _ => obtain ⟨t, rfl⟩ := r; rfl
  | byt _ => obtain ⟨t, rfl⟩ := r; rfl
  | flt _ => obtain ⟨t, rfl⟩ := r; rfl
  | ref _ => cases r; rfl
  | ty _ => cases r; rfl
theorem RelV.inj {x y : V} {u : Value} (r : RelV x u) (q : RelV y u) : x = y := Option.some.inj (r.abs.symm.trans q.abs)
theorem Vals.inj : ∀ {xs ys : List V} {us : List Value}, Vals xs us → Vals ys us → xs = ys
  | _, _, _, .nil, .nil => rfl
  | _, _, _, .cons r t, .cons r' t' => by rw [r.inj r', Vals.inj t t']
section
variable {X : Cx} {pins : List (Addr × Obj)} {σ : St} {H : Hp} {s : Shared} {a : Addr} {xs ys : List V}
theorem SqL.of {K : PySem.W.Frag} (h : H a = some (.lst xs)) : SqL K H a xs := .inl (.inl h)
theorem SqT.of {K : PySem.W.Frag} (h : H a = some (.tup xs)) : SqT K H a xs := .inl (.inl h)
theorem Inv.list (I : Inv X pins σ H s) (h : SqL X.K H a xs) : ∃ its : List Value, Vals xs its ∧ PlainL s.heap a its.toArray ∧ xs.length ≤ sizeLine := by
  rcases h with h | ⟨o, its, n, hk, hc, hd, hs, hz, r⟩
  · obtain ⟨z, its, n, r, e⟩ := h.ok I.hok
    exact ⟨its, r, ⟨_, n, e, rfl, rfl, rfl⟩, z⟩
  · refine ⟨its.toList, r, ⟨o, n, I.kIn a o hk, hc, hd, by simpa using hs⟩, ?_⟩
    have e := r.length
    simp only [Array.length_toList] at e
    omega
theorem Inv.tuple (I : Inv X pins σ H s) (h : SqT X.K H a xs) : ∃ its : List Value, Vals xs its ∧ IsTup s.heap a its.toArray ∧ xs.length ≤ sizeLine := by
  rcases h with h | ⟨o, its, n, hk, hc, hs, hz, r⟩
  · obtain ⟨z, its, r, p⟩ := h.ok I.hok
    exact ⟨its, r, p, z⟩
  · refine ⟨its.toList, r, ⟨o, I.kIn a o hk, hc, n, by simpa using hs⟩, ?_⟩
    have e := r.length
    simp only [Array.length_toList] at e
    omega
theorem Inv.list_inj (I : Inv X pins σ H s) (h : SqL X.K H a xs) (h' : SqL X.K H a ys) : xs = ys := by
  obtain ⟨its, r, ⟨o, n, e, _, _, d⟩, _⟩ := I.list h
  obtain ⟨its', r', ⟨o', n', e', _, _, d'⟩, _⟩ := I.list h'
  rw [e] at e'; cases e'
  rw [d] at d'
  injection d' with d1 _
  have : its = its' := by simpa using congrArg Array.toList d1
  subst this
  exact r.inj r'
theorem Inv.tuple_inj (I : Inv X pins σ H s) (h : SqT X.K H a xs) (h' : SqT X.K H a ys) : xs = ys := by
  obtain ⟨its, r, ⟨o, e, _, n, d⟩, _⟩ := I.tuple h
  obtain ⟨its', r', ⟨o', e', _, n', d'⟩, _⟩ := I.tuple h'
  rw [e] at e'; cases e'
  rw [d] at d'
  injection d' with d1 _
  have : its = its' := by simpa using congrArg Array.toList d1
  subst this
  exact r.inj r'
end

/-! ### another wish about exceptions -/
abbrev Cx.wish (X : Cx) (E : Value → Shared → Prop) : Cx := { X with xe := E }
/-- no exception leaves -/
abbrev Cx.nox (X : Cx) : Cx := X.wish fun _ _ => False
theorem Cx.Ok.wish {X : Cx} (ok : X.Ok) (E : Value → Shared → Prop) : (X.wish E).Ok :=
  ⟨ok.mod, ok.kind, ok.glob, ok.blt, ok.above, ok.inj, ok.has, ok.cab, ok.hd, ok.frames, ok.stk, ok.exf, ok.bs, ok.bsz, ok.noex, ok.exfs, ok.funs, ok.frf⟩
theorem Cx.Ok.unwish {X : Cx} {E : Value → Shared → Prop} (ok : (X.wish E).Ok) : X.Ok :=
  ⟨ok.mod, ok.kind, ok.glob, ok.blt, ok.above, ok.inj, ok.has, ok.cab, ok.hd, ok.frames, ok.stk, ok.exf, ok.bs, ok.bsz, ok.noex, ok.exfs, ok.funs, ok.frf⟩
section
variable {X : Cx} {pins : List (Addr × Obj)} {σ : St} {H : Hp} {s : Shared} {E : Value → Shared → Prop}
theorem Inv.wish (I : Inv X pins σ H s) (E : Value → Shared → Prop) : Inv (X.wish E) pins σ H s := ⟨I.ok.wish E, I.os, I.bare, I.base, I.loc, I.cell, I.free, I.freeC, I.pin, I.hok, I.len⟩
theorem Inv.unwish (I : Inv (X.wish E) pins σ H s) : Inv X pins σ H s := ⟨I.ok.unwish, I.os, I.bare, I.base, I.loc, I.cell, I.free, I.freeC, I.pin, I.hok, I.len⟩
theorem SP.unwish {D : Ends} {f : Flow} {s' : Shared} (h : SP (X.wish E) pins D f s') : SP X pins D f s' := by
  cases f with
  | next => obtain ⟨σ', H', I, q⟩ := h; exact ⟨σ', H', I.unwish, q⟩
  | brk => obtain ⟨σ', H', I, q⟩ := h; exact ⟨σ', H', I.unwish, q⟩
  | cont => obtain ⟨σ', H', I, q⟩ := h; exact ⟨σ', H', I.unwish, q⟩
  | ret u => obtain ⟨v, σ', H', I, r, q⟩ := h; exact ⟨v, σ', H', I.unwish, r, q⟩
theorem PSs.nox {st : List Stmt} {t : TS} (h : PSs X.nox st t) : PSs X st t := fun pins s σ H D I hw =>
  wpAny_mono (h pins s σ H D (I.wish _) hw) (fun _ _ q => q.unwish) fun _ _ z => False.elim z
end

/-! ### blocks and small statements -/
section
variable {X : Cx} {st : Stmt} {rest : List Stmt} {t u : TS} {e : Expr} {te : TE} {pos : Pos}
def tNext : TS := fun D σ H => D.nx σ H
def tSeq (t u : TS) : TS := fun D σ H => t { D with nx := u D } σ H
theorem pss_nil : PSs X [] tNext := fun _ _ σ H _ I h => wpAny_execs_nil ⟨σ, H, I, h⟩
theorem pss_cons (h1 : PS X st t) (h2 : PSs X rest u) : PSs X (st :: rest) (tSeq t u) := by
  intro pins s σ H D I h
  refine wpAny_execs_cons (thn (h1 pins s σ H { D with nx := u D } I h) fun f s1 q => ?_)
  cases f with
  | next =>
    obtain ⟨σ', H', I', q⟩ := q
    exact h2 pins s1 σ' H' D I' q
  | ret v => exact q
  | brk => exact q
  | cont => exact q
theorem pss_one (h1 : PS X st t) : PSs X [st] t := by
  intro pins s σ H D I h
  refine wpAny_execs_cons (thn (h1 pins s σ H D I h) fun f s1 q => ?_)
  cases f with
  | next => exact wpAny_execs_nil q
  | ret v => exact q
  | brk => exact q
  | cont => exact q
/-- in a def's body nothing is shown -/
theorem Inv.quiet {pins : List (Addr × Obj)} {σ : St} {H : Hp} {s : Shared} (I : Inv X pins σ H s) : interactive X.env = false := by simp [interactive, I.ok.kind]
/-- an expression whose value is dropped -/
def tDrop (te : TE) : TS := fun D σ H => te σ H fun _ H1 => D.nx σ H1
theorem ps_expr (he : PE X e te) (hs : swapsWith e none pos.line X.env = pure false := by rfl) : PS X (.Expr e pos) (tDrop te) := by
  intro pins s σ H D I h
  exact wpAny_Expr_any (thn (he pins s σ H _ I h) fun v s1 ⟨x, H1, I1, r1, q1⟩ => ⟨σ, H1, I1, q1⟩) I.quiet hs
def tRet (te : TE) : TS := fun D σ H => te σ H D.rt
theorem ps_ret (he : PE X e te) : PS X (.Return (some e) pos) (tRet te) := by
  intro pins s σ H D I h
  exact wpAny_Return_some (thn (he pins s σ H _ I h) fun v s1 ⟨x, H1, I1, r1, q1⟩ => ⟨x, σ, H1, I1, r1, q1⟩)
def tIfS (c : TT) (t u : TS) : TS := fun D σ H => c σ H fun b H1 => if b = true then t D σ H1 else u D σ H1
theorem ps_if {c : Expr} {a b : List Stmt} {tc : TT} (hc : PT X c tc) (ha : PSs X a t) (hb : PSs X b u) : PS X (.If c a b pos) (tIfS tc t u) := by
  intro pins s σ H D I h
  refine wpAny_If (thn (hc pins s σ H _ I h) fun d s1 ⟨H1, I1, q1⟩ => ?_)
  cases d with
  | true => exact ha pins s1 σ H1 D I1 q1
  | false => exact hb pins s1 σ H1 D I1 q1
end

/-! ### targets -/
abbrev TG := V → St → Hp → (St → Hp → Prop) → Prop
abbrev TGs := List V → St → Hp → (St → Hp → Prop) → Prop
def PG (X : Cx) (target : Expr) (t : TG) : Prop :=
  ∀ (pins : List (Addr × Obj)) (s : Shared) (σ : St) (H : Hp) (v : V) (u : Value) (Q : St → Hp → Prop), Inv X pins σ H s → RelV v u → t v σ H Q →
    wpAny (model X.prog X.w) X.A (assign target X.env u) (fun _ s' => ∃ σ' H', Inv X pins σ' H' s' ∧ Q σ' H') X.xe s
/-- several targets, one after another -/
def PGs (X : Cx) (ts : List Expr) (t : TGs) : Prop :=
  ∀ (pins : List (Addr × Obj)) (s : Shared) (σ : St) (H : Hp) (vs : List V) (us : List Value) (Q : St → Hp → Prop), Inv X pins σ H s → Vals vs us → t vs σ H Q →
    wpAny (model X.prog X.w) X.A (assignInOrder ((assignEach ts X.env).map (·.2)) us) (fun _ s' => ∃ σ' H', Inv X pins σ' H' s' ∧ Q σ' H') X.xe s
/-- o[i] = v, by values -/
abbrev TSet := V → V → V → Hp → (Hp → Prop) → Prop
def PSet (X : Cx) (t : TSet) : Prop :=
  ∀ (pins : List (Addr × Obj)) (s : Shared) (σ : St) (H : Hp) (o i v : V) (ov iv u : Value) (Q : Hp → Prop), Inv X pins σ H s → RelV o ov → RelV i iv → RelV v u → t o i v H Q →
    wpAny (model X.prog X.w) X.A (setItem ov iv u) (fun _ s' => ∃ H', Inv X pins σ H' s' ∧ Q H') X.xe s
section
variable {X : Cx} {pos : Pos}
def gName (i : Nat) : TG := fun v σ H Q => Q (σ.set i (some v)) H
theorem pg_name {i : Nat} {x : Str} (hN : X.N.Nodup) (hi : X.N[i]? = some x) (hx : Loc X.env.scope x) (hf : X.fn x = true ∨ X.env.scope.names.lookup x = some .local := by first | exact .inl rfl | exact .inr rfl | assumption) : PG X (.Name x pos) (gName i) := by
  intro pins s σ H v u Q I r h
  exact wpAny_assign_Name (store_ok I hN hi hx r (fun s' I' => ⟨_, H, I', h⟩) hf)
def gNil : TGs := fun vs σ H Q => vs = [] ∧ Q σ H
def gCons (t : TG) (u : TGs) : TGs := fun vs σ H Q => ∃ v r, vs = v :: r ∧ t v σ H fun σ' H' => u r σ' H' Q
theorem pgs_nil : PGs X [] gNil := by
  intro pins s σ H vs us Q I r h
  obtain ⟨e, h⟩ := h
  subst e
  cases r
  exact assignInOrder_nil ⟨σ, H, I, h⟩
theorem pgs_cons {e : Expr} {es : List Expr} {t : TG} {u : TGs} (h1 : PG X e t) (h2 : PGs X es u)
    (hs : (assignEach (e :: es) X.env).map (·.2) = assign e X.env :: (assignEach es X.env).map (·.2) := by rfl) : PGs X (e :: es) (gCons t u) := by
  intro pins s σ H vs us Q I r h
  obtain ⟨v, vr, e1, h⟩ := h
  subst e1
  cases r with
  | cons r rr =>
    rw [hs]
    refine assignInOrder_cons (thn (h1 pins s σ H _ _ _ I r h) fun _ s1 ⟨σ1, H1, I1, q1⟩ => ?_)
    exact h2 pins s1 σ1 H1 _ _ Q I1 rr q1
/-- (a, b, ..) = a tuple of that length -/
def gTup (K : PySem.W.Frag) (n : Nat) (t : TGs) : TG := fun v σ H Q => ∃ a xs, v = .ref a ∧ SqT K H a xs ∧ xs.length = n ∧ t xs σ H Q
theorem pg_tup {es : List Expr} {k : Nat} {t : TGs} {n : Nat} (hc : X.calm = true) (h : PGs X es t)
    (hn : (assignEach es X.env).length = n := by rfl) (hst : (assignEach es X.env).findIdx? (·.1) = none := by rfl) : PG X (.Tuple es k pos) (gTup X.K n t) := by
  intro pins s σ H v u Q I r hw
  obtain ⟨a, xs, e1, hq, hl, hw⟩ := hw
  subst e1
  cases r
  obtain ⟨its, rv, ht, hz⟩ := I.tuple hq
  refine assign_Tuple_tuple (I.ok.hd hc) ht (by simp [hn, ← hl, rv.length]) hst fun h' hx => ?_
  have I1 : Inv X pins σ H { s with heap := h' } := I.kept (t' := s.toks) fun b o e => hx b o (Nat.ne_of_lt (Heap.lt_size e)) e
  exact h pins _ σ H xs _ Q I1 (by simpa using rv) hw
/-- o[i] = .. -/
def gSub (to ti : TE) (t : TSet) : TG := fun v σ H Q => to σ H fun o H1 => ti σ H1 fun i H2 => t o i v H2 fun H3 => Q σ H3
theorem pg_sub {o i : Expr} {to ti : TE} {t : TSet} (ho : PE X o to) (hi : PE X i ti) (hs : PSet X t)
    (ha : ∀ v, assign (.Subscript o i pos) X.env v = (do
      let ov ← holding [v] (eval o X.env)
      let iv ← holding [v, ov] (eval i X.env)
      standAt pos
      holding [v, ov, iv] (setItem ov iv v)
      release [v, ov, iv] []) := by intro _; rfl) : PG X (.Subscript o i pos) (gSub to ti t) := by
  intro pins s σ H v u Q I r h
  rw [ha]
  refine wpAny_bind (wpAny_holding (thn (ho pins s σ H _ I h) fun ov s1 ⟨x, H1, I1, r1, q1⟩ => ?_))
  refine wpAny_bind (wpAny_holding (thn (hi pins s1 σ H1 _ I1 q1) fun iv s2 ⟨y, H2, I2, r2, q2⟩ => ?_))
  refine wpAny_bind (wpAny_standAt (wpAny_bind (wpAny_holding (thn (hs pins s2 σ H2 x y v ov iv u _ I2 r1 r2 r q2) fun _ s3 ⟨H3, I3, q3⟩ => ?_))))
  exact wpAny_release ⟨σ, H3, I3, q3⟩
/-- target = value -/
def tAsg (te : TE) (g : TG) : TS := fun D σ H => te σ H fun x H1 => g x σ H1 D.nx
theorem ps_asg {tg e : Expr} {te : TE} {g : TG} (he : PE X e te) (hg : PG X tg g) (hs : swapsWithSole [tg] e pos.line X.env = pure false := by rfl) (hw : swappedStores [tg] e X.env = pure none := by rfl)
    (h1 : (assignEach [tg] X.env).map (·.2) = [assign tg X.env] := by rfl) : PS X (.Assign [tg] e pos) (tAsg te g) := by
  intro pins s σ H D I h
  refine wpAny_Assign_stores (thn (he pins s σ H _ I h) fun v s1 ⟨x, H1, I1, r1, q1⟩ => ?_) hs hw
  rw [h1]
  exact thn (hg pins s1 σ H1 x v _ I1 r1 q1) fun _ s2 q => q
/-- name = value -/
theorem ps_set {i : Nat} {x : Str} {e : Expr} {te : TE} {pos' : Pos} (hN : X.N.Nodup) (hi : X.N[i]? = some x) (hx : Loc X.env.scope x) (he : PE X e te) (hs : swapsWith e (some (.Name x pos')) pos.line X.env = pure false := by rfl) (hf : X.fn x = true ∨ X.env.scope.names.lookup x = some .local := by first | exact .inl rfl | exact .inr rfl | assumption) :
    PS X (.Assign [.Name x pos'] e pos) (tAsg te (gName i)) := by
  intro pins s σ H D I h
  refine wpAny_Assign_Name (thn (he pins s σ H _ I h) fun v s1 ⟨y, H1, I1, r1, q1⟩ => ?_) hs
  exact store_ok I1 hN hi hx r1 (fun s2 I2 => ⟨_, H1, I2, q1⟩) hf
end

/-! ### while -/
section
variable {X : Cx} {pos : Pos}
/-- the invariant W with its measure -/
def tWhile (c : TT) (tb : TS) : TS := fun D σ H => ∃ W : Nat → St → Hp → Prop, (∃ m, W m σ H) ∧ ∀ m σ H, W m σ H →
  c σ H fun b H1 => if b = true then ∃ N : St → Hp → Prop, (∀ σ' H', N σ' H' → ∃ m', m' < m ∧ W m' σ' H') ∧ tb { D with nx := N, ct := N, bk := D.nx } σ H1 else D.nx σ H1
theorem ps_while {c : Expr} {body : List Stmt} {tc : TT} {tb : TS} (hp : PassesOwn (model X.prog X.w) X.A X.env X.xe) (hc : PT X c tc) (hb : PSs X body tb) : PS X (.While c body [] pos) (tWhile tc tb) := by
  intro pins s σ H D I h
  obtain ⟨W, ⟨m0, w0⟩, turn⟩ := h
  refine wpAny_While (codeAny_whileLoop (fun n s' => ∃ σ' H', Inv X pins σ' H' s' ∧ W n σ' H') ?_ m0 ⟨σ, H, I, w0⟩)
  rintro n s1 ⟨σ1, H1, I1, w1⟩
  refine wpAny_passesOwn hp (thn (hc pins s1 σ1 H1 _ I1 (turn n σ1 H1 w1)) fun b s2 ⟨H2, I2, q2⟩ => ?_)
  cases b with
  | true =>
    obtain ⟨N, hN, q2⟩ := q2
    rw [if_pos rfl]
    refine wpAny_passesOwn hp (thn (hb pins s2 σ1 H2 _ I2 q2) fun f s3 q3 => ?_)
    cases f with
    | next =>
      obtain ⟨σ3, H3, I3, n3⟩ := q3
      obtain ⟨m', hm, w3⟩ := hN σ3 H3 n3
      exact ⟨m', hm, σ3, H3, I3, w3⟩
    | cont =>
      obtain ⟨σ3, H3, I3, n3⟩ := q3
      obtain ⟨m', hm, w3⟩ := hN σ3 H3 n3
      exact ⟨m', hm, σ3, H3, I3, w3⟩
    | brk => exact q3
    | ret v => exact q3
  | false =>
    rw [if_neg Bool.false_ne_true]
    exact wpAny_execs_nil ⟨σ1, H2, I2, q2⟩
end

/-! ### what a loop or a comprehension walks -/
/-- at turn i: it yields x (the heap may grow), or it stops -/
structure It where
  go : Nat → Hp → Prop
  yld : Nat → Hp → V → Hp → Prop
  stop : Nat → Hp → Prop
/-- the iterator's own objects may turn: they are not the frame's, not pinned, younger than the entry (or a comprehension's own) -/
def FpOk (X : Cx) (pins : List (Addr × Obj)) (H : Hp) (b : Addr) : Prop :=
  H b = none ∧ b ≠ X.env.locals ∧ b ∉ X.fs ∧ (b ∈ X.ex ∨ X.s₀.heap.objs.size ≤ b) ∧ (∀ x c, X.env.cells.lookup x = some c → c ≠ b) ∧ ∀ p ∈ X.pn ++ pins, p.1 ≠ b
theorem Inv.fpOk {X : Cx} {pins : List (Addr × Obj)} {σ : St} {H H' : Hp} {s : Shared} {b : Addr} (I : Inv X pins σ H s) (hb : s.heap.objs.size ≤ b) (hn : H' b = none) : FpOk X pins H' b := by
  refine ⟨hn, Nat.ne_of_gt (Nat.lt_of_lt_of_le I.lt hb), I.nofs hb, .inr (Nat.le_trans I.sz hb), fun x c e z => ?_, fun p hp z => ?_⟩
  · obtain ⟨v, q⟩ := I.cell x c e
    exact absurd (Nat.lt_of_lt_of_le q.lt (by rw [z]; exact hb)) (Nat.lt_irrefl _)
  · exact absurd (Nat.lt_of_lt_of_le (Heap.lt_size (I.pin p hp).1) (by rw [z]; exact hb)) (Nat.lt_irrefl _)
structure Turn (P : Program) (w : World) (K : PySem.W.Frag) (tg : Expr) (J : It) (fp : List Addr) (it : Addr) (tn : Nat → Heap → Prop) : Prop where
  mem : it ∈ fp
  obj : ∀ i h, tn i h → ∀ b ∈ fp, ∃ o, h.get? b = some o ∧ ∀ v, o.data ≠ .cell v
  keep : ∀ i h h', tn i h → (∀ b ∈ fp, ∀ o, h.get? b = some o → h'.get? b = some o) → tn i h'
  item : ∀ (X : Cx), X.prog = P → X.w = w → X.K = K → X.calm = true → ∀ (i : Nat) (pins : List (Addr × Obj)) (s : Shared) (σ : St) (H : Hp) (E : Value → Shared → Prop), Inv X pins σ H s → (∀ b ∈ fp, FpOk X pins H b) → tn i s.heap → J.go i H →
    wpAny (model P w) X.A (pyNext (.ref it)) (fun r s1 => ∃ u, r = some u ∧
      wpAny (model P w) X.A (letOwnedTupleGo tg (.ref it) u) (fun _ s2 => ∃ x H', Inv X pins σ H' s2 ∧ RelV x u ∧ J.yld i H x H' ∧ tn (i + 1) s2.heap ∧ ∀ b ∈ fp, H' b = none) E s1) E s
  done : ∀ (X : Cx), X.prog = P → X.w = w → X.K = K → X.calm = true → ∀ (i : Nat) (pins : List (Addr × Obj)) (s : Shared) (σ : St) (H : Hp) (E : Value → Shared → Prop), Inv X pins σ H s → (∀ b ∈ fp, FpOk X pins H b) → tn i s.heap → J.stop i H →
    wpAny (model P w) X.A (pyNext (.ref it)) (fun r s1 => r = none ∧ Inv X pins σ H s1) E s
  self : ∀ (A : Around) (i : Nat) (s : Shared) (Q : Value → Shared → Prop) (E : Value → Shared → Prop), tn i s.heap → Q (.ref it) s → wpAny (model P w) A (pyIter (.ref it)) Q E s
abbrev TI := St → Hp → (It → Hp → Prop) → Prop
/-- an iterator has come -/
def PIE (X : Cx) (pins : List (Addr × Obj)) (σ : St) (tg : Expr) (R : It → Hp → Prop) (itv : Value) (s2 : Shared) : Prop :=
  ∃ (it : Addr) (fp : List Addr) (tn : Nat → Heap → Prop) (J : It) (H' : Hp), itv = .ref it ∧ Inv X pins σ H' s2 ∧ Turn X.prog X.w X.K tg J fp it tn ∧ tn 0 s2.heap ∧ (∀ b ∈ fp, FpOk X pins H' b) ∧ R J H'
def PI (X : Cx) (tg iter : Expr) (wi : TI) : Prop :=
  ∀ (pins : List (Addr × Obj)) (s : Shared) (σ : St) (H : Hp) (R : It → Hp → Prop), Inv X pins σ H s → wi σ H R →
    wpAny (model X.prog X.w) X.A (eval iter X.env) (fun v s1 => wpAny (model X.prog X.w) X.A (pyIter v) (PIE X pins σ tg R) X.xe s1) X.xe s

/-- the step ahead of the store is nothing for an iterator that keeps no tuple -/
theorem go_of {M : Model} {A : Around} {E : Value → Shared → Prop} {s : Shared} {tg : Expr} {it : Addr} {u : Value} {o : Obj} {n : String} {vs : Array Value} {Q : Unit → Shared → Prop} (ho : s.heap.get? it = some o) (hc : o.cls = .type n) (hd : o.data = .fields vs)
    (hn : ["enumerate", "zip", "dict_itemiterator", "dict_reverseitemiterator", "odict_iterator", "itertools.zip_longest", "itertools.pairwise"].contains n = false) (hQ : Q () s) : wpAny M A (letOwnedTupleGo tg (.ref it) u) Q E s := by
  unfold letOwnedTupleGo
  cases tg <;> first
    | exact wpAny_pure hQ
    | (cases u <;> first
        | exact wpAny_pure hQ
        | (refine wpAny_bind (wpAny_load ho ?_)
           rw [hc, hd]
           show wpAny M A (if (["enumerate", "zip", "dict_itemiterator", "dict_reverseitemiterator", "odict_iterator", "itertools.zip_longest", "itertools.pairwise"].contains n && vs[0]? == some (rawInt _)) = true then _ else _) Q E s
           rw [if_neg (by intro h; rw [hn, Bool.false_and] at h; cases h)]
           exact wpAny_pure hQ))

/-- the list at a, as it stands at each turn (a loop may append to it) -/
def Itl (K : PySem.W.Frag) (a : Addr) : It :=
  ⟨fun i H => ∃ xs x, SqL K H a xs ∧ xs[i]? = some x, fun i H x H' => H' = H ∧ ∀ xs, SqL K H a xs → xs[i]? = some x, fun i H => ∃ xs, SqL K H a xs ∧ xs.length ≤ i⟩
def Itt (K : PySem.W.Frag) (a : Addr) : It :=
  ⟨fun i H => ∃ xs x, SqT K H a xs ∧ xs[i]? = some x, fun i H x H' => H' = H ∧ ∀ xs, SqT K H a xs → xs[i]? = some x, fun i H => ∃ xs, SqT K H a xs ∧ xs.length ≤ i⟩
/-- lo, lo + 1, .. (n of them) -/
def Itr (lo : Int) (n : Nat) : It := ⟨fun i _ => i < n, fun i H x H' => H' = H ∧ x = .int (lo + i), fun i _ => n ≤ i⟩
theorem turn_list {P : Program} {w : World} {K : PySem.W.Frag} {tg : Expr} (a it : Addr) : Turn P w K tg (Itl K a) [it] it (fun i h => h.IsListIter it a i) where
  mem := by simp
  obj := fun i h st b hb => by
    have e : b = it := by simpa using hb
    subst e
    obtain ⟨o, e, c, d⟩ := st
    exact ⟨o, e, fun v z => by rw [d] at z; cases z⟩
  keep := fun i h h' st k => st.at fun o e => k it (by simp) o e
  item := by
    intro X hP hw hK hc i pins s σ H E I hf st hg
    subst hP hw hK
    obtain ⟨xs, x, hq, hx⟩ := hg
    obtain ⟨its, rv, p, hz⟩ := I.list hq
    obtain ⟨u, hu, ru⟩ := rv.get hx
    obtain ⟨f0, f1, f2, f3, f4, f5⟩ := hf it (by simp)
    refine wpAny_pyNext_list_item st p.isList (x := u) (by simpa using hu) fun h' st' sb => ?_
    have I1 : Inv X pins σ H { s with heap := h' } := I.turned (t' := s.toks) (fun b o hb e => (sb.2 b hb).trans e) f0 f1 f3 f4 f5
    obtain ⟨o, e, c, d⟩ := id st'
    exact ⟨u, rfl, go_of (s := { s with heap := h' }) e c d (by decide) ⟨x, H, I1, ru, ⟨rfl, fun ys hy => by rw [I.list_inj hy hq]; exact hx⟩, st', fun b hb => (hf b hb).1⟩⟩
  done := by
    intro X hP hw hK hc i pins s σ H E I hf st hg
    subst hP hw hK
    obtain ⟨xs, hq, hx⟩ := hg
    obtain ⟨its, rv, p, hz⟩ := I.list hq
    obtain ⟨f0, f1, f2, f3, f4, f5⟩ := hf it (by simp)
    have hl := rv.length
    exact wpAny_pyNext_list_end (I.ok.hd hc) st p.isList (by simp; omega) fun h' eb => ⟨rfl, I.turned (t' := s.toks) (fun b o hb e => eb b o hb e) f0 f1 f3 f4 f5⟩
  self := fun _ _ _ _ _ st h => wpAny_pyIter_listiter st h
theorem turn_tuple {P : Program} {w : World} {K : PySem.W.Frag} {tg : Expr} (a it : Addr) : Turn P w K tg (Itt K a) [it] it (fun i h => h.IsTupleIter it a i) where
  mem := by simp
  obj := fun i h st b hb => by
    have e : b = it := by simpa using hb
    subst e
    obtain ⟨o, e, c, d⟩ := st
    exact ⟨o, e, fun v z => by rw [d] at z; cases z⟩
  keep := fun i h h' st k => st.at fun o e => k it (by simp) o e
  item := by
    intro X hP hw hK hc i pins s σ H E I hf st hg
    subst hP hw hK
    obtain ⟨xs, x, hq, hx⟩ := hg
    obtain ⟨its, rv, p, hz⟩ := I.tuple hq
    obtain ⟨u, hu, ru⟩ := rv.get hx
    obtain ⟨f0, f1, f2, f3, f4, f5⟩ := hf it (by simp)
    refine wpAny_pyNext_tuple_item st (show s.heap.IsTuple a its.toArray from p) (x := u) (by simpa using hu) fun h' st' sb => ?_
    have I1 : Inv X pins σ H { s with heap := h' } := I.turned (t' := s.toks) (fun b o hb e => (sb.2 b hb).trans e) f0 f1 f3 f4 f5
    obtain ⟨o, e, c, d⟩ := id st'
    exact ⟨u, rfl, go_of (s := { s with heap := h' }) e c d (by decide) ⟨x, H, I1, ru, ⟨rfl, fun ys hy => by rw [I.tuple_inj hy hq]; exact hx⟩, st', fun b hb => (hf b hb).1⟩⟩
  done := by
    intro X hP hw hK hc i pins s σ H E I hf st hg
    subst hP hw hK
    obtain ⟨xs, hq, hx⟩ := hg
    obtain ⟨its, rv, p, hz⟩ := I.tuple hq
    obtain ⟨f0, f1, f2, f3, f4, f5⟩ := hf it (by simp)
    have hl := rv.length
    exact wpAny_pyNext_tuple_end (I.ok.hd hc) st (show s.heap.IsTuple a its.toArray from p) (by simp; omega) fun h' eb => ⟨rfl, I.turned (t' := s.toks) (fun b o hb e => eb b o hb e) f0 f1 f3 f4 f5⟩
  self := fun _ _ _ _ _ st h => wpAny_pyIter_tupleiter st h
theorem turn_range {P : Program} {w : World} {K : PySem.W.Frag} {tg : Expr} (it : Addr) (lo : Int) (n : Nat) : Turn P w K tg (Itr lo n) [it] it (fun i h => IsRangeIter h it (lo + (i : Nat) * 1) ((n : Int) - (i : Nat)) 1) where
  mem := by simp
  obj := fun i h st b hb => by
    have e : b = it := by simpa using hb
    subst e
    exact ⟨_, st, fun v z => by
      have z' : Data.fields _ = Data.cell v := z
      cases z'⟩
  keep := fun i h h' st k => k it (by simp) _ st
  item := by
    intro X hP hw hK hc i pins s σ H E I hf st hg
    subst hP hw hK
    obtain ⟨f0, f1, f2, f3, f4, f5⟩ := hf it (by simp)
    have W := Walks.range (prog := X.prog) (w := X.w) (I.ok.hd hc) it lo 1 n
    refine W.item i s _ _ hg st fun v h' tk hv st' kk => ?_
    obtain ⟨t, rfl⟩ := hv
    have I1 : Inv X pins σ H { s with heap := h', toks := tk } := I.turned (fun b o hb e => kk b o (by simpa using hb) e) f0 f1 f3 f4 f5
    refine ⟨_, rfl, go_of (s := { s with heap := h', toks := tk }) (n := "range_iterator") st' rfl rfl (by decide) ⟨.int (lo + i), H, I1, ⟨t, ?_⟩, ⟨rfl, rfl⟩, st', fun b hb => (hf b hb).1⟩⟩
    rw [Int.mul_one]
  done := by
    intro X hP hw hK hc i pins s σ H E I hf st hg
    subst hP hw hK
    obtain ⟨f0, f1, f2, f3, f4, f5⟩ := hf it (by simp)
    exact wpAny_pyNext_range_end (I.ok.hd hc) st (by have : n ≤ i := hg; omega) fun h' eb => ⟨rfl, I.turned (t' := s.toks) (fun b o hb e => eb b o hb e) f0 f1 f3 f4 f5⟩
  self := fun _ _ _ _ _ st h => wpAny_pyIter_rangeiter st h
end L2

namespace L2
open PySem PySem.Spec PyProof.Rows
section
variable {X : Cx} {tg : Expr}
def iList (K : PySem.W.Frag) (tl : TE) : TI := fun σ H R => tl σ H fun x H1 => ∃ a, x = .ref a ∧ (∃ xs, SqL K H1 a xs) ∧ R (Itl K a) H1
def iTup (K : PySem.W.Frag) (tl : TE) : TI := fun σ H R => tl σ H fun x H1 => ∃ a, x = .ref a ∧ (∃ xs, SqT K H1 a xs) ∧ R (Itt K a) H1
theorem pi_list {l : Expr} {tl : TE} (hl : PE X l tl) : PI X tg l (iList X.K tl) := by
  intro pins s σ H R I h
  refine thn (hl pins s σ H _ I h) fun v s1 ⟨x, H1, I1, r1, q1⟩ => ?_
  obtain ⟨a, e, ⟨xs, hq⟩, q⟩ := q1
  subst e
  cases r1
  obtain ⟨its, rv, p, hz⟩ := I1.list hq
  refine wpAny_pyIter_list p.isList ?_
  refine ⟨s1.heap.objs.size, [s1.heap.objs.size], _, _, H1, rfl, I1.kept (t' := s1.toks) fun b o e => Heap.get?_push_of_some _ e, turn_list a _, ⟨_, Heap.get?_push_size _ rfl, rfl, rfl⟩, fun b hb => ?_, q⟩
  have e : b = s1.heap.objs.size := by simpa using hb
  subst e
  exact I1.fpOk (Nat.le_refl _) (I1.hok.fresh (Nat.le_refl _))
theorem pi_tup {l : Expr} {tl : TE} (hl : PE X l tl) : PI X tg l (iTup X.K tl) := by
  intro pins s σ H R I h
  refine thn (hl pins s σ H _ I h) fun v s1 ⟨x, H1, I1, r1, q1⟩ => ?_
  obtain ⟨a, e, ⟨xs, hq⟩, q⟩ := q1
  subst e
  cases r1
  obtain ⟨its, rv, p, hz⟩ := I1.tuple hq
  refine wpAny_pyIter_tuple (show s1.heap.IsTuple a its.toArray from p) ?_
  refine ⟨s1.heap.objs.size, [s1.heap.objs.size], _, _, H1, rfl, I1.kept (t' := s1.toks) fun b o e => Heap.get?_push_of_some _ e, turn_tuple a _, ⟨_, Heap.get?_push_size _ rfl, rfl, rfl⟩, fun b hb => ?_, q⟩
  have e : b = s1.heap.objs.size := by simpa using hb
  subst e
  exact I1.fpOk (Nat.le_refl _) (I1.hok.fresh (Nat.le_refl _))
/-- a range object just made, walked -/
theorem range_it {pins : List (Addr × Obj)} {σ : St} {H : Hp} {s : Shared} {R : It → Hp → Prop} {E : Value → Shared → Prop} {lo hi : Int} {t u v : Tok} {tk : Nat} (I : Inv X pins σ H s) (h1 : -(2 ^ 62) ≤ lo) (h2 : lo < 2 ^ 62) (h3 : -(2 ^ 62) ≤ hi) (h4 : hi < 2 ^ 62)
    (q : R (Itr lo (hi - lo).toNat) H) : wpAny (model X.prog X.w) X.A (pyIter (.ref s.heap.objs.size)) (PIE X pins σ tg R) E { s with heap := s.heap.push { cls := .type "range", data := .fields #[.int lo t, .int hi u, .int 1 v] }, toks := tk } := by
  refine wpAny_pyIter_range (IsRange.new ..) (small_one h1 h2 h3 h4) ?_
  have I1 : Inv X pins σ H { s with heap := s.heap.push { cls := .type "range", data := .fields #[.int lo t, .int hi u, .int 1 v] }, toks := tk } := I.kept fun b o e => Heap.get?_push_of_some _ e
  refine ⟨(s.heap.push { cls := .type "range", data := .fields #[.int lo t, .int hi u, .int 1 v] }).objs.size, [(s.heap.push { cls := .type "range", data := .fields #[.int lo t, .int hi u, .int 1 v] }).objs.size], _, _, H, rfl,
    I1.kept (t' := tk) fun b o e => Heap.get?_push_of_some _ e, turn_range _ lo (hi - lo).toNat, ?_, fun b hb => ?_, q⟩
  · have e1 : lo + ((0 : Nat) : Int) * 1 = lo := by simp
    have e2 : (((hi - lo).toNat : Nat) : Int) - ((0 : Nat) : Int) = Builtin.Range.rangeSize lo hi 1 := by rw [rangeSize_one]; split <;> omega
    show IsRangeIter _ _ (lo + ((0 : Nat) : Int) * 1) ((((hi - lo).toNat : Nat) : Int) - ((0 : Nat) : Int)) 1
    rw [e1, e2]
    exact Heap.get?_push_size _ rfl
  · have e : b = (s.heap.push { cls := .type "range", data := .fields #[.int lo t, .int hi u, .int 1 v] }).objs.size := by simpa using hb
    subst e
    exact I1.fpOk (Nat.le_refl _) (I1.hok.fresh (Nat.le_refl _))
def iRng1 (ta : TA) : TI := fun σ H R => ta σ H fun vs H1 => ∃ j : Int, vs = [.int j] ∧ -(2 ^ 62) ≤ j ∧ j < 2 ^ 62 ∧ R (Itr 0 j.toNat) H1
theorem pi_range1 {a : Expr} {ta : TA} {p pos : Pos} (hg : Gl X "range") (hm : X.mg "range" = none) (ha : PA X [a] ta) (hs : starEach [a] X.env = [(false, eval a X.env)] := by rfl) : PI X tg (.Call (.Name "range" p) [a] [] pos) (iRng1 ta) := by
  intro pins s σ H R I h
  refine Call_ (ld_blt I hg hm boot_range (PyProof.Rows.callWith_type1 (thn (ha pos pins s σ H _ I h) fun us s1 ⟨vs, H1, I1, r1, q1⟩ => ?_) hs rfl))
  obtain ⟨j, e, q1, q2, q⟩ := q1
  subst e
  cases r1 with
  | cons r rr =>
    cases rr
    obtain ⟨t, rfl⟩ := r
    exact call_range_1 (range_it I1 (by omega) (by omega) q1 q2 (by simpa using q))

/-! ### for -/
/-- W: the invariant by the turn and a measure; N: what the body is to reach -/
def tFor (wi : TI) (g : TG) (tb : TS) : TS := fun D σ H => wi σ H fun J H1 => ∃ W : Nat → Nat → St → Hp → Prop, (∃ m, W 0 m σ H1) ∧ ∀ i m σ H, W i m σ H →
  (J.stop i H ∧ D.nx σ H) ∨ (J.go i H ∧ ∃ N : St → Hp → Prop, (∀ σ' H', N σ' H' → ∃ m', m' < m ∧ W (i + 1) m' σ' H') ∧ ∀ x H', J.yld i H x H' → g x σ H' fun σ2 H2 => tb { D with nx := N, ct := N, bk := D.nx } σ2 H2)
/-- the records at fp as they stand -/
def pinsAt (fp : List Addr) (h : Heap) : List (Addr × Obj) := fp.filterMap fun b => (h.get? b).map fun o => (b, o)
theorem mem_pinsAt {fp : List Addr} {h : Heap} {b : Addr} {o : Obj} (hb : b ∈ fp) (e : h.get? b = some o) : (b, o) ∈ pinsAt fp h := List.mem_filterMap.mpr ⟨b, hb, by rw [e]; rfl⟩
theorem of_pinsAt {fp : List Addr} {h : Heap} {p : Addr × Obj} (hp : p ∈ pinsAt fp h) : p.1 ∈ fp ∧ h.get? p.1 = some p.2 := by
  obtain ⟨b, hb, e⟩ := List.mem_filterMap.mp hp
  cases q : h.get? b with
  | none => rw [q] at e; cases e
  | some o =>
    rw [q] at e
    have e' : (b, o) = p := Option.some.inj e
    subst e'
    exact ⟨hb, q⟩
theorem Inv.pinned {pins : List (Addr × Obj)} {σ : St} {H : Hp} {s : Shared} {fp : List Addr} (I : Inv X pins σ H s) (hf : ∀ b ∈ fp, FpOk X pins H b) (ho : ∀ b ∈ fp, ∃ o, s.heap.get? b = some o ∧ ∀ v, o.data ≠ .cell v) : Inv X (pins ++ pinsAt fp s.heap) σ H s :=
  I.pins_of fun p hp => (List.mem_append.mp hp).elim (fun z => I.pin p (List.mem_append_right _ z)) fun z => by
    obtain ⟨hb, e⟩ := of_pinsAt z
    obtain ⟨f0, f1, f2, _⟩ := hf p.1 hb
    obtain ⟨o, e', d⟩ := ho p.1 hb
    rw [e] at e'; cases e'
    exact ⟨e, f0, f1, f2, d⟩
theorem Inv.unpinned {pins pl : List (Addr × Obj)} {σ : St} {H : Hp} {s : Shared} (I : Inv X (pins ++ pl) σ H s) : Inv X pins σ H s := I.pins_of fun p hp => I.pin p (List.mem_append_right _ (List.mem_append_left _ hp))
theorem ps_for {iter : Expr} {body : List Stmt} {wi : TI} {g : TG} {tb : TS} {pos : Pos} (hp : PassesOwn (model X.prog X.w) X.A X.env X.xe) (hc : X.calm = true) (hi : PI X tg iter wi) (hg : PG X tg g) (hb : PSs X body tb)
    (hs : ∀ x, foldedSetIterable iter X.env x = pure x := by intro _; rfl) : PS X (.For tg iter body [] pos) (tFor wi g tb) := by
  intro pins s σ H D I h
  refine wpAny_For (thn (hi pins s σ H _ I h) fun v s1 h1 => thn h1 fun itv s2 h2 => ?_) hs
  obtain ⟨it, fp, tn, J, H2, e, I2, T, st2, f2, W, ⟨m0, w0⟩, turn⟩ := h2
  subst e
  -- what stays true of the iterator's objects through the loop
  have stat : ∀ {H' : Hp}, (∀ b ∈ fp, H' b = none) → ∀ b ∈ fp, FpOk X pins H' b := fun hn b hb => ⟨hn b hb, (f2 b hb).2⟩
  refine codeAny_forLoop_any (fun n s' => ∃ i σ' H', Inv X pins σ' H' s' ∧ tn i s'.heap ∧ (∀ b ∈ fp, H' b = none) ∧ W i n σ' H') ?_ m0 ⟨0, σ, H2, I2, st2, fun b hb => (f2 b hb).1, w0⟩
  rintro n s3 ⟨i, σ3, H3, I3, st3, fr3, w3⟩
  rcases turn i n σ3 H3 w3 with ⟨stop, qn⟩ | ⟨go, N, hN, step⟩
  · refine wpAny_passesOwn hp (thn (T.done X rfl rfl rfl hc i pins s3 σ3 H3 X.xe I3 (stat fr3) st3 stop) fun r s4 ⟨hr, I4⟩ => ?_)
    subst hr
    exact wpAny_execs_nil ⟨σ3, H3, I4, qn⟩
  · refine wpAny_passesOwn hp (thn (T.item X rfl rfl rfl hc i pins s3 σ3 H3 X.xe I3 (stat fr3) st3 go) fun r s4 ⟨u, hr, h4⟩ => ?_)
    subst hr
    refine wpAny_passesOwn hp (thn h4 fun _ s5 ⟨x, H5, I5, r5, y5, st5, fr5⟩ => ?_)
    have I5' := I5.pinned (stat fr5) (T.obj _ _ st5)
    refine wpAny_passesOwn hp (thn (hg _ s5 σ3 H5 x u _ I5' r5 (step x H5 y5)) fun _ s6 ⟨σ6, H6, I6, q6⟩ => ?_)
    refine wpAny_passesOwn hp (thn (hb _ s6 σ6 H6 _ I6 q6) fun f s7 q7 => ?_)
    have again : ∀ {σ7 : St} {H7 : Hp}, Inv X (pins ++ pinsAt fp s5.heap) σ7 H7 s7 → N σ7 H7 → ∃ m, m < n ∧ ∃ i σ' H', Inv X pins σ' H' s7 ∧ tn i s7.heap ∧ (∀ b ∈ fp, H' b = none) ∧ W i m σ' H' := fun {σ7 H7} I7 n7 => by
      obtain ⟨m', hm, w7⟩ := hN σ7 H7 n7
      refine ⟨m', hm, i + 1, σ7, H7, I7.unpinned, T.keep _ _ _ st5 fun b hb o e => (I7.pin (b, o) (List.mem_append_right _ (List.mem_append_right _ (mem_pinsAt hb e)))).1, fun b hb => ?_, w7⟩
      obtain ⟨o, e, d⟩ := T.obj _ _ st5 b hb
      exact (I7.pin (b, o) (List.mem_append_right _ (List.mem_append_right _ (mem_pinsAt hb e)))).2.1
    cases f with
    | next => obtain ⟨σ7, H7, I7, n7⟩ := q7; exact again I7 n7
    | cont => obtain ⟨σ7, H7, I7, n7⟩ := q7; exact again I7 n7
    | brk => obtain ⟨σ7, H7, I7, q7⟩ := q7; exact ⟨σ7, H7, I7.unpinned, q7⟩
    | ret v => obtain ⟨x7, σ7, H7, I7, r7, q7⟩ := q7; exact ⟨x7, σ7, H7, I7.unpinned, r7, q7⟩
end

/-! ### the forms one uses -/
/-- over a list that the body leaves as it is -/
theorem for_list {K : PySem.W.Frag} {a : Addr} {xs : List V} {g : TG} {tb : TS} {D : Ends} {σ : St} {H : Hp} (Pv : Nat → St → Hp → Prop) (h0 : Pv 0 σ H) (hl : ∀ i σ H, i ≤ xs.length → Pv i σ H → SqL K H a xs)
    (hs : ∀ i x σ H, xs[i]? = some x → Pv i σ H → g x σ H fun σ2 H2 => tb { D with nx := Pv (i + 1), ct := Pv (i + 1), bk := D.nx } σ2 H2) (hd : ∀ σ H, Pv xs.length σ H → D.nx σ H) :
    ∃ W : Nat → Nat → St → Hp → Prop, (∃ m, W 0 m σ H) ∧ ∀ i m σ H, W i m σ H →
      ((Itl K a).stop i H ∧ D.nx σ H) ∨ ((Itl K a).go i H ∧ ∃ N : St → Hp → Prop, (∀ σ' H', N σ' H' → ∃ m', m' < m ∧ W (i + 1) m' σ' H') ∧ ∀ x H', (Itl K a).yld i H x H' → g x σ H' fun σ2 H2 => tb { D with nx := N, ct := N, bk := D.nx } σ2 H2) := by
  refine ⟨fun i m σ H => m = xs.length - i ∧ i ≤ xs.length ∧ Pv i σ H, ⟨xs.length, by simp, Nat.zero_le _, h0⟩, ?_⟩
  rintro i m σ H ⟨rfl, hi, p⟩
  have q := hl i σ H hi p
  by_cases hlt : i < xs.length
  · refine .inr ⟨⟨xs, xs[i], q, by simp [hlt]⟩, Pv (i + 1), fun σ' H' p' => ⟨xs.length - (i + 1), by omega, rfl, hlt, p'⟩, fun x H' y => ?_⟩
    obtain ⟨e, y⟩ := y
    subst e
    exact hs i x σ _ (y xs q) p
  · have e : i = xs.length := by omega
    subst e
    exact .inl ⟨⟨xs, q, Nat.le_refl _⟩, hd σ H p⟩
theorem for_tup {K : PySem.W.Frag} {a : Addr} {xs : List V} {g : TG} {tb : TS} {D : Ends} {σ : St} {H : Hp} (Pv : Nat → St → Hp → Prop) (h0 : Pv 0 σ H) (hl : ∀ i σ H, i ≤ xs.length → Pv i σ H → SqT K H a xs)
    (hs : ∀ i x σ H, xs[i]? = some x → Pv i σ H → g x σ H fun σ2 H2 => tb { D with nx := Pv (i + 1), ct := Pv (i + 1), bk := D.nx } σ2 H2) (hd : ∀ σ H, Pv xs.length σ H → D.nx σ H) :
    ∃ W : Nat → Nat → St → Hp → Prop, (∃ m, W 0 m σ H) ∧ ∀ i m σ H, W i m σ H →
      ((Itt K a).stop i H ∧ D.nx σ H) ∨ ((Itt K a).go i H ∧ ∃ N : St → Hp → Prop, (∀ σ' H', N σ' H' → ∃ m', m' < m ∧ W (i + 1) m' σ' H') ∧ ∀ x H', (Itt K a).yld i H x H' → g x σ H' fun σ2 H2 => tb { D with nx := N, ct := N, bk := D.nx } σ2 H2) := by
  refine ⟨fun i m σ H => m = xs.length - i ∧ i ≤ xs.length ∧ Pv i σ H, ⟨xs.length, by simp, Nat.zero_le _, h0⟩, ?_⟩
  rintro i m σ H ⟨rfl, hi, p⟩
  have q := hl i σ H hi p
  by_cases hlt : i < xs.length
  · refine .inr ⟨⟨xs, xs[i], q, by simp [hlt]⟩, Pv (i + 1), fun σ' H' p' => ⟨xs.length - (i + 1), by omega, rfl, hlt, p'⟩, fun x H' y => ?_⟩
    obtain ⟨e, y⟩ := y
    subst e
    exact hs i x σ _ (y xs q) p
  · have e : i = xs.length := by omega
    subst e
    exact .inl ⟨⟨xs, q, Nat.le_refl _⟩, hd σ H p⟩
theorem for_range {lo : Int} {n : Nat} {g : TG} {tb : TS} {D : Ends} {σ : St} {H : Hp} (Pv : Nat → St → Hp → Prop) (h0 : Pv 0 σ H)
    (hs : ∀ i σ H, i < n → Pv i σ H → g (.int (lo + i)) σ H fun σ2 H2 => tb { D with nx := Pv (i + 1), ct := Pv (i + 1), bk := D.nx } σ2 H2) (hd : ∀ σ H, Pv n σ H → D.nx σ H) :
    ∃ W : Nat → Nat → St → Hp → Prop, (∃ m, W 0 m σ H) ∧ ∀ i m σ H, W i m σ H →
      ((Itr lo n).stop i H ∧ D.nx σ H) ∨ ((Itr lo n).go i H ∧ ∃ N : St → Hp → Prop, (∀ σ' H', N σ' H' → ∃ m', m' < m ∧ W (i + 1) m' σ' H') ∧ ∀ x H', (Itr lo n).yld i H x H' → g x σ H' fun σ2 H2 => tb { D with nx := N, ct := N, bk := D.nx } σ2 H2) := by
  refine ⟨fun i m σ H => m = n - i ∧ i ≤ n ∧ Pv i σ H, ⟨n, by simp, Nat.zero_le _, h0⟩, ?_⟩
  rintro i m σ H ⟨rfl, hi, p⟩
  by_cases hlt : i < n
  · refine .inr ⟨hlt, Pv (i + 1), fun σ' H' p' => ⟨n - (i + 1), by omega, rfl, hlt, p'⟩, fun x H' y => ?_⟩
    obtain ⟨e, y⟩ := y
    subst e y
    exact hs i σ _ hlt p
  · have e : i = n := by omega
    subst e
    exact .inl ⟨Nat.le_refl _, hd σ H p⟩
end L2

namespace L2
open PySem PySem.Spec PyProof.Rows

abbrev R2 := V → V → Hp → VK → Prop
/-- a two-place operation on values: f is binaryOp op, inplaceOp op or compareOp op -/
def OpR (X : Cx) (f : Value → Value → Sem Value) (r : R2) : Prop :=
  ∀ (pins : List (Addr × Obj)) (s : Shared) (σ : St) (H : Hp) (x y : V) (v u : Value) (Q : VK), Inv X pins σ H s → RelV x v → RelV y u → r x y H Q →
    wpAny (model X.prog X.w) X.A (f v u) (EP X pins σ Q) X.xe s
/-- a one-place operation -/
def UnR (X : Cx) (f : Value → Sem Value) (r : V → Hp → VK → Prop) : Prop :=
  ∀ (pins : List (Addr × Obj)) (s : Shared) (σ : St) (H : Hp) (x : V) (v : Value) (Q : VK), Inv X pins σ H s → RelV x v → r x H Q →
    wpAny (model X.prog X.w) X.A (f v) (EP X pins σ Q) X.xe s
/-- a call of a value that is known (a builtin, a type) with values -/
def CallR (X : Cx) (f : Value) (r : List V → Hp → VK → Prop) : Prop :=
  ∀ (pins : List (Addr × Obj)) (s : Shared) (σ : St) (H : Hp) (xs : List V) (us : List Value) (Q : VK), Inv X pins σ H s → Vals xs us → r xs H Q →
    wpAny (model X.prog X.w) X.A (call f us) (EP X pins σ Q) X.xe s
/-- a value's truth -/
def TruR (X : Cx) (r : V → Hp → (Bool → Hp → Prop) → Prop) : Prop :=
  ∀ (pins : List (Addr × Obj)) (s : Shared) (σ : St) (H : Hp) (x : V) (v : Value) (Q : Bool → Hp → Prop), Inv X pins σ H s → RelV x v → r x H Q →
    wpAny (model X.prog X.w) X.A (truthy v) (TP X pins σ Q) X.xe s

def tOp (r : R2) (ta tb : TE) : TE := fun σ H Q => ta σ H fun x H1 => tb σ H1 fun y H2 => r x y H2 Q
def tUn (r : V → Hp → VK → Prop) (ta : TE) : TE := fun σ H Q => ta σ H fun x H1 => r x H1 Q
/-- ints in, under C, and a value out -/
def rI (C : Int → Int → Prop) (g : Int → Int → V) : R2 := fun x y H Q => ∃ i j, x = .int i ∧ y = .int j ∧ C i j ∧ Q (g i j) H
def rI0 (g : Int → Int → V) : R2 := fun x y H Q => ∃ i j, x = .int i ∧ y = .int j ∧ Q (g i j) H
def rU (g : Int → V) : V → Hp → VK → Prop := fun x H Q => ∃ i, x = .int i ∧ Q (g i) H

section
variable {X : Cx} {a b c : Expr} {ta tb tc : TE} {pos : Pos}

theorem binT (ha : PE X a ta) (hb : PE X b tb) {pins : List (Addr × Obj)} {s : Shared} {σ : St} {H : Hp} {R : V → V → Hp → Prop} (I : Inv X pins σ H s)
    (h : ta σ H fun x H1 => tb σ H1 fun y H2 => R x y H2) {Q : Value → Shared → Prop} {f : Value → Value → Sem Value}
    (hf : ∀ v u s2 x y H2, Inv X pins σ H2 s2 → RelV x v → RelV y u → R x y H2 → wpAny (model X.prog X.w) X.A (f v u) Q X.xe s2) :
    wpAny (model X.prog X.w) X.A (eval a X.env) (fun v s₁ => wpAny (model X.prog X.w) X.A (eval b X.env) (fun u s₂ => wpAny (model X.prog X.w) X.A (f v u) Q X.xe s₂) X.xe s₁) X.xe s := by
  refine thn (ha pins s σ H _ I h) fun v s1 ⟨x, H1, I1, r1, q1⟩ => ?_
  refine thn (hb pins s1 σ H1 _ I1 q1) fun u s2 ⟨y, H2, I2, r2, q2⟩ => ?_
  exact hf v u s2 x y H2 I2 r1 r2 q2

theorem pe_op {op : Operator} {r : R2} (ho : OpR X (binaryOp op) r) (ha : PE X a ta) (hb : PE X b tb) : PE X (.BinOp a op b pos) (tOp r ta tb) := by
  intro pins s σ H Q I h
  exact wpAny_BinOp (binT ha hb I h fun v u s2 x y H2 I2 rx ry q => ho pins s2 σ H2 x y v u Q I2 rx ry q)
theorem pe_un {op : UnaryOp} {r : V → Hp → VK → Prop} (ho : UnR X (unaryOp op) r) (ha : PE X a ta) : PE X (.UnaryOp op a pos) (tUn r ta) := by
  intro pins s σ H Q I h
  exact UnaryOp_ (thn (ha pins s σ H _ I h) fun v s1 ⟨x, H1, I1, r1, q1⟩ => ho pins s1 σ H1 x v Q I1 r1 q1)

/-! ### ints -/
theorem opI {f : Value → Value → Sem Value} {C : Int → Int → Prop} {g : Int → Int → Int}
    (rule : ∀ (i j : Int) (t u : Tok) (s : Shared) (Q : Value → Shared → Prop) (E : Value → Shared → Prop), C i j → Q (.int (g i j) s.toks) { s with toks := s.toks + 1 } → wpAny (model X.prog X.w) X.A (f (.int i t) (.int j u)) Q E s) :
    OpR X f (rI C fun i j => .int (g i j)) := by
  intro pins s σ H x y v u Q I rx ry h
  obtain ⟨i, j, rfl, rfl, hc, q⟩ := h
  obtain ⟨t, rfl⟩ := rx
  obtain ⟨t', rfl⟩ := ry
  exact rule i j t t' s _ _ hc ⟨.int (g i j), H, I.tok _, ⟨_, rfl⟩, q⟩
theorem opI0 {f : Value → Value → Sem Value} {g : Int → Int → Int}
    (rule : ∀ (i j : Int) (t u : Tok) (s : Shared) (Q : Value → Shared → Prop) (E : Value → Shared → Prop), Q (.int (g i j) s.toks) { s with toks := s.toks + 1 } → wpAny (model X.prog X.w) X.A (f (.int i t) (.int j u)) Q E s) :
    OpR X f (rI0 fun i j => .int (g i j)) := by
  intro pins s σ H x y v u Q I rx ry h
  obtain ⟨i, j, rfl, rfl, q⟩ := h
  obtain ⟨t, rfl⟩ := rx
  obtain ⟨t', rfl⟩ := ry
  exact rule i j t t' s _ _ ⟨.int (g i j), H, I.tok _, ⟨_, rfl⟩, q⟩
theorem opB0 {f : Value → Value → Sem Value} {g : Int → Int → Bool}
    (rule : ∀ (i j : Int) (t u : Tok) (s : Shared) (Q : Value → Shared → Prop) (E : Value → Shared → Prop), Q (.bool (g i j)) s → wpAny (model X.prog X.w) X.A (f (.int i t) (.int j u)) Q E s) :
    OpR X f (rI0 fun i j => .bl (g i j)) := by
  intro pins s σ H x y v u Q I rx ry h
  obtain ⟨i, j, rfl, rfl, q⟩ := h
  obtain ⟨t, rfl⟩ := rx
  obtain ⟨t', rfl⟩ := ry
  exact rule i j t t' s _ _ ⟨.bl (g i j), H, I, rfl, q⟩

def CDiv (i j : Int) : Prop := 0 < j ∧ j < 1073741824
def CPow (i j : Int) : Prop := 0 ≤ j ∧ j ≤ 1000000 ∧ i.natAbs < 2 ^ 64
def CMul (i j : Int) : Prop := (-(2 ^ 64) < i ∧ i < 2 ^ 64) ∨ (-(2 ^ 64) < j ∧ j < 2 ^ 64)
theorem CMul.ok {i j : Int} (h : CMul i j) : IntMulOk i j := by
  rcases h with ⟨h1, h2⟩ | ⟨h1, h2⟩
  · exact .of_left (intBits_le_64 h1 h2)
  · exact .of_right (intBits_le_64 h1 h2)

theorem op_add : OpR X (binaryOp .Add) (rI0 fun i j => .int (i + j)) := opI0 fun _ _ _ _ _ _ _ q => add_int q
theorem op_sub : OpR X (binaryOp .Sub) (rI0 fun i j => .int (i - j)) := opI0 fun _ _ _ _ _ _ _ q => sub_int q
/-- // by a positive divisor -/
theorem op_fdiv : OpR X (binaryOp .FloorDiv) (rI CDiv fun i j => .int (i / j)) := opI fun i j _ _ _ _ _ hc q => by
  have h1 : (0 : Int) < j := hc.1
  have h2 : j < 1073741824 := hc.2
  exact floordiv_int (by omega) (by rw [Int.fdiv_eq_ediv_of_nonneg i (by omega)]; exact q) (.inl (PyProof.noPylong_small (by omega)))
/-- % by a positive divisor of any size -/
theorem op_mod : OpR X (binaryOp .Mod) (rI (fun _ j => 0 < j) fun i j => .int (i % j)) := opI fun i j _ _ _ _ _ hc q => by
  have h1 : (0 : Int) < j := hc
  exact mod_int' (by omega) (by rw [Int.fmod_eq_emod_of_nonneg i (by omega)]; exact q)
theorem op_pow : OpR X (binaryOp .Pow) (rI CPow fun i j => .int (i ^ j.toNat)) := opI fun _ _ _ _ _ _ _ hc q => pow_int_small hc.1 hc.2.1 hc.2.2 q


theorem unI {f : Value → Sem Value} {g : Int → Int}
    (rule : ∀ (i : Int) (t : Tok) (s : Shared) (Q : Value → Shared → Prop) (E : Value → Shared → Prop), Q (.int (g i) s.toks) { s with toks := s.toks + 1 } → wpAny (model X.prog X.w) X.A (f (.int i t)) Q E s) :
    UnR X f (rU fun i => .int (g i)) := by
  intro pins s σ H x v Q I rx h
  obtain ⟨i, rfl, q⟩ := h
  obtain ⟨t, rfl⟩ := rx
  exact rule i t s _ _ ⟨.int (g i), H, I.tok _, ⟨_, rfl⟩, q⟩
theorem un_neg : UnR X (unaryOp .USub) (rU fun i => .int (-i)) := unI fun _ _ _ _ _ q => neg_int q

/-! ### bools among ints: n += (a < b) -/
end

/-! ### comparisons -/
/-- the scalars that == tells apart as data does -/
def scal : V → V → Bool
  | .non, .non => true | .non, .int _ => true | .int _, .non => true | .non, .bl _ => true | .bl _, .non => true | .non, .str _ => true | .str _, .non => true
  | .int _, .int _ => true | .bl _, .bl _ => true | .str _, .str _ => true | .byt _, .byt _ => true
  | .int _, .str _ => true | .str _, .int _ => true | .bl _, .str _ => true | .str _, .bl _ => true
  | _, _ => false
def rEq : R2 := fun x y H Q => scal x y = true ∧ Q (.bl (decide (x = y))) H
def rNe : R2 := fun x y H Q => scal x y = true ∧ Q (.bl (!decide (x = y))) H

theorem dec_int {i j : Int} : decide (V.int i = V.int j) = (i == j) := by
  rw [Bool.eq_iff_iff]
  simp
theorem dec_bl {i j : Bool} : decide (V.bl i = V.bl j) = (i == j) := by
  rw [Bool.eq_iff_iff]
  simp
theorem dec_str {i j : Str} : decide (V.str i = V.str j) = (i == j) := by
  rw [Bool.eq_iff_iff]
  simp
theorem dec_byt {i j : Array UInt8} : decide (V.byt i = V.byt j) = (i.toList == j.toList) := by
  rw [Bool.eq_iff_iff]
  cases i
  cases j
  simp

section
variable {X : Cx} {a b c : Expr} {ta tb tc : TE} {pos : Pos}
theorem fin_bl {pins : List (Addr × Obj)} {σ : St} {H : Hp} {s : Shared} {Q : VK} {k k' : Bool} (I : Inv X pins σ H s) (q : Q (.bl k) H) (e : k = k') : EP X pins σ Q (.bool k') s := by
  subst e
  exact ⟨.bl k, H, I, rfl, q⟩
theorem op_eq : OpR X (compareOp .Eq) rEq := by
  intro pins s σ H x y v u Q I rx ry h
  obtain ⟨hs, q⟩ := h
  cases x with
  | non =>
    cases rx
    cases y with
    | non => cases ry; exact PySem.EqNone.eq_none_none (fin_bl I q (by simp))
    | bl j => cases ry; exact PySem.EqNone.eq_none_bool (fin_bl I q (by simp))
    | int j => obtain ⟨t', rfl⟩ := ry; exact PySem.EqNone.eq_none_int (fin_bl I q (by simp))
    | str j => obtain ⟨t', rfl⟩ := ry; exact PySem.EqNone.eq_none_str (fin_bl I q (by simp))
    | _ => exact absurd (show false = true from hs) Bool.false_ne_true
  | bl i =>
    cases rx
    cases y with
    | non => cases ry; exact PySem.EqNone.eq_bool_none (fin_bl I q (by simp))
    | bl j => cases ry; exact eq_bool (fin_bl I q dec_bl)
    | str j => obtain ⟨t', rfl⟩ := ry; exact PySem.EqMixed.eq_bool_str (fin_bl I q (by simp))
    | _ => exact absurd (show false = true from hs) Bool.false_ne_true
  | int i =>
    obtain ⟨t, rfl⟩ := rx
    cases y with
    | non => cases ry; exact PySem.EqNone.eq_int_none (fin_bl I q (by simp))
    | int j => obtain ⟨t', rfl⟩ := ry; exact eq_int (fin_bl I q dec_int)
    | str j => obtain ⟨t', rfl⟩ := ry; exact PySem.EqMixed.eq_int_str (fin_bl I q (by simp))
    | _ => exact absurd (show false = true from hs) Bool.false_ne_true
  | str i =>
    obtain ⟨t, rfl⟩ := rx
    cases y with
    | non => cases ry; exact PySem.EqNone.eq_str_none (fin_bl I q (by simp))
    | bl j => cases ry; exact PySem.EqMixed.eq_str_bool (fin_bl I q (by simp))
    | int j => obtain ⟨t', rfl⟩ := ry; exact PySem.EqMixed.eq_str_int (fin_bl I q (by simp))
    | str j => obtain ⟨t', rfl⟩ := ry; exact eq_str (fin_bl I q dec_str)
    | _ => exact absurd (show false = true from hs) Bool.false_ne_true
  | byt i =>
    obtain ⟨t, rfl⟩ := rx
    cases y with
    | byt j => obtain ⟨t', rfl⟩ := ry; exact PySem.W.eq_bytes (fin_bl I q dec_byt)
    | _ => exact absurd (show false = true from hs) Bool.false_ne_true
  | _ => cases y <;> exact absurd (show false = true from hs) Bool.false_ne_true
theorem op_ne : OpR X (compareOp .NotEq) rNe := by
  intro pins s σ H x y v u Q I rx ry h
  obtain ⟨hs, q⟩ := h
  cases x with
  | non =>
    cases rx
    cases y with
    | non => cases ry; exact PySem.EqNone.ne_none_none (fin_bl I q (by simp))
    | bl j => cases ry; exact PySem.EqNone.ne_none_bool (fin_bl I q (by simp))
    | int j => obtain ⟨t', rfl⟩ := ry; exact PySem.EqNone.ne_none_int (fin_bl I q (by simp))
    | str j => obtain ⟨t', rfl⟩ := ry; exact PySem.EqNone.ne_none_str (fin_bl I q (by simp))
    | _ => exact absurd (show false = true from hs) Bool.false_ne_true
  | bl i =>
    cases rx
    cases y with
    | non => cases ry; exact PySem.EqNone.ne_bool_none (fin_bl I q (by simp))
    | bl j => cases ry; exact ne_bool (fin_bl I q (congrArg not dec_bl))
    | str j => obtain ⟨t', rfl⟩ := ry; exact PySem.EqMixed.ne_bool_str (fin_bl I q (by simp))
    | _ => exact absurd (show false = true from hs) Bool.false_ne_true
  | int i =>
    obtain ⟨t, rfl⟩ := rx
    cases y with
    | non => cases ry; exact PySem.EqNone.ne_int_none (fin_bl I q (by simp))
    | int j => obtain ⟨t', rfl⟩ := ry; exact ne_int (fin_bl I q (congrArg not dec_int))
    | str j => obtain ⟨t', rfl⟩ := ry; exact PySem.EqMixed.ne_int_str (fin_bl I q (by simp))
    | _ => exact absurd (show false = true from hs) Bool.false_ne_true
  | str i =>
    obtain ⟨t, rfl⟩ := rx
    cases y with
    | non => cases ry; exact PySem.EqNone.ne_str_none (fin_bl I q (by simp))
    | bl j => cases ry; exact PySem.EqMixed.ne_str_bool (fin_bl I q (by simp))
    | int j => obtain ⟨t', rfl⟩ := ry; exact PySem.EqMixed.ne_str_int (fin_bl I q (by simp))
    | str j => obtain ⟨t', rfl⟩ := ry; exact ne_str (fin_bl I q (congrArg not dec_str))
    | _ => exact absurd (show false = true from hs) Bool.false_ne_true
  | byt i =>
    obtain ⟨t, rfl⟩ := rx
    cases y with
    | byt j => obtain ⟨t', rfl⟩ := ry; exact PySem.W.ne_bytes (fin_bl I q (congrArg not dec_byt))
    | _ => exact absurd (show false = true from hs) Bool.false_ne_true
  | _ => cases y <;> exact absurd (show false = true from hs) Bool.false_ne_true

theorem op_lt : OpR X (compareOp .Lt) (rI0 fun i j => .bl (decide (i < j))) := opB0 fun _ _ _ _ _ _ _ q => lt_int q
theorem op_gt : OpR X (compareOp .Gt) (rI0 fun i j => .bl (decide (j < i))) := opB0 fun _ _ _ _ _ _ _ q => gt_int q


/-- is, is not of two objects that are tracked lists or instances -/
def isObj : HO → Bool
  | .lst _ => true
  | .ins _ _ _ => true
  | _ => false


theorem nomark (b : Expr) {op : CmpOp} (h : op ≠ .In := by decide) (h2 : op ≠ .NotIn := by decide) : behindInMarks op b = false := by
  have e1 : (op == CmpOp.In) = false := by cases op <;> first | rfl | exact absurd rfl h
  have e2 : (op == CmpOp.NotIn) = false := by cases op <;> first | rfl | exact absurd rfl h2
  cases b <;> simp [behindInMarks, e1, e2]
/-- a comparison as a value; hm: nomark b, or (for in, not in) by with_unfolding_all rfl -/
theorem pe_cmpR {op : CmpOp} {r : R2} (ho : OpR X (compareOp op) r) (ha : PE X a ta) (hb : PE X b tb) (hm : behindInMarks op b = false) : PE X (.Compare a [op] [b] pos) (tOp r ta tb) := by
  intro pins s σ H Q I h
  exact wpAny_Compare1 (binT ha hb I h fun v u s2 x y H2 I2 rx ry q => ho pins s2 σ H2 x y v u Q I2 rx ry q) hm
/-- a reading of a value as a test -/
def tTest (t : TE) : TT := fun σ H Q => t σ H fun x H' => ∃ k, x = .bl k ∧ Q k H'
theorem pt_cmpR {op : CmpOp} {r : R2} (ho : OpR X (compareOp op) r) (ha : PE X a ta) (hb : PE X b tb) (hm : behindInMarks op b = false) : PT X (.Compare a [op] [b] pos) (tTest (tOp r ta tb)) := by
  intro pins s σ H Q I h
  refine wpAny_isTrue_Compare1 (thn (ha pins s σ H _ I h) fun v s1 ⟨x, H1, I1, r1, q1⟩ => thn (hb pins s1 σ H1 _ I1 q1) fun u s2 ⟨y, H2, I2, r2, q2⟩ =>
    thn (ho pins s2 σ H2 x y v u _ I2 r1 r2 q2) fun c s3 ⟨z, H3, I3, r3, k, e, q3⟩ => ?_) hm
  subst e
  cases r3
  exact wpAny_truthy_bool ⟨H3, I3, q3⟩

/-! ### truth -/
/-- a value's truth by the abstract heap -/
def TruV (K : PySem.W.Frag) (x : V) (H : Hp) (k : Bool) : Prop :=
  match x with
  | .non => k = false
  | .bl b => k = b
  | .int i => k = (i != 0)
  | .str y => y.length ≤ sizeLine ∧ k = ((y.length : Int) != 0)
  | .byt y => y.size ≤ sizeLine ∧ k = ((y.size : Int) != 0)
  | .ref p => (∃ xs, SqL K H p xs ∧ k = !xs.isEmpty) ∨ (∃ xs, SqT K H p xs ∧ k = !xs.isEmpty) ∨ ∃ kvs, H p = some (.dK kvs) ∧ k = !kvs.isEmpty
  | _ => False
theorem isEmpty_kv {κ : Type} {kvs : List (κ × V)} {vs : List (κ × Value)} (r : KV kvs vs) : (!vs.isEmpty) = !kvs.isEmpty := by
  cases r <;> rfl
theorem isEmpty_of {xs : List V} {its : List Value} (r : Vals xs its) : (!its.toArray.isEmpty) = !xs.isEmpty := by
  cases r <;> simp
theorem line63 : (sizeLine : Nat) < 2 ^ 63 := by rw [sizeLine_eq]; decide
theorem tru_ok : TruR X (fun x H Q => ∃ k, TruV X.K x H k ∧ Q k H) := by
  intro pins s σ H x v Q I rx h
  obtain ⟨k, e, q⟩ := h
  have hl := line63
  have hs : sizeLine = 16777216 := sizeLine_eq
  cases x with
  | non =>
    cases rx
    have e' : k = false := e
    subst e'
    exact truthy_none ⟨H, I, q⟩
  | bl b =>
    cases rx
    have e' : k = b := e
    subst e'
    exact wpAny_truthy_bool ⟨H, I, q⟩
  | int i =>
    obtain ⟨t, rfl⟩ := rx
    have e' : k = (i != 0) := e
    subst e'
    exact PySem.P.truthy_int ⟨H, I, q⟩
  | str y =>
    obtain ⟨t, rfl⟩ := rx
    obtain ⟨hy, e'⟩ : y.length ≤ sizeLine ∧ k = ((y.length : Int) != 0) := e
    subst e'
    exact PySem.P.truthy_str (by omega) ⟨H, I.tok _, q⟩
  | byt y =>
    obtain ⟨t, rfl⟩ := rx
    obtain ⟨hy, e'⟩ : y.size ≤ sizeLine ∧ k = ((y.size : Int) != 0) := e
    subst e'
    exact PySem.W.truthy_bytes (by omega) ⟨H, I.tok _, q⟩
  | ref p =>
    cases rx
    have e' : (∃ xs, SqL X.K H p xs ∧ k = !xs.isEmpty) ∨ (∃ xs, SqT X.K H p xs ∧ k = !xs.isEmpty) ∨ ∃ kvs, H p = some (.dK kvs) ∧ k = !kvs.isEmpty := e
    rcases e' with ⟨xs, hx, e'⟩ | ⟨xs, hx, e'⟩ | ⟨kvs, hx, e'⟩
    · subst e'
      obtain ⟨its, r, pl, hz⟩ := I.list hx
      have hlen := r.length
      exact wpAny_truthy_list pl.isList (by simp only [List.size_toArray]; omega) ⟨H, I.tok _, by rw [isEmpty_of r]; exact q⟩
    · subst e'
      obtain ⟨its, r, pl, hz⟩ := I.tuple hx
      have hlen := r.length
      exact truthy_tuple pl (by simp only [List.size_toArray]; omega) ⟨H, I.tok _, by rw [isEmpty_of r]; exact q⟩
    · subst e'
      obtain ⟨hz, hS, vs, r, m⟩ : kvs.length ≤ sizeLine ∧ (p == sysModules) = false ∧ ∃ vs, KV kvs vs ∧ s.heap.DictOf (mixKind X.prog X.w) p vs := I.hok p _ hx
      have hlen : kvs.length = vs.length := Paired.length r
      exact wpAny_truthy_dict hS m (by omega) ⟨H, I.tok _, by rw [isEmpty_kv r]; exact q⟩
  | _ => exact (show False from e).elim
/-- any expression whose test is its value's truth (a name, a call, a subscript, a field ..: he by fun _ => rfl) -/
theorem pt_truth (ha : PE X a ta) (he : ∀ whole, isTrue a X.env whole = (do let v ← whole; standAt a.pos; holding [v] (truthy v))) :
    PT X a (fun σ H Q => ta σ H fun x H' => ∃ k, TruV X.K x H' k ∧ Q k H') := by
  intro pins s σ H Q I h
  exact isTrue_plain (thn (ha pins s σ H _ I h) fun v s1 ⟨x, H1, I1, r1, q1⟩ => tru_ok pins s1 σ H1 x v Q I1 r1 q1) (he _)

/-! ### strs and bytes -/
theorem op_add_str : OpR X (binaryOp .Add) (fun x y H Q => ∃ i j, x = .str i ∧ y = .str j ∧ i.length + j.length ≤ sizeLine ∧ Q (.str (i ++ j)) H) := by
  intro pins s σ H x y v u Q I rx ry h
  obtain ⟨i, j, rfl, rfl, hz, q⟩ := h
  obtain ⟨t, rfl⟩ := rx
  obtain ⟨t', rfl⟩ := ry
  exact add_str (fun t' tk => ⟨.str (i ++ j), H, I.tok _, ⟨_, rfl⟩, q⟩) hz


/-! ### scalar builtins, by CallR -/
theorem vals1 {x : V} {us : List Value} (r : Vals [x] us) : ∃ u, us = [u] ∧ RelV x u := by
  cases r with
  | cons r1 r2 => cases r2; exact ⟨_, rfl, r1⟩
theorem vals2 {x y : V} {us : List Value} (r : Vals [x, y] us) : ∃ u w', us = [u, w'] ∧ RelV x u ∧ RelV y w' := by
  cases r with
  | cons r1 r2 =>
    cases r2 with
    | cons r3 r4 => cases r4; exact ⟨_, _, rfl, r1, r3⟩
theorem call_int1 : CallR X (.type "int") (fun xs H Q => (∃ i, xs = [.int i] ∧ Q (.int i) H) ∨ ∃ k, xs = [.bl k] ∧ Q (.int (if k then 1 else 0)) H) := by
  intro pins s σ H xs us Q I r h
  rcases h with ⟨i, rfl, q⟩ | ⟨k, rfl, q⟩
  · obtain ⟨u, rfl, t, rfl⟩ := vals1 r
    exact call_int_int ⟨.int i, H, I, ⟨_, rfl⟩, q⟩
  · obtain ⟨u, rfl, r1⟩ := vals1 r
    cases r1
    exact call_int_bool ⟨.int (if k then 1 else 0), H, I.tok _, ⟨_, rfl⟩, q⟩
end
end L2

namespace L2
open PySem PySem.Spec PyProof.Rows

/-! ### an instance, its attributes a map -/
structure ObjM (h : Heap) (x dx C : Addr) (mA : Str → Option Value) : Prop where
  obj : h.get? x = some (PySem.W.instObj C dx)
  ns : h.Ns1 dx mA
  ne : dx ≠ x

theorem lookIn_ns {h : Heap} {dx : Addr} {mA : Str → Option Value} (n : h.Ns1 dx mA) : ∃ od, h.get? dx = some od ∧ ∀ name, PySem.W.lookIn name od = some (mA name) := by
  obtain ⟨o, es, ep, ho, hd, hk, _, hm⟩ := n
  refine ⟨o, ho, fun name => ?_⟩
  have e := hm name
  unfold nsFind findBy at e
  rw [← Array.find?_toList] at e
  unfold PySem.W.lookIn
  rw [hd]
  dsimp only
  split
  · rename_i y q
    rw [q] at e
    exact congrArg some e
  · rename_i q
    rw [q] at e
    have a : es.toList.any (·.refKey) = false := by
      rw [List.any_eq_false]
      intro y hy
      obtain ⟨z, t, hkey⟩ := hk y (Array.mem_toList_iff.mp hy)
      simp [DictEntry.refKey, hkey]
    have a' : ¬ es.toList.any (·.refKey) = true := by rw [a]; exact Bool.false_ne_true
    rw [if_neg a']
    exact congrArg some e

theorem ObjM.look {h : Heap} {x dx C : Addr} {mA : Str → Option Value} (I : ObjM h x dx C mA) : ∃ od, PySem.W.InstAt h x (PySem.W.instObj C dx) C (some od) ∧ ∀ name, PySem.W.lookIn name od = some (mA name) :=
  let ⟨od, ho, hl⟩ := lookIn_ns I.ns
  ⟨od, ⟨I.obj, rfl, rfl, ho⟩, hl⟩

section
variable {prog : Program} {w : World} {A : Around} {E : Value → Shared → Prop} {s : Shared} {K : PySem.W.Frag} {x dx C f : Addr} {mA : Str → Option Value} {name : Str} {v : Value}

theorem get_map {expr : Bool} {Q : Value → Shared → Prop} (X : K.In s.heap) (I : ObjM s.heap x dx C mA) (hg : PySem.W.plainGet K C name = true) (hh : PySem.W.hasDictIn K C = true)
    (ha : PySem.W.findIn K (.ref C) name = some none) (hv : mA name = some v) (hv' : PySem.W.handedIn v = true) (h : Q v { s with toks := s.toks + 1 }) :
    wpAny (model prog w) A (getAttr (.ref x) name expr) Q E s := by
  obtain ⟨od, J, hl⟩ := I.look
  exact PySem.W.get_value X J (PySem.W.plainGet_of hg).1 (PySem.W.findObj_own hh ha rfl (by rw [hl, hv])) hv' h


theorem get_meth {pl : Sem Bool} {Q : Value × List Value → Shared → Prop} (X : K.In s.heap) (I : ObjM s.heap x dx C mA) (hg : PySem.W.plainGet K C name = true)
    (hf : PySem.W.findIn K (.ref C) name = some (some (.ref f))) (ht : PySem.W.isFn K (.ref f) = true) (hv : mA name = none) (h : Q (.ref f, [.ref x]) s) :
    wpAny (model prog w) A (getMethod (.ref x) name pl) Q E s := by
  obtain ⟨od, J, hl⟩ := I.look
  exact PySem.W.method_fn X J (PySem.W.plainGet_of hg).1 (PySem.W.plainGet_of hg).2 hf (beq_iff_eq.mp ht) (by show (PySem.W.lookIn name od).map (·.isSome) = some false; rw [hl, hv]; rfl) h

theorem set_map {ns : List Str} {Q : Unit → Shared → Prop} (X : K.In s.heap) (I : ObjM s.heap x dx C mA)
    (hs : PySem.W.findIn K (.ref C) "__setattr__" = some (some (.builtin "object.__setattr__"))) (hp : PySem.W.plainOver K C = true) (ht : PySem.W.takerIn K C name = some none) (hh : PySem.W.hasDictIn K C = true)
    (hw : PySem.Within mA ns) (hsz : ns.length ≤ sizeLine)
    (h : ∀ h', ObjM h' x dx C (fun y => if y = name then some v else mA y) → Heap.SameBut dx s.heap h' → Q () { s with heap := h', toks := s.toks + 2 }) :
    wpAny (model prog w) A (setAttr (.ref x) name v) Q E s := by
  obtain ⟨od, J, hl⟩ := I.look
  refine PySem.W.set_plain X J hs (PySem.W.osa_open (s := { s with toks := s.toks + 1 }) (r := none) X J hp ht fun b => ?_)
  obtain ⟨cd, hc, hd'⟩ := PySem.W.any_some hh
  have hx : s.heap.get? x = some ⟨.ref C, some dx, .plain, #[]⟩ := I.obj
  refine wpAny_bind (wpAny_pure (wpAny_bind (wpAny_bind (wpAny_loadPart hx (wpAny_bind (PySem.W.Looks.here (s := { s with toks := s.toks + 1 }) (PySem.W.looks_clsIn X hc) ?_))))))
  rw [hd']
  refine wpAny_pure (a := some dx) (wpAny_bind (wpAny_pure (wpAny_bind ?_)))
  refine wpAny_nsSet1 (s := { s with toks := s.toks + 1 }) I.ns fun h' hn2 hs2 => ?_
  obtain ⟨oD, esD, epD, hoD, hdD, hcD⟩ := hn2.count (PySem.Within.cons name v hw)
  refine wpAny_bind (wpAny_lookBehind hoD (by rw [hdD]; exact pastItsLine_dict (Nat.le_trans hcD (by rw [List.length_cons]; omega))) ?_)
  exact wpAny_pure (h _ ⟨(hs2.2 _ (Ne.symm I.ne)).trans I.obj, hn2, I.ne⟩ hs2)

/-- C(..): the dict at the heap's end, the instance behind it; then its __init__ -/
theorem make_map {R : Result → Shared → Prop} {vs : List Value} {kw : List (Str × Value)} (X : K.In s.heap) (hm : PySem.W.makesIn K C = true)
    (hi : PySem.W.findIn K (.ref C) "__init__" = some (some (.ref f))) (hf : PySem.W.typeIn K (.ref f) = some (.type "function"))
    (h : codeAny (model prog w) (A.under (.builtin "type.__call__" ⟨.ref C :: vs, kw⟩)) (.call (.ref f) ⟨.ref (s.heap.objs.size + 1) :: vs, kw⟩) (PySem.W.InitBack (s.heap.objs.size + 1) R)
      { s with heap := (s.heap.push PySem.W.emptyDict).push (PySem.W.instObj C s.heap.objs.size) }) :
    codeAny (model prog w) A (.call (.ref C) ⟨vs, kw⟩) R s := by
  obtain ⟨hh, g, d, t, os⟩ := s
  exact PySem.W.make_core (PySem.W.makes_of X hm) (PySem.W.looks_findIn X hi) (fun self => PySem.W.bind_fn X self hf) (.inl rfl) h
end

/-! ### the attributes as a list of pairs -/
def putF (f : Str) (v : V) : List (Str × V) → List (Str × V)
  | [] => [(f, v)]
  | (g, x) :: r => if g = f then (g, v) :: r else (g, x) :: putF f v r
theorem lookup_putF (f g : Str) (v : V) : ∀ fs : List (Str × V), (putF f v fs).lookup g = if g = f then some v else fs.lookup g
  | [] => by
    show List.lookup g [(f, v)] = _
    by_cases h : g = f
    · have hb : (g == f) = true := beq_iff_eq.mpr h
      simp only [List.lookup, hb, if_pos h]
    · have hb : (g == f) = false := beq_eq_false_iff_ne.mpr h
      simp only [List.lookup, hb, if_neg h]
  | (k, x) :: r => by
    have ih := lookup_putF f g v r
    rw [show putF f v ((k, x) :: r) = (if k = f then (k, v) :: r else (k, x) :: putF f v r) from rfl]
    by_cases hk : k = f
    · rw [if_pos hk]
      by_cases h : g = k
      · have hb : (g == k) = true := beq_iff_eq.mpr h
        simp only [List.lookup, hb, if_pos (h.trans hk)]
      · have hb : (g == k) = false := beq_eq_false_iff_ne.mpr h
        simp only [List.lookup, hb, if_neg (fun e : g = f => h (e.trans hk.symm))]
    · rw [if_neg hk]
      by_cases h : g = k
      · have hb : (g == k) = true := beq_iff_eq.mpr h
        simp only [List.lookup, hb, if_neg (fun e : g = f => hk (h.symm.trans e))]
      · have hb : (g == k) = false := beq_eq_false_iff_ne.mpr h
        simp only [List.lookup, hb]
        exact ih
theorem keys_putF (f : Str) (v : V) : ∀ fs : List (Str × V), f ∈ (putF f v fs).map (·.1) ∧ ∀ g, g ∈ fs.map (·.1) → g ∈ (putF f v fs).map (·.1)
  | [] => ⟨by simp [putF], fun g h => by simp at h⟩
  | (k, x) :: r => by
    obtain ⟨i1, i2⟩ := keys_putF f v r
    rw [show putF f v ((k, x) :: r) = (if k = f then (k, v) :: r else (k, x) :: putF f v r) from rfl]
    by_cases hk : k = f
    · rw [if_pos hk]
      subst hk
      exact ⟨by simp, fun g h => by simpa using h⟩
    · rw [if_neg hk]
      refine ⟨?_, fun g h => ?_⟩
      · rw [List.map_cons]
        exact List.mem_cons_of_mem _ i1
      · rw [List.map_cons] at h ⊢
        rcases List.mem_cons.mp h with e | e
        · exact List.mem_cons.mpr (.inl e)
        · exact List.mem_cons_of_mem _ (i2 g e)
theorem length_putF (f : Str) (v : V) : ∀ fs : List (Str × V), (putF f v fs).length ≤ fs.length + 1
  | [] => by simp [putF]
  | (k, x) :: r => by
    have ih := length_putF f v r
    rw [show putF f v ((k, x) :: r) = (if k = f then (k, v) :: r else (k, x) :: putF f v r) from rfl]
    by_cases hk : k = f
    · rw [if_pos hk, List.length_cons, List.length_cons]; omega
    · rw [if_neg hk, List.length_cons, List.length_cons]; omega

theorem RelO.some_of {v : V} {o : Option Value} (r : RelO (some v) o) : ∃ u, o = some u ∧ RelV v u := by
  cases o with
  | none => exact (show False from r).elim
  | some u => exact ⟨u, rfl, r⟩
theorem RelO.none_of {o : Option Value} (r : RelO none o) : o = none := by
  cases o with
  | none => rfl
  | some u => exact (show False from r).elim
theorem handed_of {v : V} {u : Value} (r : RelV v u) : PySem.W.handedIn u = true := by
  cases v with
  | non => cases (show u = Value.none from r); rfl
  | bl b => cases (show u = Value.bool b from r); rfl
  | int i => obtain ⟨t, e⟩ := (show ∃ t, u = Value.int i t from r); cases e; rfl
  | str x => obtain ⟨t, e⟩ := (show ∃ t, u = Value.str x t from r); cases e; rfl
  | byt b => obtain ⟨t, e⟩ := (show ∃ t, u = Value.bytes b t from r); cases e; rfl
  | flt b => obtain ⟨t, e⟩ := (show ∃ t, u = Value.float b t from r); cases e; rfl
  | ref a => cases (show u = Value.ref a from r); rfl
  | ty n => cases (show u = Value.type n from r); rfl

section
variable {P : Program} {w : World} {H H' : Hp} {h h' : Heap} {a C dx : Addr} {fs fs' : List (Str × V)}
theorem ins_get (hok : HOk P w H h) (e : H a = some (.ins C dx fs)) : ∃ mA, ObjM h a dx C mA ∧ (∀ f, RelO (fs.lookup f) (mA f)) ∧ PySem.Within mA (fs.map (·.1)) ∧ fs.length ≤ 1000 ∧ H dx = some (.own a) := by
  obtain ⟨d, z, ne, ob, mA, n, r, q⟩ := (show ObjOk P w H h a (.ins C dx fs) from hok a _ e)
  exact ⟨mA, ⟨ob, n, ne⟩, r, q, z, d⟩
end

/-! ### what of the text a class must have -/
structure Cls (K : PySem.W.Frag) (C : Addr) : Prop where
  pg : PySem.W.plainGet K C Str.empty = true
  hd : PySem.W.hasDictIn K C = true
  po : PySem.W.plainOver K C = true
  sa : PySem.W.findIn K (.ref C) "__setattr__" = some (some (.builtin "object.__setattr__"))
theorem Cls.get {K : PySem.W.Frag} {C : Addr} (c : Cls K C) (f : Str) : PySem.W.plainGet K C f = true := c.pg
/-- no class of it has the name -/
def NoAttr (K : PySem.W.Frag) (C : Addr) (f : Str) : Prop := PySem.W.findIn K (.ref C) f = some none
theorem NoAttr.taker {K : PySem.W.Frag} {C : Addr} {f : Str} (n : NoAttr K C f) : PySem.W.takerIn K C f = some none := by
  unfold PySem.W.takerIn
  rw [show PySem.W.findIn K (.ref C) f = some none from n]
  rfl
/-- a method: a plain def of the class or of one above it -/
structure Meth (K : PySem.W.Frag) (C : Addr) (m : Str) (f : Addr) : Prop where
  at_ : PySem.W.findIn K (.ref C) m = some (some (.ref f))
  fn : PySem.W.isFn K (.ref f) = true
  kp : PySem.W.keepIn K (.ref f) = true

section
variable {X : Cx} {pins : List (Addr × Obj)} {σ : St} {H : Hp} {s : Shared} {a C dx : Addr} {fs : List (Str × V)} {f : Str} {v : V} {A : Around} {E : Value → Shared → Prop}

theorem getattr_ok {b : Bool} {Q : Value → Shared → Prop} (I : Inv X pins σ H s) (e : H a = some (.ins C dx fs)) (c : Cls X.K C) (n : NoAttr X.K C f) (l : fs.lookup f = some v)
    (h : ∀ u s', Inv X pins σ H s' → RelV v u → Q u s') : wpAny (model X.prog X.w) A (getAttr (.ref a) f b) Q E s := by
  obtain ⟨mA, O, r, _, _, _⟩ := ins_get I.hok e
  obtain ⟨u, hu, ru⟩ := RelO.some_of (v := v) (o := mA f) (by rw [← l]; exact r f)
  exact get_map I.kIn O (c.get f) c.hd n hu (handed_of ru) (h u _ (I.tok _) ru)


theorem getmeth_ok {m : Str} {g : Addr} {pl : Sem Bool} {Q : Value × List Value → Shared → Prop} (I : Inv X pins σ H s) (e : H a = some (.ins C dx fs)) (c : Cls X.K C) (k : Meth X.K C m g) (l : fs.lookup m = none)
    (h : Q (.ref g, [.ref a]) s) : wpAny (model X.prog X.w) A (getMethod (.ref a) m pl) Q E s := by
  obtain ⟨mA, O, r, _, _, _⟩ := ins_get I.hok e
  have hn : mA m = none := RelO.none_of (by rw [← l]; exact r m)
  exact get_meth I.kIn O (c.get m) k.at_ k.fn hn h

theorem setattr_ok {y : V} {u : Value} {Q : Unit → Shared → Prop} (I : Inv X pins σ H s) (e : H a = some (.ins C dx fs)) (c : Cls X.K C) (n : NoAttr X.K C f) (hl : fs.length < 1000) (ry : RelV y u)
    (h : ∀ s', Inv X pins σ (upd H a (.ins C dx (putF f y fs))) s' → Q () s') : wpAny (model X.prog X.w) A (setAttr (.ref a) f u) Q E s := by
  obtain ⟨mA, O, r, wi, _, ho⟩ := ins_get I.hok e
  have hz : (fs.map (·.1)).length ≤ sizeLine := by rw [List.length_map, sizeLine_eq]; omega
  refine set_map I.kIn O c.sa c.po n.taker c.hd wi hz fun h' O' sb => h _ ?_
  have hd : ∃ o, h'.get? dx = some o := let ⟨o, _, _, e', _⟩ := O'.ns; ⟨o, e'⟩
  refine I.write (x := a) (e := dx) (by rw [e]; exact True.intro) (.inr ho) (fun b q hb z => (sb.2 b hb).trans z) hd ?_
  refine ⟨by rw [upd_ne O.ne]; exact ho, ?_, O.ne, O'.obj, _, O'.ns, fun g => ?_, fun g hg => ?_⟩
  · have := length_putF f y fs; omega
  · show RelO ((putF f y fs).lookup g) (if g = f then some u else mA g)
    rw [lookup_putF]
    by_cases q : g = f
    · rw [if_pos q, if_pos q]; exact ry
    · rw [if_neg q, if_neg q]; exact r g
  · by_cases q : g = f
    · rw [q]; exact (keys_putF f y fs).1
    · refine (keys_putF f y fs).2 g (wi g fun z => hg ?_)
      show (if g = f then some u else mA g) = none
      rw [if_neg q]; exact z

/-- a new instance, tracked, without attributes -/
theorem Inv.made (I : Inv X pins σ H s) : Inv X pins σ (upd (upd H s.heap.objs.size (.own (s.heap.objs.size + 1))) (s.heap.objs.size + 1) (.ins C s.heap.objs.size []))
    { s with heap := (s.heap.push PySem.W.emptyDict).push (PySem.W.instObj C s.heap.objs.size) } := by
  have e1 : (s.heap.push PySem.W.emptyDict).get? s.heap.objs.size = some PySem.W.emptyDict := Heap.get?_push_size s.heap rfl
  have e2 : ((s.heap.push PySem.W.emptyDict).push (PySem.W.instObj C s.heap.objs.size)).get? (s.heap.objs.size + 1) = some (PySem.W.instObj C s.heap.objs.size) := by
    have := Heap.get?_push_size (s.heap.push PySem.W.emptyDict) (o := PySem.W.instObj C s.heap.objs.size) rfl
    rwa [Heap.size_push] at this
  have e3 : (s.heap.push PySem.W.emptyDict).Ns s.heap.objs.size (fun _ => none) := ⟨PySem.W.emptyDict, #[], _, e1, rfl, (fun e he => absurd he (by simp)), fun _ => rfl⟩
  have I1 := I.laid (a := s.heap.objs.size) (o := .own (s.heap.objs.size + 1)) (h' := s.heap.push PySem.W.emptyDict) (t' := s.toks) (fun b u q => Heap.get?_push_of_some _ q) (Nat.le_refl _) ⟨_, e1⟩
  refine I1.laid (a := s.heap.objs.size + 1) (o := .ins C s.heap.objs.size []) (t' := s.toks) (fun b u q => Heap.get?_push_of_some _ q) (Nat.le_of_eq (Heap.size_push _ _)) ?_
  have ne : s.heap.objs.size ≠ s.heap.objs.size + 1 := Nat.ne_of_lt (Nat.lt_succ_self _)
  refine ⟨by rw [upd_ne ne, upd_same], Nat.zero_le _, ne, e2, fun _ => none, (Heap.Ns1.of_empty e3).at fun o q => Heap.get?_push_of_some _ q, fun _ => True.intro, fun y hy => absurd rfl hy⟩

/-- e.f where nothing but the object is asked: through attributeBase (super) and the last hold -/
theorem attr_of {prog : Program} {w : World} {env : Env} {e : Expr} {f : Str} {pos : Pos} {s : Shared} {Q : Value → Shared → Prop} (hb : attributeBase e f env (eval e env) = eval e env)
    (h : wpAny (model prog w) A (eval e env) (fun o s₁ => wpAny (model prog w) A (getAttr o f true) Q E s₁) E s) : wpAny (model prog w) A (eval (.Attribute e f pos) env) Q E s :=
  Attribute_any_ h (by rw [arm_eval_Attribute, hb])
end

/-! ### readings and rules -/
/-- e.f, an attribute of the instance -/
def tFld (K : PySem.W.Frag) (ta : TE) (f : Str) : TE := fun σ H Q => ta σ H fun x H1 => ∃ a C dx fs v, x = .ref a ∧ H1 a = some (.ins C dx fs) ∧ Cls K C ∧ NoAttr K C f ∧ fs.lookup f = some v ∧ Q v H1
/-- e.f = value -/
def sFld (K : PySem.W.Frag) (ta tv : TE) (f : Str) : TS := fun D σ H => tv σ H fun y H1 => ta σ H1 fun x H2 => ∃ a C dx fs, x = .ref a ∧ H2 a = some (.ins C dx fs) ∧ Cls K C ∧ NoAttr K C f ∧ fs.length < 1000 ∧
  D.nx σ (upd H2 a (.ins C dx (putF f y fs)))
/-- an augmented operator on two values -/
def InOp (X : Cx) (op : Operator) (rd : V → V → Hp → VK → Prop) : Prop :=
  ∀ (pins : List (Addr × Obj)) (s : Shared) (σ : St) (H : Hp) (x y : V) (u v : Value) (Q : VK), Inv X pins σ H s → RelV x u → RelV y v → rd x y H Q → wpAny (model X.prog X.w) X.A (inplaceOp op u v) (EP X pins σ Q) X.xe s
/-- e.f op= value -/
def sFldAug (K : PySem.W.Frag) (ta tv : TE) (rd : V → V → Hp → VK → Prop) (f : Str) : TS := fun D σ H => ta σ H fun x H1 => ∃ a C dx fs v, x = .ref a ∧ H1 a = some (.ins C dx fs) ∧ Cls K C ∧ NoAttr K C f ∧ fs.lookup f = some v ∧
  tv σ H1 fun y H2 => rd v y H2 fun z H3 => ∃ dx' fs', H3 a = some (.ins C dx' fs') ∧ fs'.length < 1000 ∧ D.nx σ (upd H3 a (.ins C dx' (putF f z fs')))

section
variable {X : Cx} {o e value : Expr} {f : Str} {pos pos' tpos : Pos} {ta tv : TE}
theorem pe_fld (he : PE X e ta) (hb : attributeBase e f X.env (eval e X.env) = eval e X.env) : PE X (.Attribute e f pos) (tFld X.K ta f) := by
  intro pins s σ H Q I h
  refine attr_of hb (thn (he pins s σ H _ I h) fun u s1 ⟨x, H1, I1, rx, a, C, dx, fs, v, ex, ea, c, n, l, q⟩ => ?_)
  subst ex
  obtain rfl : u = Value.ref a := rx
  exact getattr_ok I1 ea c n l fun u' s2 I2 ru => ⟨v, H1, I2, ru, q⟩
theorem ps_fld (ha : PE X o ta) (hv : PE X value tv) (hs : swapsWith value (some (.Attribute o f pos')) pos.line X.env = pure false) : PS X (.Assign [.Attribute o f pos'] value pos) (sFld X.K ta tv f) := by
  intro pins s σ H D I h
  refine plainObj_wpAny_Assign_Attribute (thn (hv pins s σ H _ I h) fun u s1 ⟨y, H1, I1, ry, q⟩ => thn (ha pins s1 σ H1 _ I1 q) fun ov s2 ⟨x, H2, I2, rx, a, C, dx, fs, ex, ea, c, n, l, q2⟩ => ?_) hs
  subst ex
  obtain rfl : ov = Value.ref a := rx
  exact setattr_ok I2 ea c n l ry fun s3 I3 => ⟨σ, _, I3, q2⟩
theorem ps_fldaug {op : Operator} {rd : V → V → Hp → VK → Prop} (ha : PE X o ta) (hv : PE X value tv) (hop : InOp X op rd) : PS X (.AugAssign (.Attribute o f tpos) op value pos) (sFldAug X.K ta tv rd f) := by
  intro pins s σ H D I h
  refine wpAny_AugAssign_AttributeAny (thn (ha pins s σ H _ I h) fun ov s1 ⟨x, H1, I1, rx, a, C, dx, fs, v, ex, ea, c, n, l, q⟩ => ?_)
  subst ex
  obtain rfl : ov = Value.ref a := rx
  refine getattr_ok I1 ea c n l fun u s2 I2 ru => thn (hv pins s2 σ H1 _ I2 q) fun w3 s3 ⟨y, H2, I3, ry, q3⟩ => thn (hop pins s3 σ H2 v y u w3 _ I3 ru ry q3) fun w4 s4 ⟨z, H3, I4, rz, dx', fs', ea', l', q4⟩ => ?_
  exact setattr_ok I4 ea' c n l' rz fun s5 I5 => ⟨σ, _, I5, q4⟩
def rAdd : V → V → Hp → VK → Prop := fun x y H Q => ∃ i j, x = .int i ∧ y = .int j ∧ Q (.int (i + j)) H
theorem in_add : InOp X .Add rAdd := by
  rintro pins s σ H x y u v Q I rx ry ⟨i, j, rfl, rfl, q⟩
  obtain ⟨t, rfl⟩ := (show ∃ t, u = Value.int i t from rx)
  obtain ⟨t', rfl⟩ := (show ∃ t', v = Value.int j t' from ry)
  exact PyProof.Rows.iadd_int ⟨.int (i + j), H, I.tok _, ⟨_, rfl⟩, q⟩

/-- what is between an instance and its method: the tree of a method call -/
theorem methcall_of {pl : Sem Bool} {m : Str} {apos : Pos} {args : List Expr} {pins : List (Addr × Obj)} {s : Shared} {σ : St} {H : Hp} {Q : Value → Shared → Prop} {te : TE} (he : PE X e te) (I : Inv X pins σ H s)
    (h : te σ H fun x H1 => ∃ a C dx fs g, x = .ref a ∧ H1 a = some (.ins C dx fs) ∧ Cls X.K C ∧ Meth X.K C m g ∧ fs.lookup m = none ∧
      ∀ s1, Inv X pins σ H1 s1 → wpAny (model X.prog X.w) X.A (callWith pos (.ref g) [.ref a] (backTo pos (starEach args X.env)) (backToKw pos (keywordEach [] X.env))) Q X.xe s1)
    (ht : eval (.Call (.Attribute e m apos) args [] pos) X.env = (do
      let ov ← eval e X.env
      standAt apos.atName
      let (f, first) ← holding [ov] (getMethod ov m pl)
      callWith pos f first (backTo pos (starEach args X.env)) (backToKw pos (keywordEach [] X.env)))) :
    wpAny (model X.prog X.w) X.A (eval (.Call (.Attribute e m apos) args [] pos) X.env) Q X.xe s := by
  refine PySem.W.methodCall_KW (pl := pl) (thn (he pins s σ H _ I h) fun u s1 ⟨x, H1, I1, rx, a, C, dx, fs, g, ex, ea, c, k, l, q⟩ => ?_) ht
  subst ex
  obtain rfl : u = Value.ref a := rx
  exact getmeth_ok I1 ea c k l (q s1 I1)
end

/-! ### isinstance -/
section
variable {X : Cx} {pins : List (Addr × Obj)} {σ : St} {H : Hp} {s : Shared} {A : Around} {E : Value → Shared → Prop} {Q : Value → Shared → Prop} {c : Value} {b : Bool}
/-- the type of a value, as the fragment's deciders take it; for an instance its class -/
inductive TyOf (K : PySem.W.Frag) (H : Hp) : V → Value → Prop where
  | non : TyOf K H .non (.type "NoneType")
  | bl (x : Bool) : TyOf K H (.bl x) (.type "bool")
  | int (i : Int) : TyOf K H (.int i) (.type "int")
  | str (x : Str) : TyOf K H (.str x) (.type "str")
  | flt (x : UInt64) : TyOf K H (.flt x) (.type "float")
  | lst {a : Addr} {xs : List V} (e : H a = some (.lst xs)) : TyOf K H (.ref a) (.type "list")
  | frz {a : Addr} {o : Obj} {xs : List V} (e : H a = some (.frz o (.lst xs))) : TyOf K H (.ref a) (.type "list")
  | tup {a : Addr} {xs : List V} (e : H a = some (.tup xs)) : TyOf K H (.ref a) (.type "tuple")
  | dK {a : Addr} {kvs : List (Key × V)} (e : H a = some (.dK kvs)) : TyOf K H (.ref a) (.type "dict")
  | dT {a : Addr} {kvs : List (List Key × V)} (e : H a = some (.dT kvs)) : TyOf K H (.ref a) (.type "dict")
  | ins {a C dx : Addr} {fs : List (Str × V)} (e : H a = some (.ins C dx fs)) (cl : Cls K C) (ha : PySem.W.findIn K (.ref C) "__class__" = some (some (.builtin "object.__class__")))
      (hn : PySem.W.specialIn K (.builtin "object.__class__") "__get__" = some (some (.builtin "getset_descriptor.__get__"))) (htk : PySem.W.takesIn K (.builtin "object.__class__") = some true)
      (hm : PySem.W.mroIn K C (.type "object") = some true) : TyOf K H (.ref a) (.ref C)
/-- isinstance(x, c) for one class c, a built-in or an own one: kitOne's answer -/
theorem isinst_ok {x : V} {u t : Value} (I : Inv X pins σ H s) (rx : RelV x u) (ty : TyOf X.K H x t) (e : PySem.W.kitOne X.K t c = some b) (h : ∀ tk, Q (.bool b) { s with toks := tk }) :
    wpAny (model X.prog X.w) A (call (.builtin "isinstance") [u, c]) Q E s := by
  cases ty with
  | non => cases (show u = Value.none from rx); exact PySem.W.kia_one PySem.W.kitx_none I.kIn True.intro e (fun z => nomatch z) h
  | bl y => cases (show u = Value.bool y from rx); exact PySem.W.kia_one PySem.W.kitx_bool I.kIn True.intro e (fun z => nomatch z) h
  | int i => obtain ⟨t, q⟩ := (show ∃ t, u = Value.int i t from rx); cases q; exact PySem.W.kia_one PySem.W.kitx_int I.kIn True.intro e (fun z => nomatch z) h
  | str y => obtain ⟨t, q⟩ := (show ∃ t, u = Value.str y t from rx); cases q; exact PySem.W.kia_one PySem.W.kitx_str I.kIn True.intro e (fun z => nomatch z) h
  | flt y => obtain ⟨t, q⟩ := (show ∃ t, u = Value.float y t from rx); cases q; exact PySem.W.kia_one PySem.W.kitx_float I.kIn True.intro e (fun z => nomatch z) h
  | @lst a xs ea =>
    cases (show u = Value.ref a from rx)
    obtain ⟨_, _, n, _, h1⟩ := (show ObjOk X.prog X.w H s.heap a (.lst xs) from I.hok a _ ea)
    exact PySem.W.kia_one PySem.W.kitx_list I.kIn ⟨_, h1, rfl⟩ e (fun z => nomatch z) h
  | @frz a ob xs ea =>
    cases (show u = Value.ref a from rx)
    obtain ⟨_, _, _, n, _, h1⟩ := (show ObjOk X.prog X.w H s.heap a (.frz ob (.lst xs)) from I.hok a _ ea)
    exact PySem.W.kia_one PySem.W.kitx_list I.kIn ⟨_, h1, rfl⟩ e (fun z => nomatch z) h
  | @tup a xs ea =>
    cases (show u = Value.ref a from rx)
    obtain ⟨_, _, _, p⟩ := (show ObjOk X.prog X.w H s.heap a (.tup xs) from I.hok a _ ea)
    obtain ⟨o, h1, h2, _⟩ := p
    exact PySem.W.kia_one PySem.W.kitx_tuple I.kIn ⟨o, h1, h2⟩ e (fun z => nomatch z) h
  | @dK a kvs ea =>
    cases (show u = Value.ref a from rx)
    obtain ⟨_, _, vs, _, p⟩ := (show ObjOk X.prog X.w H s.heap a (.dK kvs) from I.hok a _ ea)
    obtain ⟨o, es, ep, h1, h2, _⟩ := p
    exact PySem.W.kia_one PySem.W.kitx_dict I.kIn ⟨o, h1, h2.1⟩ e (fun z => nomatch z) h
  | @dT a kvs ea =>
    cases (show u = Value.ref a from rx)
    obtain ⟨_, _, xs, _, o, es, ep, h1, h2, _⟩ := (show ObjOk X.prog X.w H s.heap a (.dT kvs) from I.hok a _ ea)
    exact PySem.W.kia_one PySem.W.kitx_dict I.kIn ⟨o, h1, h2.1⟩ e (fun z => nomatch z) h
  | @ins a C dx fs ea cl ha hn htk hm =>
    cases (show u = Value.ref a from rx)
    obtain ⟨mA, O, _⟩ := ins_get I.hok ea
    obtain ⟨od, J, _⟩ := O.look
    exact PySem.W.kia_one (PySem.W.kitx_own (cl.get _) cl.hd ha hn htk hm) I.kIn J e (fun z => nomatch z) h
end
end L2

namespace L2
open PySem PySem.Spec PyProof.Rows

/-! ### room -/
structure Room (k : Nat) (A : Around) : Prop where
  hd : A.handled = none
  dp : A.depth + 3 * k + 5 < recursionLimit
  un : A.units + 16 * k + 200 < cLine
theorem Room.mono {j k : Nat} {A : Around} (r : Room k A) (h : j ≤ k) : Room j A := ⟨r.hd, by have := r.dp; omega, by have := r.un; omega⟩
theorem Room.deeper {k : Nat} {A : Around} (r : Room (k + 1) A) (env : Env) : Room k (A.deeper env) :=
  ⟨r.hd, by have := r.dp; show A.depth + 1 + 3 * k + 5 < _; omega, by have := r.un; show A.units + 3 + 16 * k + 200 < _; omega⟩
theorem make_depth {A : Around} {C : Addr} {us : List Value} {kw : List (Str × Value)} : (A.under (.builtin "type.__call__" ⟨.ref C :: us, kw⟩)).depth = A.depth + 1 := by
  first | rfl | simp [Around.under, Code.weight, Code.isCreation, Code.isGuard, Code.isCaller, Code.frames, Code.isFrame, guardIds]
theorem make_units {A : Around} {C : Addr} {us : List Value} {kw : List (Str × Value)} : (A.under (.builtin "type.__call__" ⟨.ref C :: us, kw⟩)).units = A.units + 1 := by
  first | rfl | simp [Around.under, Code.cUnits, Code.frames, Code.isFrame]
theorem Room.make {k : Nat} {A : Around} (r : Room (k + 1) A) (C : Addr) (us : List Value) (kw : List (Str × Value)) : Room k (A.under (.builtin "type.__call__" ⟨.ref C :: us, kw⟩)) :=
  ⟨r.hd, by have := r.dp; rw [make_depth]; omega, by have := r.un; rw [make_units]; omega⟩
theorem Room.depth {k : Nat} {A : Around} (r : Room k A) : A.depth < recursionLimit := by have := r.dp; omega
theorem Room.units0 {k : Nat} {A : Around} (r : Room k A) : A.units < cLine := by have := r.un; omega

/-! ### argument lists and displays -/
def tNil : TA := fun _ H Q => Q [] H
def tCons (ta : TE) (tr : TA) : TA := fun σ H Q => ta σ H fun x H1 => tr σ H1 fun xs H2 => Q (x :: xs) H2
section
variable {X : Cx} {e : Expr} {es : List Expr} {te : TE} {t : TA} {pos : Pos}
theorem pa_nil : PA X [] tNil := fun _ _ _ _ H Q I h => Calls.spliced_nil ⟨[], H, I, .nil, h⟩
theorem pa_cons (ha : PE X e te) (hr : PA X es t) (hs : starEach (e :: es) X.env = (false, eval e X.env) :: starEach es X.env := by rfl) : PA X (e :: es) (tCons te t) := by
  intro pos pins s σ H Q I h
  rw [hs]
  show wpAny _ _ (spliced ((false, eval e X.env) :: backTo pos (starEach es X.env))) _ _ s
  refine Calls.spliced_cons (thn (ha pins s σ H _ I h) fun u s1 ⟨x, H1, I1, r1, q1⟩ => ?_)
  exact thn (hr pos pins s1 σ H1 _ I1 q1) fun us s2 ⟨xs, H2, I2, r2, q2⟩ => ⟨x :: xs, H2, I2, .cons r1 r2, q2⟩

/-- a tuple, a list of written items -/
def tTup (t : TA) : TE := fun σ H Q => t σ H fun xs H1 => xs.length ≤ sizeLine ∧ ∀ p, H1 p = none → Q (.ref p) (upd H1 p (.tup xs))
def tLst (t : TA) : TE := fun σ H Q => t σ H fun xs H1 => xs.length ≤ sizeLine ∧ ∀ p, H1 p = none → Q (.ref p) (upd H1 p (.lst xs))
theorem pe_tup {x1} (h : PA X es t) : PE X (.Tuple es x1 pos) (tTup t) := by
  intro pins s σ H Q I hq
  refine wpAny_Tuple_spliced (thn (h pos pins s σ H _ I hq) fun us s1 ⟨xs, H1, I1, r, z, q⟩ => ⟨by rw [← r.length]; exact z, ?_⟩)
  have hf : H1 s1.heap.objs.size = none := I1.hok.fresh (Nat.le_refl _)
  refine ⟨.ref s1.heap.objs.size, upd H1 s1.heap.objs.size (.tup xs), I1.laid (t' := s1.toks) (fun b u e => Heap.get?_push_of_some _ e) (Nat.le_refl _) ?_, rfl, q _ hf⟩
  exact ⟨z, us, r, ⟨_, Heap.get?_push_size _ rfl, rfl, _, rfl⟩⟩
theorem pe_lst (h : PA X es t) : PE X (.List es pos) (tLst t) := by
  intro pins s σ H Q I hq
  refine wpAny_List_spliced (thn (h pos pins s σ H _ I hq) fun us s1 ⟨xs, H1, I1, r, z, q⟩ => ⟨by rw [← r.length]; exact z, ?_⟩)
  have hf : H1 s1.heap.objs.size = none := I1.hok.fresh (Nat.le_refl _)
  refine ⟨.ref s1.heap.objs.size, upd H1 s1.heap.objs.size (.lst xs), I1.laid (t' := s1.toks) (fun b u e => Heap.get?_push_of_some _ e) (Nat.le_refl _) ?_, rfl, q _ hf⟩
  exact ⟨z, us, 0, r, Heap.get?_push_size _ rfl⟩
end

/-! ### what a def promises -/
/-- a def's promise: the bound arguments in the parameters' order, the heap, the wanted end, the wanted exception -/
abbrev Sp := List V → Hp → VK → XK → Prop
/-- how an exception lies behind a call (file 08 gives it): the callers' frames, abstract heap and state ahead of the call, the wish, the exception, the state -/
abbrev CXT := List Env → Hp → Shared → XK → Value → Shared → Prop

/-- the state at a call -/
structure Env0 (P : Program) (w : World) (K : PySem.W.Frag) (mg : Str → Option Value) (base : Heap) (A : Around) (outer : List Env) (s : Shared) (H : Hp) : Prop where
  frames : A.frames = some outer
  mod : Mod K mg base
  bs : ∀ b o, base.get? b = some o → s.heap.get? b = some o ∧ H b = none
  bsz : base.objs.size ≤ s.heap.objs.size
  funs : s.heap.FunFrames base outer
  frf : ∀ b ∈ frs outer, H b = none
  hok : HOk P w H s.heap
  bare : AllBare s.gens
/-- a call's end -/
def CE (outer : List Env) (P : Program) (w : World) (H : Hp) (s : Shared) (Q : VK) (u : Value) (s' : Shared) : Prop :=
  ∃ v H', s'.os = s.os ∧ AllBare s'.gens ∧ Un (frs outer) [] H H' s.heap s'.heap ∧ HOk P w H' s'.heap ∧ RelV v u ∧ Q v H'
def CR (CX : CXT) (outer : List Env) (P : Program) (w : World) (H : Hp) (s : Shared) (Q : VK) (E : XK) (r : Result) (s' : Shared) : Prop :=
  match r with
  | .ok (.ret u) => CE outer P w H s Q u s'
  | .ok _ => False
  | .error e => CX outer H s E e s'
structure FnOk (P : Program) (w : World) (K : PySem.W.Frag) (mg : Str → Option Value) (base : Heap) (CX : CXT) (k : Nat) (f : Addr) (fd : FuncData) (ps : List Str) (sp : Sp) : Prop where
  len : ∀ vs H Q E, sp vs H Q E → vs.length = ps.length
  run : ∀ (A : Around) (outer : List Env) (s : Shared) (H : Hp) (args : Args) (us : List Value) (vs : List V) (Q : VK) (E : XK), Room k A → Env0 P w K mg base A outer s H → BindsTo s fd args (ps.zip us) → Vals vs us → sp vs H Q E →
    codeAny (model P w) A (.call (.ref f) args) (CR CX outer P w H s Q E) s
theorem FnOk.mono {P : Program} {w : World} {K : PySem.W.Frag} {mg : Str → Option Value} {base : Heap} {CX : CXT} {j k : Nat} {f : Addr} {fd : FuncData} {ps : List Str} {sp : Sp} (F : FnOk P w K mg base CX j f fd ps sp) (h : j ≤ k) :
    FnOk P w K mg base CX k f fd ps sp := ⟨F.len, fun A outer s H args us vs Q E hr => F.run A outer s H args us vs Q E (hr.mono h)⟩

theorem Env0.make {P : Program} {w : World} {K : PySem.W.Frag} {mg : Str → Option Value} {base : Heap} {A : Around} {outer : List Env} {s : Shared} {H : Hp} (e : Env0 P w K mg base A outer s H) (C : Addr) (us : List Value) (kw : List (Str × Value)) :
    Env0 P w K mg base (A.under (.builtin "type.__call__" ⟨.ref C :: us, kw⟩)) outer s H := ⟨by first | exact e.frames | (simpa [Around.under, Code.envs, Code.isFrame, pushEnvs] using e.frames), e.mod, e.bs, e.bsz, e.funs, e.frf, e.hok, e.bare⟩

section
variable {X : Cx} {pins : List (Addr × Obj)} {σ : St} {H : Hp} {s s' : Shared}
/-- from a body: what a callee wants -/
theorem Inv.env0 (I : Inv X pins σ H s) : Env0 X.prog X.w X.K X.mg X.base X.A X.stack s H :=
  ⟨I.ok.frames, I.ok.mod, I.bs, Nat.le_trans I.ok.bsz I.sz, I.stack, I.stkFree, I.hok, I.bare⟩
/-- behind a call -/
theorem Inv.after {Q : VK} {u : Value} (I : Inv X pins σ H s) (h : CE X.stack X.prog X.w H s Q u s') : EP X pins σ Q u s' := by
  obtain ⟨v, H', os, bare, un, hok, r, q⟩ := h
  obtain ⟨hh, g, d, t, os'⟩ := s'
  obtain rfl : os' = s.os := os
  exact ⟨v, H', I.call (h' := hh) (g' := g) (d' := d) (t' := t) (ch := []) un hok bare (fun b z => absurd z (by simp)), r, q⟩
end

/-! ### calls -/
/-- f(..): the written arguments, then the defaults dvs; E: what is wanted of an exception -/
def tCall (sp : Sp) (dvs : List V) (E : XK) (t : TA) : TE := fun σ H Q => t σ H fun vs H1 => sp (vs ++ dvs) H1 Q E
/-- o.m(..) of an instance of the class at C -/
def tMeth (C : Addr) (m : Str) (sp : Sp) (dvs : List V) (E : XK) (ta : TE) (t : TA) : TE := fun σ H Q => ta σ H fun x H1 => ∃ a dx fs, x = .ref a ∧ H1 a = some (.ins C dx fs) ∧ fs.lookup m = none ∧
  t σ H1 fun vs H2 => sp (x :: (vs ++ dvs)) H2 Q E
/-- C(..): a new instance and its dict, then __init__ -/
def tMake (C : Addr) (sp : Sp) (dvs : List V) (E : XK) (t : TA) : TE := fun σ H Q => t σ H fun vs H1 => ∀ x dx, H1 x = none → H1 dx = none → dx ≠ x →
  sp (.ref x :: (vs ++ dvs)) (upd (upd H1 dx (.own x)) x (.ins C dx [])) (fun v H2 => v = .non ∧ Q (.ref x) H2) E

/-- how the parameters are bound: us the positional arguments, kw the keywords' values by name, ds the defaults that fill up -/
def Binds (K : PySem.W.Frag) (fd : FuncData) (ps : List Str) (ds : List Value) : Prop :=
  ∀ (s : Shared) (us : List Value), K.In s.heap → (us ++ ds).length = ps.length → BindsTo s fd ⟨us, []⟩ (ps.zip (us ++ ds))
/-- every parameter is given -/
theorem Binds.all {K : PySem.W.Frag} {fd : FuncData} {ps : List Str} (h : ∀ us : List Value, us.length = ps.length → bindArgs fd ⟨us, []⟩ = pure (ps.zip us)) : Binds K fd ps [] := fun s us _ hl => by
  rw [List.append_nil] at hl ⊢
  exact .of_eq (h us hl)

/-- an exception of a callee reaches what this body wants of exceptions -/
def Passes (CX : CXT) (X : Cx) (E : XK) : Prop := ∀ (pins : List (Addr × Obj)) (σ : St) (H : Hp) (s : Shared) (e : Value) (s' : Shared), Inv X pins σ H s → CX X.stack H s E e s' → X.xe e s'

section
variable {X : Cx} {CX : CXT} {k : Nat} {f C : Addr} {fd : FuncData} {ps : List Str} {sp : Sp} {dvs : List V} {ds : List Value} {E : XK} {x m : Str} {p pos apos : Pos} {e o : Expr} {es : List Expr} {ta : TE} {t : TA}

/-- the callee runs -/
theorem run_fn {pins : List (Addr × Obj)} {σ : St} {H : Hp} {s : Shared} {Q : VK} {us : List Value} {vs : List V} (F : FnOk X.prog X.w X.K X.mg X.base CX k f fd ps sp) (hr : Room k X.A) (hb : Binds X.K fd ps ds) (hd : Vals dvs ds) (hx : Passes CX X E)
    (I : Inv X pins σ H s) (r : Vals vs us) (h : sp (vs ++ dvs) H Q E) : wpAny (model X.prog X.w) X.A (call (.ref f) us) (EP X pins σ Q) X.xe s := by
  have r2 : Vals (vs ++ dvs) (us ++ ds) := r.append hd
  have hl : (us ++ ds).length = ps.length := by rw [← r2.length]; exact F.len _ _ _ _ h
  refine wpAny_call (codeAny_mono (F.run X.A X.stack s H ⟨us, []⟩ (us ++ ds) (vs ++ dvs) Q E hr I.env0 (hb s us I.kIn hl) r2 h) fun r s' hq => ?_)
  cases r with
  | error e => exact hx pins σ H s e s' I hq
  | ok fl =>
    cases fl with
    | ret u => exact I.after hq
    | next => exact False.elim hq
    | brk => exact False.elim hq
    | cont => exact False.elim hq

theorem pe_call (F : FnOk X.prog X.w X.K X.mg X.base CX k f fd ps sp) (hr : Room k X.A) (hg : Gl X x) (hm : X.mg x = some (.ref f)) (hk : PySem.W.keepIn X.K (.ref f) = true) (hb : Binds X.K fd ps ds) (hd : Vals dvs ds) (hx : Passes CX X E)
    (ha : PA X (e :: es) t) (hdb : (x == ("__debug__" : Str)) = false := by decide) (he : starEach (e :: es) X.env = (false, eval e X.env) :: starEach es X.env := by rfl) (hpl : (backTo pos (starEach es X.env)).any (·.1) = false := by rfl) :
    PE X (.Call (.Name x p) (e :: es) [] pos) (tCall sp dvs E t) := by
  intro pins s σ H Q I h
  refine wpAny_Call_Name_kw (ld_glob I hg hm ?_ hdb)
  refine PySem.W.callWith_K (h₀ := X.base) I.ok.mod.kin hk (thn (ha pos pins s σ H _ I h) fun us s1 ⟨vs, H1, I1, r, q⟩ => ⟨I1.kIn, ?_⟩) he hpl
  exact run_fn F hr hb hd hx I1 r q

/-- o.m(e, ..) -/
theorem pe_meth {pl : Sem Bool} (he : PE X o ta) (c : Cls X.K C) (hm : Meth X.K C m f) (F : FnOk X.prog X.w X.K X.mg X.base CX k f fd ps sp) (hr : Room k X.A) (hb : Binds X.K fd ps ds) (hd : Vals dvs ds) (hx : Passes CX X E) (ha : PA X (e :: es) t)
    (hst : starEach (e :: es) X.env = (false, eval e X.env) :: starEach es X.env := by rfl) (hpl : (backTo pos (starEach es X.env)).any (·.1) = false := by rfl)
    (ht : eval (.Call (.Attribute o m apos) (e :: es) [] pos) X.env = (do
      let ov ← eval o X.env
      standAt apos.atName
      let (f, first) ← holding [ov] (getMethod ov m pl)
      callWith pos f first (backTo pos (starEach (e :: es) X.env)) (backToKw pos (keywordEach [] X.env))) := by rfl) :
    PE X (.Call (.Attribute o m apos) (e :: es) [] pos) (tMeth C m sp dvs E ta t) := by
  intro pins s σ H Q I h
  refine PySem.W.methodCall_KW (pl := pl) (thn (he pins s σ H _ I h) fun u s1 ⟨x, H1, I1, rx, a, dx, fs, ex, ea, l, q⟩ => ?_) ht
  subst ex
  obtain rfl : u = Value.ref a := rx
  refine getmeth_ok I1 ea c hm l ?_
  refine PySem.W.callWith_K (first := [.ref a]) (h₀ := X.base) I.ok.mod.kin hm.kp (thn (ha pos pins s1 σ H1 _ I1 q) fun us s2 ⟨vs, H2, I2, r, q2⟩ => ⟨I2.kIn, ?_⟩) hst hpl
  exact run_fn (us := .ref a :: us) (vs := .ref a :: vs) F hr hb hd hx I2 (.cons rfl r) q2
/-- o.m() -/
theorem pe_meth0 {pl : Sem Bool} (he : PE X o ta) (c : Cls X.K C) (hm : Meth X.K C m f) (F : FnOk X.prog X.w X.K X.mg X.base CX k f fd ps sp) (hr : Room k X.A) (hb : Binds X.K fd ps ds) (hd : Vals dvs ds) (hx : Passes CX X E)
    (ht : eval (.Call (.Attribute o m apos) [] [] pos) X.env = (do
      let ov ← eval o X.env
      standAt apos.atName
      let (f, first) ← holding [ov] (getMethod ov m pl)
      callWith pos f first (backTo pos (starEach [] X.env)) (backToKw pos (keywordEach [] X.env))) := by rfl) :
    PE X (.Call (.Attribute o m apos) [] [] pos) (tMeth C m sp dvs E ta tNil) := by
  intro pins s σ H Q I h
  refine PySem.W.methodCall_KW (pl := pl) (thn (he pins s σ H _ I h) fun u s1 ⟨x, H1, I1, rx, a, dx, fs, ex, ea, l, q⟩ => ?_) ht
  subst ex
  obtain rfl : u = Value.ref a := rx
  refine getmeth_ok I1 ea c hm l ?_
  exact PySem.W.callWith_K0 (first := [.ref a]) I1.kIn hm.kp (run_fn (us := [.ref a]) (vs := [.ref a]) F hr hb hd hx I1 (.cons rfl .nil) q)

/-- what a class must have to be made -/
structure Mk (K : PySem.W.Frag) (C f : Addr) : Prop where
  makes : PySem.W.makesIn K C = true
  init : PySem.W.findIn K (.ref C) "__init__" = some (some (.ref f))
  fn : PySem.W.isFn K (.ref f) = true
  kp : PySem.W.keepIn K (.ref C) = true

theorem run_make {pins : List (Addr × Obj)} {σ : St} {H : Hp} {s : Shared} {Q : VK} {us : List Value} {vs : List V} (M : Mk X.K C f) (F : FnOk X.prog X.w X.K X.mg X.base CX k f fd ps sp) (hr : Room (k + 1) X.A) (hb : Binds X.K fd ps ds) (hd : Vals dvs ds)
    (hx : Passes CX X E) (I : Inv X pins σ H s) (r : Vals vs us)
    (h : ∀ x dx, H x = none → H dx = none → dx ≠ x → sp (.ref x :: (vs ++ dvs)) (upd (upd H dx (.own x)) x (.ins C dx [])) (fun v H2 => v = .non ∧ Q (.ref x) H2) E) :
    wpAny (model X.prog X.w) X.A (call (.ref C) us) (EP X pins σ Q) X.xe s := by
  have hq := h (s.heap.objs.size + 1) s.heap.objs.size (I.hok.fresh (Nat.le_succ _)) (I.hok.fresh (Nat.le_refl _)) (Nat.ne_of_lt (Nat.lt_succ_self _))
  have I2 := Inv.made (C := C) I
  have r2 : Vals (V.ref (s.heap.objs.size + 1) :: (vs ++ dvs)) (Value.ref (s.heap.objs.size + 1) :: (us ++ ds)) := .cons rfl (r.append hd)
  have hl : (Value.ref (s.heap.objs.size + 1) :: us ++ ds).length = ps.length := by
    have e := r2.length
    rw [F.len _ _ _ _ hq] at e
    exact e.symm
  refine wpAny_call (make_map (f := f) I.kIn M.makes M.init (beq_iff_eq.mp M.fn) (codeAny_mono (F.run _ X.stack _ _ ⟨Value.ref (s.heap.objs.size + 1) :: us, []⟩ (Value.ref (s.heap.objs.size + 1) :: (us ++ ds)) _ _ E (hr.make C us [])
    (I2.env0.make C us []) (hb _ (Value.ref (s.heap.objs.size + 1) :: us) I2.kIn hl) r2 hq) fun r s' hq' => ?_))
  cases r with
  | error e => exact hx pins σ _ _ e s' I2 hq'
  | ok fl =>
    cases fl with
    | ret u =>
      obtain ⟨v, H', I3, rv, ev, q3⟩ := I2.after hq'
      subst ev
      exact ⟨rv, ⟨V.ref (s.heap.objs.size + 1), H', I3, rfl, q3⟩⟩
    | next => exact False.elim hq'
    | brk => exact False.elim hq'
    | cont => exact False.elim hq'
theorem pe_make (M : Mk X.K C f) (F : FnOk X.prog X.w X.K X.mg X.base CX k f fd ps sp) (hr : Room (k + 1) X.A) (hg : Gl X x) (hm : X.mg x = some (.ref C)) (hb : Binds X.K fd ps ds) (hd : Vals dvs ds) (hx : Passes CX X E)
    (ha : PA X (e :: es) t) (hdb : (x == ("__debug__" : Str)) = false := by decide) (he : starEach (e :: es) X.env = (false, eval e X.env) :: starEach es X.env := by rfl) (hpl : (backTo pos (starEach es X.env)).any (·.1) = false := by rfl) :
    PE X (.Call (.Name x p) (e :: es) [] pos) (tMake C sp dvs E t) := by
  intro pins s σ H Q I h
  refine wpAny_Call_Name_kw (ld_glob I hg hm ?_ hdb)
  refine PySem.W.callWith_K (h₀ := X.base) I.ok.mod.kin M.kp (thn (ha pos pins s σ H _ I h) fun us s1 ⟨vs, H1, I1, r, q⟩ => ⟨I1.kIn, ?_⟩) he hpl
  exact run_make M F hr hb hd hx I1 r q
end

/-! ### keywords -/
section
variable {X : Cx} {CX : CXT} {k : Nat} {f C : Addr} {fd : FuncData} {ps ks : List Str} {sp : Sp} {E : XK} {x m : Str} {p pos apos kpos : Pos} {e o : Expr} {es : List Expr} {kws : List Keyword} {te ta : TE} {t tk : TA} {nm : Option Str}

variable {g : List Value → List Value → List Value} {gV : List V → List V → List V}
end

/-! ### a def's body keeps its promise -/
/-- names: the parameters first -/
structure FnScope (N P : List Str) (sc : Scope) : Prop where
  kind : sc.kind = .function
  co : sc.isCoroutine = false
  gen : sc.isGenerator = false
  nd : N.Nodup
  pre : N.take P.length = P
  par : ∀ x ∈ P, sc.names.lookup x = some .local ∨ sc.names.lookup x = some .cell
  nofree : ∀ y ∈ sc.names, y.2 ≠ .free

theorem bindL_out {kindOf : Str → Option NameKind} {x : Str} : ∀ {binds : List (Str × Value)} {m : Str → Option Value}, (∀ v, (x, v) ∉ binds) → bindL kindOf binds m x = m x
  | [], _, _ => rfl
  | (n, v) :: r, m, h => by
    unfold bindL
    rw [bindL_out fun w hw => h w (List.mem_cons_of_mem _ hw)]
    split
    · have : x ≠ n := by rintro rfl; exact h v List.mem_cons_self
      simp [this]
    · rfl
theorem bindC_out {kindOf : Str → Option NameKind} {x : Str} : ∀ {binds : List (Str × Value)} {m : Str → Option Value}, (∀ v, (x, v) ∉ binds) → bindC kindOf binds m x = m x
  | [], _, _ => rfl
  | (n, v) :: r, m, h => by
    unfold bindC
    rw [bindC_out fun w hw => h w (List.mem_cons_of_mem _ hw)]
    split
    · rfl
    · have : x ≠ n := by rintro rfl; exact h v List.mem_cons_self
      simp [this]
theorem bindL_get {kindOf : Str → Option NameKind} {x : Str} {v : Value} : ∀ {P : List Str} {vs : List Value} {i : Nat} {m : Str → Option Value}, P.Nodup → P[i]? = some x → vs[i]? = some v → kindOf x = some .local →
    bindL kindOf (P.zip vs) m x = some v
  | [], _, _, _, _, h, _, _ => by simp at h
  | _ :: _, [], _, _, _, _, h, _ => by simp at h
  | p :: P, w :: vs, 0, m, nd, h1, h2, hk => by
    simp at h1 h2; subst h1; subst h2
    show bindL kindOf ((p, w) :: P.zip vs) m p = _
    unfold bindL
    rw [bindL_out fun v hv => (List.nodup_cons.mp nd).1 (List.of_mem_zip hv).1, if_pos hk]
    simp
  | p :: P, w :: vs, i + 1, m, nd, h1, h2, hk => by
    show bindL kindOf ((p, w) :: P.zip vs) m x = _
    unfold bindL
    exact bindL_get (i := i) (List.nodup_cons.mp nd).2 (by simpa using h1) (by simpa using h2) hk
theorem bindC_get {kindOf : Str → Option NameKind} {x : Str} {v : Value} : ∀ {P : List Str} {vs : List Value} {i : Nat} {m : Str → Option Value}, P.Nodup → P[i]? = some x → vs[i]? = some v → kindOf x ≠ some .local →
    bindC kindOf (P.zip vs) m x = some v
  | [], _, _, _, _, h, _, _ => by simp at h
  | _ :: _, [], _, _, _, _, h, _ => by simp at h
  | p :: P, w :: vs, 0, m, nd, h1, h2, hk => by
    simp at h1 h2; subst h1; subst h2
    show bindC kindOf ((p, w) :: P.zip vs) m p = _
    unfold bindC
    rw [bindC_out fun v hv => (List.nodup_cons.mp nd).1 (List.of_mem_zip hv).1, if_neg hk]
    simp
  | p :: P, w :: vs, i + 1, m, nd, h1, h2, hk => by
    show bindC kindOf ((p, w) :: P.zip vs) m x = _
    unfold bindC
    exact bindC_get (i := i) (List.nodup_cons.mp nd).2 (by simpa using h1) (by simpa using h2) hk

/-- the names' values at the entry -/
def start (N : List Str) (vs : List V) : St := vs.map some ++ List.replicate (N.length - vs.length) none

/-- the context of a def's body, at its entry; an exception leaves the frame, then lies as CX says -/
def cxOf (CX : CXT) (P : Program) (w : World) (K : PySem.W.Frag) (mg : Str → Option Value) (base : Heap) (N : List Str) (qual : Str) (scope : Scope) (f : Addr) (cd : Value) (A : Around) (outer : List Env) (s : Shared) (H : Hp) (E : XK) : Cx where
  prog := P
  w := w
  K := K
  mg := mg
  base := base
  A := A.deeper (envOfC qual scope s.heap.objs.size f cd)
  N := N
  s₀ := s
  H₀ := H
  env := envOfC qual scope s.heap.objs.size f cd
  outer := outer
  stack := envOfC qual scope s.heap.objs.size f cd :: outer
  ex := []
  calm := true
  fn := fun _ => true
  pn := []
  xe := fun e s' => wpAny (model P w) (A.deeper (envOfC qual scope s.heap.objs.size f cd)) (leaving (envOfC qual scope s.heap.objs.size f cd) e) (fun _ s'' => CX outer H s E e s'') (fun e' s'' => CX outer H s E e' s'') s'

theorem cell_has {sc : Scope} {n : Nat} {x : Str} (h : sc.names.lookup x = some .cell) : ∃ c, (cellsFrom n sc.names []).lookup x = some c := by
  have q := PySem.W.cellsFrom_some sc.names n [] (.inl h)
  exact Option.isSome_iff_exists.mp q

theorem inv_start {CX : CXT} {P : Program} {w : World} {K : PySem.W.Frag} {mg : Str → Option Value} {base : Heap} {N ps : List Str} {qual : Str} {scope : Scope} {f : Addr} {cd : Value} {A : Around} {outer : List Env} {s s1 : Shared} {H : Hp} {E : XK} {us : List Value} {vs : List V}
    (S : FnScope N ps scope) (hd : A.handled = none) (e0 : Env0 P w K mg base A outer s H) (hl : vs.length = ps.length) (r : Vals vs us)
    (x : InCallC s s.heap.objs.size (bindL (envOfC qual scope s.heap.objs.size f cd).kindOf (ps.zip us) fun _ => none) (cellsFrom (s.heap.objs.size + 1) scope.names []) (bindC (envOfC qual scope s.heap.objs.size f cd).kindOf (ps.zip us) fun _ => none) s1) :
    Inv (cxOf CX P w K mg base N qual scope f cd A outer s H E) [] (start N vs) H s1 := by
  have hpl : ps.length ≤ N.length := by have := congrArg List.length S.pre; rw [List.length_take] at this; omega
  obtain ⟨h1, tk, rfl, hk⟩ := x.done
  have noA : ∀ b : Addr, b ∉ (cxOf CX P w K mg base N qual scope f cd A outer s H E).ex := fun b z => absurd (show b ∈ ([] : List Addr) from z) (by simp)
  refine ⟨⟨e0.mod, S.kind, rfl, rfl, Nat.le_refl _, fun y z c h1 h2 => ?_, fun y hy => ?_, fun y c _ h => ?_, fun _ => hd, Around.frames_deeper e0.frames, .inr ⟨rfl, rfl⟩, fun b z => absurd z (noA b), e0.bs, e0.bsz, fun b _ _ => noA b, fun b z => absurd z (noA b), e0.funs, e0.frf⟩,
    rfl, e0.bare, Un.kept hk, ⟨_, x.toInCall.ns, fun i y v h1 h2 h3 => ?_⟩, fun y c h => ⟨_, x.cell y c h⟩, e0.hok.fresh (Nat.le_refl _), fun y c h => ?_, fun p hp => absurd (show p ∈ ([] : List (Addr × Obj)) from hp) (by simp), e0.hok.kept hk, ?_⟩
  · exact name_of_addr x.apart (PySem.mem_of_lookup h1) (PySem.mem_of_lookup h2)
  · have hy : scope.names.lookup y = some .cell ∨ scope.names.lookup y = some .free := hy
    rcases hy with hy | hy
    · exact cell_has hy
    · exact absurd rfl (S.nofree _ (PySem.mem_of_lookup hy))
  · exact Nat.le_of_lt (x.above y c (PySem.mem_of_lookup h))
  · have hi : i < vs.length := by
      unfold start at h2
      by_cases hi : i < vs.length
      · exact hi
      · rw [List.getElem?_append_right (by simpa using hi)] at h2
        rw [List.getElem?_replicate] at h2
        split at h2 <;> cases h2
    have ha : vs[i]? = some v := by
      unfold start at h2
      rw [List.getElem?_append_left (by simpa using hi), List.getElem?_map] at h2
      cases e : vs[i]? with
      | none => rw [e] at h2; cases h2
      | some a => rw [e] at h2; cases h2; rfl
    obtain ⟨u, hu, rv⟩ := r.get ha
    have hp : ps[i]? = some y := by
      rw [← S.pre, List.getElem?_take_of_lt (by omega)]; exact h1
    have ndP : ps.Nodup := by rw [← S.pre]; exact S.nd.sublist (List.take_sublist _ _)
    refine ⟨u, rv, ?_⟩
    rcases S.par y (List.mem_of_getElem? hp) with k | k
    · exact .inl ⟨k, bindL_get ndP hp hu k⟩
    · obtain ⟨c, e⟩ := cell_has (n := s.heap.objs.size + 1) k
      refine .inr ⟨.inl k, c, e, ?_⟩
      have q := x.cell y c e
      rw [bindC_get ndP hp hu (by show scope.names.lookup y ≠ _; rw [k]; decide)] at q
      exact q
  · exact e0.hok.fresh (Nat.le_of_lt (x.above y c (PySem.mem_of_lookup h)))
  · unfold start
    show _ = N.length
    rw [List.length_append, List.length_map, List.length_replicate]
    omega

/-- THE RULE: a def (or a method) of the text, by its body. The body's reading t is chosen for each entry; it is run at the parameters' values -/
theorem fn_of {CX : CXT} {P : Program} {w : World} {K : PySem.W.Frag} {mg : Str → Option Value} {base : Heap} {k : Nat} {f : Addr} {name qual : Str} {params : Arguments} {body : List Stmt} {scope : Scope} {dV kV doc pm cdv ct oc : Value} {an od : Option Addr}
    {osl : Array (Option Value)} {N ps : List Str} {sp : Sp} (lk : K.lookup f = some ⟨oc, od, .func (PySem.W.fnOf name qual params body scope dV kV doc pm an cdv ct), osl⟩) (hcd : PySem.W.codeIn K cdv qual = true) (S : FnScope N ps scope)
    (len : ∀ vs H Q E, sp vs H Q E → vs.length = ps.length)
    (hbody : ∀ (A : Around) (outer : List Env) (s : Shared) (H : Hp) (vs : List V) (Q : VK) (E : XK), Room k (A.deeper (envOfC qual scope s.heap.objs.size f cdv)) → sp vs H Q E →
      ∃ t, PSs (cxOf CX P w K mg base N qual scope f cdv A outer s H E) body t ∧ t { nx := fun _ H' => Q .non H', rt := Q } (start N vs) H) :
    FnOk P w K mg base CX (k + 1) f (PySem.W.fnOf name qual params body scope dV kV doc pm an cdv ct) ps sp := by
  refine ⟨len, fun A outer s H args us vs Q E hr e0 hb r hsp => ?_⟩
  have hl := len _ _ _ _ hsp
  have KX : K.In s.heap := e0.mod.kin.keeps fun b o e => (e0.bs b o e).1
  have lim : s.heap.NoLimit := e0.mod.nolimit.keeps fun b o e => (e0.bs b o e).1
  have hkind : ∀ y ∈ ps.zip us, scope.names.lookup y.1 = some .local ∨ (scope.names.lookup y.1 = some .cell ∧ ((cellsFrom (s.heap.objs.size + 1) scope.names []).lookup y.1).isSome = true) := fun ⟨n, v⟩ hy => by
    rcases S.par n (List.of_mem_zip hy).1 with q | q
    · exact .inl q
    · exact .inr ⟨q, PySem.W.cellsFrom_some _ _ _ (.inl q)⟩
  refine codeAny_call_function hr.depth (KX _ _ lk) rfl S.co S.gen rfl (PySem.W.codeRec_of KX hcd) (hb _ _ _ _ ?_)
  refine wpAny_newFunctionEnv_cells S.kind hkind fun env he s1 x => ?_
  subst he
  refine ⟨lim.keeps x.toInCall.keep, codeAny_func ?_⟩
  obtain ⟨t, ht, hq⟩ := hbody A outer s H vs Q E (hr.deeper _) hsp
  have I : Inv (cxOf CX P w K mg base N qual scope f cdv A outer s H E) [] (start N vs) H s1 := inv_start S hr.hd e0 hl r x
  refine wpAny_mono (ht [] s1 (start N vs) H _ I hq) (fun fl s' hs => ?_) fun e s' hs => hs
  have fin : ∀ {σ' : St} {H' : Hp} {v : V} {u : Value}, Inv (cxOf CX P w K mg base N qual scope f cdv A outer s H E) [] σ' H' s' → RelV v u → Q v H' → CE outer P w H s Q u s' :=
    fun {σ' H' v u} J rv q => ⟨v, H', J.os, J.bare, J.base, J.hok, rv, q⟩
  cases fl with
  | ret u =>
    obtain ⟨v, σ', H', J, rv, q⟩ := hs
    exact fin J rv q
  | next =>
    obtain ⟨σ', H', J, q⟩ := hs
    exact fin (v := V.non) (u := Value.none) J rfl q
  | brk =>
    obtain ⟨_, _, _, q⟩ := hs
    exact False.elim q
  | cont =>
    obtain ⟨_, _, _, q⟩ := hs
    exact False.elim q
end L2

namespace L2
open PySem PySem.Spec PyProof.Rows
section
variable {X : Cx} {x : Str} {p pos : Pos} {e : Expr} {es : List Expr} {t : TA} {id T : String} {r : List V → Hp → VK → Prop}

def tCB (r : List V → Hp → VK → Prop) (t : TA) : TE := fun σ H Q => t σ H fun vs H1 => r vs H1 Q
/-- f(e, ..), f a built-in function -/
theorem pe_callB (hc : CallR X (.builtin id) r) (hg : Gl X x) (hm : X.mg x = none) (hv : bootBuiltins x = some (.builtin id)) (ha : PA X (e :: es) t) (hn : x ≠ "__name__" := by decide) (hdb : (x == ("__debug__" : Str)) = false := by decide)
    (he : starEach (e :: es) X.env = (false, eval e X.env) :: starEach es X.env := by rfl) (hpl : (backTo pos (starEach es X.env)).any (·.1) = false := by rfl) : PE X (.Call (.Name x p) (e :: es) [] pos) (tCB r t) := by
  intro pins s σ H Q I h
  refine wpAny_Call_Name_kw (ld_blt I hg hm hv ?_ hn hdb)
  exact PyProof.Rows.callWith_builtin1 (thn (ha pos pins s σ H _ I h) fun us s1 ⟨vs, H1, I1, r1, q1⟩ => hc pins s1 σ H1 vs us Q I1 r1 q1) he hpl
/-- T(e, ..), T a built-in type -/
theorem pe_callTy (hc : CallR X (.type T) r) (hg : Gl X x) (hm : X.mg x = none) (hv : bootBuiltins x = some (.type T)) (ha : PA X (e :: es) t) (hn : x ≠ "__name__" := by decide) (hdb : (x == ("__debug__" : Str)) = false := by decide)
    (he : starEach (e :: es) X.env = (false, eval e X.env) :: starEach es X.env := by rfl) (hpl : (backTo pos (starEach es X.env)).any (·.1) = false := by rfl) : PE X (.Call (.Name x p) (e :: es) [] pos) (tCB r t) := by
  intro pins s σ H Q I h
  refine wpAny_Call_Name_kw (ld_blt I hg hm hv ?_ hn hdb)
  exact PyProof.Rows.callWith_type1 (thn (ha pos pins s σ H _ I h) fun us s1 ⟨vs, H1, I1, r1, q1⟩ => hc pins s1 σ H1 vs us Q I1 r1 q1) he hpl
end
end L2

namespace HT
open PySem PyProof.Rows



section
open PySem.SeqAt
open PySem.AutoSeq1 (wpAny_loadPart')
open PySem.MeetsSeq PySem.MeetsSeq2 PySem.MeetsSeq3

end

section
variable {prog : Program} {w : World} {A : Around} {E : Value → Shared → Prop} {s : Shared}



/-! ### t[a:b], not the whole -/
/-- a slice's bound as a place among n (d where it is left out) -/
def sIx (n d : Nat) : Option Int → Nat
  | none => d
  | some v => if v < 0 then (v + (n : Int)).toNat else min v.toNat n
theorem sIx_le (n d : Nat) (hd : d ≤ n) (o : Option Int) : sIx n d o ≤ n := by
  cases o with
  | none => exact hd
  | some v =>
    show (if v < 0 then (v + (n : Int)).toNat else min v.toNat n) ≤ n
    by_cases hv : v < 0
    · rw [if_pos hv]; omega
    · rw [if_neg hv]; exact Nat.min_le_right _ _
theorem clip_eq (v : Int) (n d : Nat) : (if v < 0 then max (v + (n : Int)) 0 else min v (n : Int)) = ((sIx n d (some v) : Nat) : Int) := by
  show (if v < 0 then max (v + (n : Int)) 0 else min v (n : Int)) = (((if v < 0 then (v + (n : Int)).toNat else min v.toNat n) : Nat) : Int)
  by_cases hv : v < 0
  · simp only [if_pos hv]; omega
  · simp only [if_neg hv]; omega
theorem adjust_gen (lo hi : Option Int) (n : Nat) : Builtin.Slice.sliceAdjust lo hi 1 (n : Int) = (((sIx n 0 lo : Nat) : Int), ((sIx n n hi : Nat) : Int)) := by
  have h1 : ¬ ((1 : Int) < 0) := by omega
  unfold Builtin.Slice.sliceAdjust
  simp only [h1, if_false]
  refine Prod.ext ?_ ?_
  · cases lo with
    | none => rfl
    | some v => exact clip_eq v n 0
  · cases hi with
    | none => rfl
    | some v => exact clip_eq v n n
theorem places_gen (i j : Nat) : Builtin.Slice.slicePlaces (i : Int) (j : Int) 1 = j - i := by
  unfold Builtin.Slice.slicePlaces
  have h1 : (1 : Int) > 0 := by omega
  simp only [h1, if_true, Int.ediv_one]
  split <;> omega
theorem slicePart_ {v : Value} {o : Option Int} {Q : Option Int → Shared → Prop} (p : IsPart v o) (h : Q o s) : wpAny (model prog w) A (Builtin.Slice.slicePartIndex v) Q E s := by
  cases p with
  | none => exact slicePart_none h
  | int i t => exact slicePart_int h
theorem sliceApplied_gen {sl : Addr} {vl vu : Value} {lo hi : Option Int} {n : Nat} {Q : Int × Int × Nat → Shared → Prop} (hs : s.heap.IsSliceOf sl vl vu .none) (pl : IsPart vl lo) (pu : IsPart vu hi)
    (h : Q (((sIx n 0 lo : Nat) : Int), 1, sIx n n hi - sIx n 0 lo) s) : wpAny (model prog w) A (Builtin.Slice.sliceApplied (.ref sl) (pure (n : Int))) Q E s := by
  obtain ⟨os, hos, hcs, hds⟩ := id hs
  unfold Builtin.Slice.sliceApplied Builtin.Slice.sliceFields
  refine wpAny_bind (wpAny_bind (wpAny_field hos hds (x := vl) rfl (wpAny_bind (wpAny_field hos hds (x := vu) rfl (wpAny_bind (wpAny_field hos hds (x := .none) rfl (wpAny_pure ?_)))))))
  refine wpAny_bind (slicePart_none ?_)
  show wpAny _ _ (if ((1 : Int) == 0) = true then _ else _) _ _ s
  rw [if_neg (by decide)]
  refine wpAny_bind (slicePart_ pl (wpAny_bind (slicePart_ pu (wpAny_bind (wpAny_pure ?_)))))
  show wpAny _ _ (match Builtin.Slice.sliceAdjust lo hi 1 (n : Int) with | (lo, hi) => pure (lo, (1 : Int), Builtin.Slice.slicePlaces lo hi 1)) _ _ s
  rw [adjust_gen lo hi n]
  show wpAny _ _ (pure (((sIx n 0 lo : Nat) : Int), (1 : Int), Builtin.Slice.slicePlaces ((sIx n 0 lo : Nat) : Int) ((sIx n n hi : Nat) : Int) 1)) _ _ s
  rw [places_gen]
  exact wpAny_pure h
theorem pick_gen (xs : Array Value) (i k : Nat) : ((List.range k).filterMap fun (m : Nat) => xs[((i : Int) + (m : Int) * 1).toNat]?).toArray = ((xs.toList.drop i).take k).toArray := by
  have e : (fun (m : Nat) => xs[((i : Int) + (m : Int) * 1).toNat]?) = fun m => xs[i + m]? := by
    funext m
    have : ((i : Int) + (m : Int) * 1).toNat = i + m := by omega
    rw [this]
  rw [e]
  have := pick_run xs i k
  rw [List.filterMap_map] at this
  have e2 : ((fun x => xs[x]?) ∘ fun x => i + x) = fun m => xs[i + m]? := rfl
  rw [e2] at this
  rw [this]

theorem getItem_tuple_cut {t sl : Addr} {items : Array Value} {vl vu : Value} {lo hi : Option Int} {Q : Value → Shared → Prop} (ht : IsTup s.heap t items) (hs : s.heap.IsSliceOf sl vl vu .none) (pl : IsPart vl lo) (pu : IsPart vu hi)
    (hw : ¬ (sIx items.size 0 lo = 0 ∧ sIx items.size items.size hi = items.size))
    (h : Q (.ref s.heap.objs.size) { s with heap := s.heap.push { cls := .type "tuple", data := .seq ((items.toList.drop (sIx items.size 0 lo)).take (sIx items.size items.size hi - sIx items.size 0 lo)).toArray } })
    (hsz : items.size ≤ sizeLine) : wpAny (model prog w) A (getItem (.ref t) (.ref sl)) Q E s := by
  have htake : sizeOk (.seq ((items.toList.drop (sIx items.size 0 lo)).take (sIx items.size items.size hi - sIx items.size 0 lo)).toArray) := by
    show ((items.toList.drop (sIx items.size 0 lo)).take (sIx items.size items.size hi - sIx items.size 0 lo)).toArray.size ≤ sizeLine
    rw [List.size_toArray, List.length_take, List.length_drop, Array.length_toList]
    omega
  have hj : sIx items.size items.size hi ≤ items.size := sIx_le _ _ (Nat.le_refl _) hi
  obtain ⟨os, hos, hcs, hds⟩ := id hs
  have hTs : s.TypeIs (.ref sl) "slice" := ⟨os, hos, hcs⟩
  unfold getItem
  try with_reducible refine wpAny_holding ?_
  first | refine wpAny_bind (wpAny_pure ?_) | skip
  refine wpAny_bind (wpAny_sequenceKey ht.typeIs (by decide) ?_)
  refine wpAny_bind (wpAny_callSpecial?_slot (name := Str.ofString "__getitem__") ht.typeIs PyProof.Rows.slot_tuple_getitem
    (wpAny_call_entry PyProof.Rows.slot_tuple_getitem ht.typeIs entry_tuple_getitem ?_ (args_tuple_getitem _ _)))
  show wpAny _ _ (Builtin.Tuple.tupleItemsOf (.ref t) >>= _) _ _ s
  refine wpAny_bind (tupleItemsOf_ ht ?_)
  refine wpAny_bind (wpAny_typeOf hTs ?_)
  rw [if_pos (by decide)]
  refine wpAny_bind (sliceApplied_gen hs pl pu ?_)
  have hno : ¬ ((((sIx items.size 0 lo : Nat) : Int) == 0 && (1 : Int) == 1 && (sIx items.size items.size hi - sIx items.size 0 lo) == items.size) = true) := by
    intro q
    rw [Bool.and_eq_true, Bool.and_eq_true] at q
    have q1 : ((sIx items.size 0 lo : Nat) : Int) = 0 := eq_of_beq q.1.1
    have q2 : sIx items.size items.size hi - sIx items.size 0 lo = items.size := eq_of_beq q.2
    exact hw ⟨by omega, by omega⟩
  show wpAny _ _ (if (((sIx items.size 0 lo : Nat) : Int) == 0 && (1 : Int) == 1 && (sIx items.size items.size hi - sIx items.size 0 lo) == items.size) = true then _ else _) _ _ s
  rw [if_neg hno, pick_gen]
  first
    | exact wpAny_bind (m := Builtin.Tuple.tupleExact _) (wpAny_newObj_type (wpAny_pure ⟨_, rfl, wpAny_pure h⟩) htake)
    | exact wpAny_bind (m := Builtin.Tuple.tupleExact _) (wpAny_newObj_type (wpAny_bind (wpAny_pure (wpAny_pure ⟨_, rfl, wpAny_pure h⟩))) htake)
    | exact wpAny_bind (wpAny_bind (m := Builtin.Tuple.tupleExact _) (wpAny_newObj_type (wpAny_pure (wpAny_pure ⟨_, rfl, wpAny_pure h⟩)) htake))
    | exact wpAny_bind (wpAny_bind (m := Builtin.Tuple.tupleExact _) (wpAny_newObj_type (wpAny_pure ⟨_, rfl, wpAny_pure h⟩) htake))
end
end HT

namespace L2
open PySem PySem.Spec PyProof.Rows

/-! ### the parts of a slice -/
abbrev TO := St → Hp → (Option Int → Hp → Prop) → Prop
/-- a slice's part (left out, or an int) -/
def PO (X : Cx) (e : Option Expr) (t : TO) : Prop :=
  ∀ (pins : List (Addr × Obj)) (s : Shared) (σ : St) (H : Hp) (Q : Option Int → Hp → Prop), Inv X pins σ H s → t σ H Q →
    wpAny (model X.prog X.w) X.A (evalPart e X.env) (fun u s' => ∃ o H', Inv X pins σ H' s' ∧ IsPart u o ∧ Q o H') X.xe s
def tNoPart : TO := fun _ H Q => Q none H
def tPart (t : TE) : TO := fun σ H Q => t σ H fun x H1 => ∃ i, x = .int i ∧ Q (some i) H1


section
variable {X : Cx} {e : Expr} {te : TE} {lo hi : Option Expr} {tl th : TO} {pos p2 : Pos}

theorem po_none : PO X none tNoPart := by
  intro pins s σ H Q I h
  rw [evalPart_none]
  exact wpAny_pure ⟨none, H, I, .none, h⟩
theorem po_some (h : PE X e te) : PO X (some e) (tPart te) := by
  intro pins s σ H Q I hw
  rw [evalPart_some]
  refine thn (h pins s σ H _ I hw) fun u s1 ⟨x, H1, I1, r1, q1⟩ => ?_
  obtain ⟨i, rfl, q⟩ := q1
  obtain ⟨t, rfl⟩ := r1
  exact ⟨some i, H1, I1, .int i t, q⟩

/-- what a slice of a value is, by values: the slice object stands at sl -/
def SlR (X : Cx) (r : V → Option Int → Option Int → Hp → VK → Prop) : Prop :=
  ∀ (pins : List (Addr × Obj)) (s : Shared) (σ : St) (H : Hp) (x : V) (v vl vu : Value) (lo hi : Option Int) (sl : Addr) (Q : VK), Inv X pins σ H s → RelV x v → s.heap.IsSliceOf sl vl vu .none → IsPart vl lo → IsPart vu hi → r x lo hi H Q →
    ∃ T id, typeLookup (.type T) "__getitem__" = pure (some (.builtin id)) ∧ s.TypeIs v T ∧ wpAny (model X.prog X.w) X.A (getItem v (.ref sl)) (EP X pins σ Q) X.xe s
def tSl (r : V → Option Int → Option Int → Hp → VK → Prop) (te : TE) (tl th : TO) : TE := fun σ H Q => te σ H fun x H1 => tl σ H1 fun l H2 => th σ H2 fun u H3 => r x l u H3 Q
/-- a[lo:hi], any a -/
theorem pe_slice {r : V → Option Int → Option Int → Hp → VK → Prop} (hr : SlR X r) (he : PE X e te) (hl : PO X lo tl) (hu : PO X hi th) : PE X (.Subscript e (.Slice lo hi none p2) pos) (tSl r te tl th) := by
  intro pins s σ H Q I h
  refine Subscript_ (thn (he pins s σ H _ I h) fun v s1 ⟨x, H1, I1, r1, q1⟩ => ?_)
  refine wpAny_Slice (thn (hl pins s1 σ H1 _ I1 q1) fun vl s2 ⟨l, H2, I2, pl, q2⟩ => thn (hu pins s2 σ H2 _ I2 q2) fun vu s3 ⟨u, H3, I3, pu, q3⟩ => ?_)
  rw [evalPart_none]
  refine wpAny_pure ?_
  have I4 : Inv X pins σ H3 { s3 with heap := s3.heap.push { cls := .type "slice", data := .fields #[vl, vu, .none] } } := I3.kept (t' := s3.toks) fun b ob q => Heap.get?_push_of_some _ q
  obtain ⟨T, id, hT, ht, hg⟩ := hr pins { s3 with heap := s3.heap.push { cls := .type "slice", data := .fields #[vl, vu, .none] } } σ H3 x v vl vu l u s3.heap.objs.size Q I4 r1 (Heap.IsSliceOf.new ..) pl pu q3
  show wpAny (model X.prog X.w) X.A (subscriptTail e (.Slice lo hi none p2) v (.ref s3.heap.objs.size)) (EP X pins σ Q) X.xe { s3 with heap := s3.heap.push { cls := .type "slice", data := .fields #[vl, vu, .none] } }
  exact tail_any (ops := [.ref s3.heap.objs.size, v]) ht hT hg (by with_unfolding_all rfl)

/-- the items of xs[lo:hi] -/
def cutV (xs : List V) (lo hi : Option Int) : List V := (xs.drop (HT.sIx xs.length 0 lo)).take (HT.sIx xs.length xs.length hi - HT.sIx xs.length 0 lo)
theorem cutV_length (xs : List V) (lo hi : Option Int) : (cutV xs lo hi).length ≤ xs.length := by
  unfold cutV
  rw [List.length_take, List.length_drop]
  omega
/-- t[lo:hi], not the whole of it (the whole would be t itself) -/
def rSlT (K : PySem.W.Frag) : V → Option Int → Option Int → Hp → VK → Prop := fun x lo hi H Q => ∃ a xs, x = .ref a ∧ SqT K H a xs ∧
  ¬ (HT.sIx xs.length 0 lo = 0 ∧ HT.sIx xs.length xs.length hi = xs.length) ∧ ∀ p, H p = none → Q (.ref p) (upd H p (.tup (cutV xs lo hi)))
theorem sl_tup : SlR X (rSlT X.K) := by
  intro pins s σ H x v vl vu lo hi sl Q I rx hs pl pu h
  obtain ⟨a, xs, rfl, hx, hw, q⟩ := h
  cases rx
  obtain ⟨its, r, ht, hz⟩ := I.tuple hx
  have hlen : its.toArray.size = xs.length := by rw [List.size_toArray]; exact r.length.symm
  refine ⟨"tuple", _, PyProof.Rows.slot_tuple_getitem.lookup, ht.typeIs, ?_⟩
  refine HT.getItem_tuple_cut ht hs pl pu (by rw [hlen]; exact hw) ?_ (by rw [hlen]; exact hz)
  rw [hlen]
  refine ⟨.ref s.heap.objs.size, _, I.laid (t' := s.toks) (o := .tup (cutV xs lo hi)) (fun b ob q => Heap.get?_push_of_some _ q) (Nat.le_refl _) ?_, rfl, q _ (I.hok.fresh (Nat.le_refl _))⟩
  exact ⟨Nat.le_trans (cutV_length xs lo hi) hz, _, (r.drop (HT.sIx xs.length 0 lo)).take (HT.sIx xs.length xs.length hi - HT.sIx xs.length 0 lo), IsTup.new _ _⟩

/-! ### t < u, t + u -/
end
end L2

namespace L2
open PySem PySem.Spec PyProof.Rows

/-! ### places -/
/-- the place that an index of any sign means -/
def ixN (n : Nat) (i : Int) : Option Nat := if 0 ≤ i then (if i < n then some i.toNat else none) else if -(n : Int) ≤ i then some (i + n).toNat else none
def atI {α : Type} (xs : List α) (i : Int) : Option α := (ixN xs.length i).bind fun j => xs[j]?
theorem ixN_seq {n : Nat} {i : Int} {j : Nat} (h : ixN n i = some j) : seqIndex? i n = some j ∧ j < n ∧ -(n : Int) ≤ i ∧ i < n := by
  unfold ixN at h
  by_cases h0 : 0 ≤ i
  · rw [if_pos h0] at h
    by_cases h1 : i < n
    · rw [if_pos h1] at h
      have e : i.toNat = j := Option.some.inj h
      exact ⟨by rw [seqIndex_of h0 h1, e], by omega, by omega, h1⟩
    · rw [if_neg h1] at h; cases h
  · rw [if_neg h0] at h
    by_cases h1 : -(n : Int) ≤ i
    · rw [if_pos h1] at h
      have e : (i + n).toNat = j := Option.some.inj h
      exact ⟨by rw [seqIndex_neg (by omega) h1, e], by omega, h1, by omega⟩
    · rw [if_neg h1] at h; cases h
theorem atI_get {α : Type} {xs : List α} {i : Int} {v : α} (h : atI xs i = some v) : ∃ j, seqIndex? i xs.length = some j ∧ xs[j]? = some v ∧ j < xs.length ∧ -(xs.length : Int) ≤ i ∧ i < xs.length := by
  unfold atI at h
  cases e : ixN xs.length i with
  | none => rw [e] at h; cases h
  | some j =>
    rw [e] at h
    obtain ⟨h1, h2, h3, h4⟩ := ixN_seq e
    exact ⟨j, h1, h, h2, h3, h4⟩
theorem atI_nat {α : Type} {xs : List α} {j : Nat} {v : α} (h : xs[j]? = some v) : atI xs (j : Int) = some v := by
  have hj : j < xs.length := (List.getElem?_eq_some_iff.mp h).1
  have e : ixN xs.length (j : Int) = some j := by
    unfold ixN
    rw [if_pos (by omega), if_pos (by omega)]; simp
  unfold atI; rw [e]; exact h
theorem atI_last {α : Type} (xs : List α) (v : α) : atI (xs ++ [v]) (-1) = some v := by
  have hl : (xs ++ [v]).length = xs.length + 1 := by simp
  have e : ixN (xs ++ [v]).length (-1) = some xs.length := by
    unfold ixN
    rw [hl, if_neg (by decide), if_pos (by omega)]
    congr 1
    omega
  unfold atI
  rw [e]
  show (xs ++ [v])[xs.length]? = some v
  simp

/-! ### what may be subscripted -/
/-- what stands as an index of a plain subscript -/
def PlainIx (b : Expr) : Prop := ∀ o i, subscripted b false o i = operate [o, i] (getItem o i)
/-- a subscript by values -/
def IxR (X : Cx) (r : R2) : Prop :=
  ∀ (value slice : Expr) (pins : List (Addr × Obj)) (s : Shared) (σ : St) (H : Hp) (x y : V) (v u : Value) (Q : VK), Inv X pins σ H s → RelV x v → RelV y u → r x y H Q →
    subscripted slice false v u = operate [v, u] (getItem v u) → wpAny (model X.prog X.w) X.A (subscriptTail value slice v u) (EP X pins σ Q) X.xe s
/-- a call of a builtin's method by values: the receiver, the arguments -/
def MtR (X : Cx) (id : String) (r : V → List V → Hp → VK → Prop) : Prop :=
  ∀ (pins : List (Addr × Obj)) (s : Shared) (σ : St) (H : Hp) (x : V) (xs : List V) (v : Value) (us : List Value) (Q : VK), Inv X pins σ H s → RelV x v → Vals xs us → r x xs H Q →
    wpAny (model X.prog X.w) X.A (call (.builtin id) (v :: us)) (EP X pins σ Q) X.xe s
section
variable {X : Cx} {a b : Expr} {ta tb : TE} {pos : Pos}
/-- a[b] -/
theorem pe_ix {r : R2} (hr : IxR X r) (ha : PE X a ta) (hb : PE X b tb) (hs : PlainIx b) : PE X (.Subscript a b pos) (tOp r ta tb) := by
  intro pins s σ H Q I h
  exact Subscript_ (binT ha hb I h fun v u s2 x y H2 I2 rx ry q => hr a b pins s2 σ H2 x y v u Q I2 rx ry q (hs _ _))

def rIxL (K : PySem.W.Frag) : R2 := fun x y H Q => ∃ p xs i v, x = .ref p ∧ y = .int i ∧ SqL K H p xs ∧ atI xs i = some v ∧ Q v H
def rIxT (K : PySem.W.Frag) : R2 := fun x y H Q => ∃ p xs i v, x = .ref p ∧ y = .int i ∧ SqT K H p xs ∧ atI xs i = some v ∧ Q v H
def rIxS : R2 := fun x y H Q => ∃ z i c, x = .str z ∧ y = .int i ∧ z.length ≤ sizeLine ∧ atI z.cps.toList i = some c ∧ Q (.str ⟨#[c]⟩) H
theorem ix_list : IxR X (rIxL X.K) := by
  intro value slice pins s σ H x y v u Q I rx ry h hs
  obtain ⟨p, xs, i, z, rfl, rfl, hq, he, q⟩ := h
  cases rx
  obtain ⟨t, rfl⟩ := ry
  obtain ⟨its, r, pl, hz⟩ := I.list hq
  obtain ⟨j, h1, h2, h3, h4, h5⟩ := atI_get he
  obtain ⟨w, ew, rw'⟩ := r.get h2
  have hl := r.length
  have hn := line63
  have fin : EP X pins σ Q w s := ⟨z, H, I, rw', q⟩
  by_cases h0 : 0 ≤ i
  · have hj : i.toNat = j := by
      rw [seqIndex_of h0 h5] at h1
      exact Option.some.inj h1
    exact item_listR pl.isList h0 (by omega) (by rw [hj]; simpa using ew) fin hs
  · have hj : (i + (its.toArray.size : Int)).toNat = j := by
      rw [seqIndex_neg (by omega) h4] at h1
      rw [List.size_toArray, ← hl]
      exact Option.some.inj h1
    exact subscriptTail_builtinR (x := w) pl.isList.typeIs slot_list_getitem.lookup
      (wpAny_getItem_list_neg (Q := fun r s' => r = w ∧ EP X pins σ Q r s') pl.isList (by omega) (by rw [List.size_toArray] <;> omega) (by omega) (by rw [hj]; simpa using ew) ⟨rfl, fin⟩) hs
theorem ix_tup : IxR X (rIxT X.K) := by
  intro value slice pins s σ H x y v u Q I rx ry h hs
  obtain ⟨p, xs, i, z, rfl, rfl, hq, he, q⟩ := h
  cases rx
  obtain ⟨t, rfl⟩ := ry
  obtain ⟨its, r, pl, hz⟩ := I.tuple hq
  obtain ⟨j, h1, h2, h3, h4, h5⟩ := atI_get he
  obtain ⟨w, ew, rw'⟩ := r.get h2
  have hl := r.length
  have hn := line63
  have fin : EP X pins σ Q w s := ⟨z, H, I, rw', q⟩
  exact subscriptTail_builtinR (x := w) pl.typeIs slot_tuple_getitem.lookup
    (getItem_tuple (j := j) (Q := fun r s' => r = w ∧ EP X pins σ Q r s') pl (by omega) (by omega) (by rw [List.size_toArray, ← hl]; exact h1) (by simpa using ew) ⟨rfl, fin⟩) hs
theorem ix_str : IxR X rIxS := by
  intro value slice pins s σ H x y v u Q I rx ry h hs
  obtain ⟨z, i, c, rfl, rfl, hz, he, q⟩ := h
  obtain ⟨t, rfl⟩ := rx
  obtain ⟨t', rfl⟩ := ry
  obtain ⟨j, h1, h2, h3, h4, h5⟩ := atI_get he
  have hl : z.cps.toList.length = z.length := by simp [Str.length]
  rw [hl] at h1 h4 h5
  have hn := line63
  exact tail_any (typeIs_str s z t) slot_str_getitem.lookup (getItem_str (c := c) (by
    have e1 : decide (i < -(2 ^ 63 : Int)) = false := decide_eq_false (by omega)
    have e2 : decide (i ≥ 2 ^ 63) = false := decide_eq_false (by omega)
    rw [e1, e2, Bool.or_false]) (by rw [h1]; simpa using h2) ⟨.str ⟨#[c]⟩, H, I.tok _, ⟨_, rfl⟩, q⟩) hs

/-! ### xs[i] = v, any sign -/
/-- the list's object behind a store -/
theorem mapSeq_set (its : List Value) (n j : Nat) (u : Value) : Obj.mapSeq (·.setIfInBounds j u) { cls := .type "list", data := .seq its.toArray n } = { cls := .type "list", data := .seq (its.set j u).toArray n } := by
  simp [Obj.mapSeq]
theorem Inv.lst {pins : List (Addr × Obj)} {σ : St} {H : Hp} {s : Shared} {p : Addr} {xs : List V} (I : Inv X pins σ H s) (h : H p = some (.lst xs)) :
    ∃ (its : List Value) (n : Nat), Vals xs its ∧ s.heap.get? p = some { cls := .type "list", data := .seq its.toArray n } ∧ xs.length ≤ sizeLine := by
  obtain ⟨z, its, n, r, e⟩ := I.hok p _ h
  exact ⟨its, n, r, e, z⟩
/-- the list at p is written by an update of its object -/
theorem Inv.lstUpd {pins : List (Addr × Obj)} {σ : St} {H : Hp} {s : Shared} {p : Addr} {xs ys : List V} {its its' : List Value} {n n' : Nat} {f : Obj → Obj} (I : Inv X pins σ H s) (h : H p = some (.lst xs))
    (ho : s.heap.get? p = some { cls := .type "list", data := .seq its.toArray n }) (hf : f { cls := .type "list", data := .seq its.toArray n } = { cls := .type "list", data := .seq its'.toArray n' }) (r : Vals ys its') (hz : ys.length ≤ sizeLine) (t : Nat) :
    Inv X pins σ (upd H p (.lst ys)) { s with heap := s.heap.update p f, toks := t } := by
  have e : (s.heap.update p f).get? p = some { cls := .type "list", data := .seq its'.toArray n' } := by
    rw [Heap.get?_update_self f ho (by rw [hf] <;> rfl), hf]
  refine I.write (x := p) (e := p) (by rw [h]; trivial) (.inl rfl) (fun b u hb q => (Heap.get?_update_other _ _ (Ne.symm hb)).trans q) ⟨_, e⟩ ?_
  exact ⟨hz, its', n', r, e⟩
def rSetL : V → V → V → Hp → (Hp → Prop) → Prop := fun o i v H Q => ∃ p xs k j, o = .ref p ∧ i = .int k ∧ H p = some (.lst xs) ∧ ixN xs.length k = some j ∧ Q (upd H p (.lst (xs.set j v)))
theorem set_list : PSet X rSetL := by
  intro pins s σ H o i v ov iv u Q I ro ri rv h
  obtain ⟨p, xs, k, j, rfl, rfl, hp, hj, q⟩ := h
  cases ro
  obtain ⟨t, rfl⟩ := ri
  obtain ⟨its, n, r, ho, hz⟩ := I.lst hp
  obtain ⟨h1, h2, h3, h4⟩ := ixN_seq hj
  have hl := r.length
  have hn := line63
  have I' : Inv X pins σ (upd H p (.lst (xs.set j v))) { s with heap := s.heap.update p (Obj.mapSeq (·.setIfInBounds j u)) } :=
    I.lstUpd hp ho (mapSeq_set its n j u) (r.set rv j) (by rw [List.length_set]; exact hz) s.toks
  by_cases h0 : 0 ≤ k
  · have hk : k.toNat = j := by
      rw [seqIndex_of h0 h4] at h1
      exact Option.some.inj h1
    exact PySem.W.ki_setAt ho h0 (by omega) (by rw [List.size_toArray, ← hl]; exact h4) (by rw [hk]; exact ⟨_, I', q⟩)
  · have hk : (k + (its.toArray.size : Int)).toNat = j := by
      rw [seqIndex_neg (by omega) h3] at h1
      rw [List.size_toArray, ← hl]
      exact Option.some.inj h1
    exact PySem.W.ki_setBack ho (by omega) (by rw [List.size_toArray, ← hl]; exact h3) (by omega) (by rw [hk]; exact ⟨_, I', q⟩)

/-! ### slices -/
theorem slice_bounds (lo hi : Option Int) (n : Nat) : (sliceBounds lo hi none n).1 = ((HT.sIx n 0 lo : Nat) : Int) ∧ (sliceBounds lo hi none n).2.1 = ((HT.sIx n n hi : Nat) : Int) ∧ (sliceBounds lo hi none n).2.2 = 1 := by
  refine ⟨?_, ?_, rfl⟩
  · cases lo with
    | none => simp [sliceBounds, HT.sIx]
    | some i =>
      simp only [sliceBounds, HT.sIx, Option.getD_none, show (1 : Int) > 0 by decide, if_true]
      by_cases h : i < 0
      · simp only [h, if_true] <;> omega
      · simp only [h, if_false] <;> omega
  · cases hi with
    | none => simp [sliceBounds, HT.sIx]
    | some i =>
      simp only [sliceBounds, HT.sIx, Option.getD_none, show (1 : Int) > 0 by decide, if_true]
      by_cases h : i < 0
      · simp only [h, if_true] <;> omega
      · simp only [h, if_false] <;> omega
theorem slicePick_cut (its : List Value) (lo hi : Option Int) : slicePick its.toArray lo hi none = ((its.drop (HT.sIx its.length 0 lo)).take (HT.sIx its.length its.length hi - HT.sIx its.length 0 lo)).toArray := by
  obtain ⟨h1, h2, h3⟩ := slice_bounds lo hi its.toArray.size
  unfold slicePick
  rw [h1, h2, h3]
  simp only [sliceRange_one, pick_run, List.size_toArray] <;> rfl
/-- xs[lo:hi] of a list: a new list -/
def rSlL (K : PySem.W.Frag) : V → Option Int → Option Int → Hp → VK → Prop := fun x lo hi H Q => ∃ a xs, x = .ref a ∧ SqL K H a xs ∧ ∀ p, H p = none → Q (.ref p) (upd H p (.lst (cutV xs lo hi)))
theorem sl_list : SlR X (rSlL X.K) := by
  intro pins s σ H x v vl vu lo hi sl Q I rx hs pl pu h
  obtain ⟨a, xs, rfl, hx, q⟩ := h
  cases rx
  obtain ⟨its, r, ht, hz⟩ := I.list hx
  have hlen := r.length
  refine ⟨"list", _, slot_list_getitem.lookup, ht.isList.typeIs, ?_⟩
  refine wpAny_getItem_list_slice ht.isList hs pl pu .none (by simp) ?_ (by rw [List.size_toArray] <;> omega)
  rw [slicePick_cut, ← hlen]
  refine ⟨.ref s.heap.objs.size, _, I.laid (t' := s.toks) (o := .lst (cutV xs lo hi)) (fun b ob q => Heap.get?_push_of_some _ q) (Nat.le_refl _) ?_, rfl, q _ (I.hok.fresh (Nat.le_refl _))⟩
  exact ⟨Nat.le_trans (cutV_length xs lo hi) hz, _, 0, (r.drop (HT.sIx xs.length 0 lo)).take (HT.sIx xs.length xs.length hi - HT.sIx xs.length 0 lo), Heap.get?_push_size _ rfl⟩

/-! ### in, not in: flat items -/
def flatV : V → Bool
  | .non => true
  | .bl _ => true
  | .int _ => true
  | .str _ => true
  | _ => false
/-- == of flat values -/
def eqV : V → V → Bool
  | .non, .non => true
  | .bl a, .bl b => a == b
  | .bl a, .int b => (if a then 1 else 0) == b
  | .int a, .bl b => a == (if b then 1 else 0)
  | .int a, .int b => a == b
  | .str a, .str b => a == b
  | _, _ => false
theorem eqAt_V {A : Around} {s : Shared} {y x : V} {u v : Value} (ry : RelV y u) (rx : RelV x v) (fy : flatV y = true) (fx : flatV x = true) : SeqAt.EqAt A s u v (eqV y x) := by
  cases y with
  | non =>
    cases ry
    cases x with
    | non => cases rx; exact SeqAt.EqAt.same _
    | bl b => cases rx; exact SeqAt.EqAt.none_bool b
    | int b => obtain ⟨t, rfl⟩ := rx; exact SeqAt.EqAt.none_int b t
    | str b => obtain ⟨t, rfl⟩ := rx; exact SeqAt.EqAt.none_str b t
    | _ => exact absurd (show false = true from fx) Bool.false_ne_true
  | bl a =>
    cases ry
    cases x with
    | non => cases rx; exact SeqAt.EqAt.bool_none a
    | bl b => cases rx; exact SeqAt.EqAt.bool_bool a b
    | int b => obtain ⟨t, rfl⟩ := rx; exact SeqAt.EqAt.bool_int a b t
    | str b => obtain ⟨t, rfl⟩ := rx; exact SeqAt.EqAt.bool_str a b t
    | _ => exact absurd (show false = true from fx) Bool.false_ne_true
  | int a =>
    obtain ⟨t', rfl⟩ := ry
    cases x with
    | non => cases rx; exact SeqAt.EqAt.int_none a t'
    | bl b => cases rx; exact SeqAt.EqAt.int_bool a t' b
    | int b => obtain ⟨t, rfl⟩ := rx; exact SeqAt.EqAt.int_int a t' b t
    | str b => obtain ⟨t, rfl⟩ := rx; exact SeqAt.EqAt.int_str a t' b t
    | _ => exact absurd (show false = true from fx) Bool.false_ne_true
  | str a =>
    obtain ⟨t', rfl⟩ := ry
    cases x with
    | non => cases rx; exact SeqAt.EqAt.str_none a t'
    | bl b => cases rx; exact SeqAt.EqAt.str_bool a t' b
    | int b => obtain ⟨t, rfl⟩ := rx; exact SeqAt.EqAt.str_int a t' b t
    | str b => obtain ⟨t, rfl⟩ := rx; exact SeqAt.EqAt.str_str a t' b t
    | _ => exact absurd (show false = true from fx) Bool.false_ne_true
  | _ => exact absurd (show false = true from fy) Bool.false_ne_true
/-- the items' answers, read off the values (a value's own answer does not lean on its token) -/
def eqU (x : V) (u : Value) : Bool := match u with
  | .none => eqV .non x
  | .bool b => eqV (.bl b) x
  | .int i _ => eqV (.int i) x
  | .str z _ => eqV (.str z) x
  | _ => false
theorem eqU_of {x y : V} {u : Value} (r : RelV y u) (f : flatV y = true) : eqU x u = eqV y x := by
  cases y with
  | non => cases r; rfl
  | bl b => cases r; rfl
  | int i => obtain ⟨t, rfl⟩ := r; rfl
  | str z => obtain ⟨t, rfl⟩ := r; rfl
  | _ => exact absurd (show false = true from f) Bool.false_ne_true
theorem any_eqU {x : V} : ∀ {xs : List V} {us : List Value}, Vals xs us → xs.all flatV = true → us.any (eqU x) = xs.any fun y => eqV y x
  | _, _, .nil, _ => rfl
  | y :: xs, u :: us, .cons r t, f => by
    rw [List.all_cons, Bool.and_eq_true] at f
    rw [List.any_cons, List.any_cons, eqU_of r f.1, any_eqU t f.2]
theorem mem_eqAt {A : Around} {s : Shared} {x : V} {v : Value} (rx : RelV x v) (fx : flatV x = true) : ∀ {xs : List V} {us : List Value}, Vals xs us → xs.all flatV = true → ∀ u ∈ us, SeqAt.EqAt A s u v (eqU x u)
  | _, _, .nil, _ => fun u hu => by cases hu
  | y :: xs, u :: us, .cons r t, f => fun u' hu => by
    rw [List.all_cons, Bool.and_eq_true] at f
    rcases List.mem_cons.mp hu with rfl | hu
    · rw [eqU_of r f.1]; exact eqAt_V r rx f.1 fx
    · exact mem_eqAt rx fx t f.2 u' hu
def inV (x : V) (xs : List V) : Bool := xs.any fun y => eqV y x
/-- x in a list or tuple of flat items -/
def rIn (K : PySem.W.Frag) (neg : Bool) : R2 := fun x y H Q => ∃ p xs, y = .ref p ∧ (SqL K H p xs ∨ SqT K H p xs) ∧ flatV x = true ∧ xs.all flatV = true ∧ Q (.bl (if neg then !inV x xs else inV x xs)) H
theorem op_notIn_seq : OpR X (compareOp .NotIn) (rIn X.K true) := by
  intro pins s σ H x y v u Q I rx ry h
  obtain ⟨p, xs, rfl, hq, fx, fs, q⟩ := h
  cases ry
  rcases hq with hq | hq
  · obtain ⟨its, r, pl, hz⟩ := I.list hq
    refine SeqAt.notIn_listAt (eqU x) pl.isList (fun w hw => mem_eqAt rx fx r fs w (by simpa using hw)) ⟨.bl _, H, I, rfl, ?_⟩
    rw [show its.toArray.any (eqU x) = its.any (eqU x) by simp, any_eqU r fs]
    exact q
  · obtain ⟨its, r, pl, hz⟩ := I.tuple hq
    refine SeqAt.notIn_tupleAt (eqU x) pl (fun w hw => mem_eqAt rx fx r fs w (by simpa using hw)) ⟨.bl _, H, I, rfl, ?_⟩
    rw [show its.toArray.any (eqU x) = its.any (eqU x) by simp, any_eqU r fs]
    exact q

/-! ### len, list(x), tuple(x) of any list or tuple that is read -/
theorem call_len_seq : CallR X (.builtin "len") (fun xs H Q => ∃ p ys, xs = [.ref p] ∧ (SqL X.K H p ys ∨ SqT X.K H p ys) ∧ Q (.int ys.length) H) := by
  intro pins s σ H xs us Q I r h
  obtain ⟨p, ys, rfl, hq, q⟩ := h
  obtain ⟨u, rfl, rx⟩ := vals1 r
  cases rx
  have hn := line63
  rcases hq with hq | hq
  · obtain ⟨its, r', pl, hz⟩ := I.list hq
    have hlen := r'.length
    exact Calls.call_len_list pl.isList (by simp only [List.size_toArray] <;> omega) ⟨.int ys.length, H, I.tok _, ⟨s.toks + 1, by rw [List.size_toArray, hlen]⟩, q⟩
  · obtain ⟨its, r', pl, hz⟩ := I.tuple hq
    have hlen := r'.length
    exact len_tuple pl (by simp only [List.size_toArray] <;> omega) ⟨.int ys.length, H, I.tok _, ⟨s.toks + 1, by rw [List.size_toArray, hlen]⟩, q⟩
theorem call_list_of : CallR X (.type "list") (fun xs H Q => ∃ p ys, xs = [.ref p] ∧ (SqL X.K H p ys ∨ SqT X.K H p ys) ∧ ∀ l, H l = none → Q (.ref l) (upd H l (.lst ys))) := by
  intro pins s σ H xs us Q I r h
  obtain ⟨p, ys, rfl, hq, q⟩ := h
  obtain ⟨u, rfl, rx⟩ := vals1 r
  cases rx
  have fin : ∀ (its : List Value), Vals ys its → ys.length ≤ sizeLine → ∀ (h' : Heap) (c' : Nat), (∀ b o', s.heap.get? b = some o' → h'.get? b = some o') →
      h'.get? s.heap.objs.size = some { cls := .type "list", dict := none, data := .seq its.toArray c', slots := #[] } → EP X pins σ Q (.ref s.heap.objs.size) { s with heap := h' } := fun its r' hz h' c' kp e =>
    ⟨.ref s.heap.objs.size, _, I.laid (t' := s.toks) kp (Nat.le_refl _) (show ObjOk X.prog X.w _ h' _ (.lst ys) from ⟨hz, its, c', r', e⟩), rfl, q _ (I.hok.fresh (Nat.le_refl _))⟩
  rcases hq with hq | hq
  · obtain ⟨its, r', pl, hz⟩ := I.list hq
    have hlen := r'.length
    obtain ⟨o, ho, hc, n, hd⟩ := pl.isList
    exact call_list_seq p (.inl rfl) ho hc hd (fun h' c' kp e => fin its r' hz h' c' kp e) (by simp only [List.size_toArray] <;> omega)
  · obtain ⟨its, r', pl, hz⟩ := I.tuple hq
    have hlen := r'.length
    obtain ⟨o, ho, hc, n, hd⟩ := pl
    exact call_list_seq p (.inr rfl) ho hc hd (fun h' c' kp e => fin its r' hz h' c' kp e) (by simp only [List.size_toArray] <;> omega)

/-! ### the call of a builtin's method: o.m(..) -/
/-- the value is of that builtin type -/
def tyV (K : PySem.W.Frag) (T : String) (x : V) (H : Hp) : Prop := match x with
  | .str _ => T = "str"
  | .int _ => T = "int"
  | .ref p => (T = "list" ∧ ∃ xs, SqL K H p xs) ∨ (T = "tuple" ∧ ∃ o, K.lookup p = some o ∧ o.cls = .type "tuple" ∧ o.dict = none) ∨
      (T = "dict" ∧ ((∃ kvs, H p = some (.dK kvs)) ∨ ∃ kvs, H p = some (.dT kvs))) ∨ (T = "set" ∧ ∃ S n, H p = some (.set S n))
  | _ => False
theorem tyV_is {pins : List (Addr × Obj)} {σ : St} {H : Hp} {s : Shared} {T : String} {x : V} {v : Value} (I : Inv X pins σ H s) (r : RelV x v) (ty : tyV X.K T x H) :
    s.TypeIs v T ∧ ∀ a, v = .ref a → ∃ ob, s.heap.get? a = some ob ∧ ob.dict = none := by
  cases x with
  | str z =>
    obtain ⟨t, rfl⟩ := r
    cases (show T = "str" from ty)
    exact ⟨typeIs_str s z t, fun _ e => nomatch e⟩
  | int i =>
    obtain ⟨t, rfl⟩ := r
    cases (show T = "int" from ty)
    exact ⟨typeIs_int s i t, fun _ e => nomatch e⟩
  | ref p =>
    cases r
    rcases ty with ⟨rfl, xs, hq⟩ | ⟨rfl, o, hk, hc, hd⟩ | ⟨rfl, hk⟩ | ⟨rfl, S, n, hk⟩
    · obtain ⟨its, _, pl, _⟩ := I.list hq
      refine ⟨pl.isList.typeIs, fun a e => ?_⟩
      cases e
      obtain ⟨o, n, e, c, hd, _⟩ := pl
      exact ⟨o, e, hd⟩
    · refine ⟨⟨o, I.kIn p o hk, hc⟩, fun a e => ?_⟩
      cases e
      exact ⟨o, I.kIn _ o hk, hd⟩
    · have z : ∃ o, s.heap.get? p = some o ∧ o.ExactDict := by
        rcases hk with ⟨kvs, hk⟩ | ⟨kvs, hk⟩
        · obtain ⟨_, _, _, _, o, _, _, e, ex, _⟩ := I.hok p _ hk
          exact ⟨o, e, ex⟩
        · obtain ⟨_, _, _, _, o, _, _, e, ex, _⟩ := I.hok p _ hk
          exact ⟨o, e, ex⟩
      obtain ⟨o, e, ex⟩ := z
      refine ⟨⟨o, e, ex.1⟩, fun a e2 => ?_⟩
      cases e2
      exact ⟨o, e, ex.2.1⟩
    · obtain ⟨o, _, _, _, e, ex, _⟩ := I.hok p _ hk
      refine ⟨⟨o, e, ex.1⟩, fun a e2 => ?_⟩
      cases e2
      exact ⟨o, e, ex.2.1⟩
  | _ => exact False.elim ty
def tBM0 (K : PySem.W.Frag) (T : String) (r : V → List V → Hp → VK → Prop) (to : TE) : TE := fun σ H Q => to σ H fun x H1 => tyV K T x H1 ∧ r x [] H1 Q
def tBM (K : PySem.W.Frag) (T : String) (r : V → List V → Hp → VK → Prop) (to : TE) (t : TA) : TE := fun σ H Q => to σ H fun x H1 => tyV K T x H1 ∧ t σ H1 fun xs H2 => r x xs H2 Q
variable {o e : Expr} {es : List Expr} {to : TE} {t : TA} {name : Str} {apos cpos : Pos} {T id : String} {r : V → List V → Hp → VK → Prop}
theorem pe_bm0 (pa : PlainAttrs T) (slot : Slot T name id) (hty : typeOf (.builtin id) = pure (.type "method_descriptor")) (hm : MtR X id r) (ho : PE X o to)
    (hbase : attributeBase o name X.env (eval o X.env) = eval o X.env := by rfl) (hline : (apos.endLine == cpos.line) = true := by rfl) : PE X (.Call (.Attribute o name apos) [] [] cpos) (tBM0 X.K T r to) := by
  intro pins s σ H Q I h
  refine wpAny_Call_method0_late hbase hline (thn (ho pins s σ H _ I h) fun v s1 ⟨x, H1, I1, r1, ty, q1⟩ => ?_)
  obtain ⟨h1, h2⟩ := tyV_is I1 r1 ty
  exact ⟨T, id, pa, slot, hty, h1, h2, Calls.callWith_builtin rfl (PySem.evalArgs_none (hm pins s1 σ H1 x [] v [] Q I1 r1 .nil q1))⟩
theorem pe_bm (pa : PlainAttrs T) (slot : Slot T name id) (hty : typeOf (.builtin id) = pure (.type "method_descriptor")) (hm : MtR X id r) (ho : PE X o to) (ha : PA X (e :: es) t)
    (hbase : attributeBase o name X.env (eval o X.env) = eval o X.env := by rfl)
    (hfew : ((backTo cpos (starEach (e :: es) X.env)).all (fun x => !x.1) && (backToKw cpos (keywordEach [] X.env)).all (fun x => x.1.isSome)
      && decide ((e :: es).length + ([] : List Keyword).length + (if ([] : List Keyword).isEmpty then 0 else 1) < 30)) = true := by rfl)
    (hline : (apos.endLine == cpos.line) = true := by rfl) (hs : starEach (e :: es) X.env = (false, eval e X.env) :: starEach es X.env := by rfl) (hplain : (backTo cpos (starEach es X.env)).any (·.1) = false := by rfl) :
    PE X (.Call (.Attribute o name apos) (e :: es) [] cpos) (tBM X.K T r to t) := by
  intro pins s σ H Q I h
  refine wpAny_Call_method_late hbase hfew hline rfl (thn (ho pins s σ H _ I h) fun v s1 ⟨x, H1, I1, r1, ty, q1⟩ => ?_)
  obtain ⟨h1, h2⟩ := tyV_is I1 r1 ty
  refine ⟨T, id, pa, slot, hty, h1, h2, ?_⟩
  have hA := ha cpos pins s1 σ H1 _ I1 q1
  rw [hs] at hA ⊢
  refine Calls.callWith_builtin (by show (false || (backTo cpos (starEach es X.env)).any (·.1)) = false; rw [hplain] <;> rfl) (Calls.evalArgs_plain ?_)
  exact thn hA fun us s2 ⟨vs, H2, I2, r2, q2⟩ => hm pins s2 σ H2 x vs v us Q I2 r1 r2 q2
/- xs.append(e), list.index on a module's tuple .. are MtR facts of 06m -/
end
end L2

namespace L2
open PySem PySem.Spec PyProof.Rows

def MtM (X : Cx) (id : String) (r : V → List V → Hp → VK → Prop) : Prop :=
  ∀ (pins : List (Addr × Obj)) (s : Shared) (σ : St) (H : Hp) (x : V) (xs : List V) (v : Value) (us : List Value) (Q : VK), Inv X pins σ H s → RelV x v → Vals xs us → r x xs H Q →
    wpAny (model X.prog X.w) X.A (call (.builtin id) (v :: us)) (EP X pins σ Q) X.xe s

/-! ### lists of values -/
theorem Vals.one : ∀ {x : V} {us : List Value}, Vals [x] us → ∃ u, us = [u] ∧ RelV x u
  | _, _, .cons r .nil => ⟨_, rfl, r⟩
theorem Vals.zero : ∀ {us : List Value}, Vals [] us → us = []
  | _, .nil => rfl
theorem Vals.dropLast {xs : List V} {us : List Value} (h : Vals xs us) : Vals xs.dropLast us.dropLast := by
  induction h with
  | nil => exact .nil
  | cons r t ih =>
    cases t with
    | nil => exact .nil
    | cons q t' => exact .cons r ih
theorem Vals.rep {xs : List V} {us : List Value} (h : Vals xs us) : ∀ k : Nat, Vals (List.replicate k xs).flatten (List.replicate k us).flatten
  | 0 => .nil
  | k + 1 => by
    rw [List.replicate_succ, List.replicate_succ, List.flatten_cons, List.flatten_cons]
    exact Vals.append h (Vals.rep h k)
theorem erase_last {α : Type} (l : List α) : l.eraseIdx (l.length - 1) = l.dropLast := by
  induction l with
  | nil => rfl
  | cons a r ih =>
    cases r with
    | nil => rfl
    | cons b r =>
      have e : (a :: b :: r).length - 1 = ((b :: r).length - 1) + 1 := by
        have h1 : (a :: b :: r).length = r.length + 2 := rfl
        have h2 : (b :: r).length = r.length + 1 := rfl
        omega
      rw [e, List.eraseIdx_cons_succ, ih]
      all_goals rfl
theorem foldl_rep (its : List Value) : ∀ (k : Nat) (acc : List Value),
    List.foldl (fun x1 x2 => x1 ++ x2) acc.toArray (List.replicate k its.toArray) = (acc ++ (List.replicate k its).flatten).toArray
  | 0, acc => by simp
  | k + 1, acc => by
    have e : acc.toArray ++ its.toArray = (acc ++ its).toArray := by simp
    have e2 : (acc ++ its) ++ (List.replicate k its).flatten = acc ++ (List.replicate (k + 1) its).flatten := by
      rw [List.replicate_succ, List.flatten_cons, List.append_assoc]
    rw [← e2, ← foldl_rep its k (acc ++ its), ← e, List.replicate_succ, List.foldl_cons]

section
variable {X : Cx} {pins : List (Addr × Obj)} {σ : St} {H : Hp} {s : Shared} {l b : Addr} {xs ys zs : List V}

/-! ### the two steps: a tracked list is rewritten, a new list is laid -/
theorem Inv.lset {its its' : List Value} {n : Nat} {f : Array Value → Array Value} {t' : Nat} (I : Inv X pins σ H s) (hH : H l = some (.lst xs))
    (e : s.heap.get? l = some { cls := .type "list", data := .seq its.toArray n }) (hf : f its.toArray = its'.toArray) (hv : Vals ys its') (hz : ys.length ≤ sizeLine) :
    Inv X pins σ (upd H l (.lst ys)) { s with heap := s.heap.update l (Obj.mapSeq f), toks := t' } := by
  have q := PySem.IsL.update e f
  rw [hf] at q
  refine I.write (x := l) (e := l) (by rw [hH]; exact trivial) (.inl rfl) (fun b' u hb hu => (Heap.get?_update_other s.heap (Obj.mapSeq f) (Ne.symm hb)).trans hu) ⟨_, q⟩ ?_
  exact ⟨hz, its', _, hv, q⟩
theorem Inv.lnew {its : List Value} {t' : Nat} (I : Inv X pins σ H s) (hv : Vals ys its) (hz : ys.length ≤ sizeLine) :
    Inv X pins σ (upd H s.heap.objs.size (.lst ys)) { s with heap := s.heap.push { cls := .type "list", data := .seq its.toArray }, toks := t' } :=
  I.laid (fun _ _ q => Heap.get?_push_of_some _ q) (Nat.le_refl _) ⟨hz, its, 0, hv, Heap.get?_push_size _ rfl⟩
theorem Inv.fresh (I : Inv X pins σ H s) : H s.heap.objs.size = none := I.hok.fresh (Nat.le_refl _)
theorem Inv.lstM (I : Inv X pins σ H s) (hH : H l = some (.lst xs)) : xs.length ≤ sizeLine ∧ ∃ (its : List Value) (n : Nat), Vals xs its ∧ xs.length = its.length ∧ s.heap.get? l = some { cls := .type "list", data := .seq its.toArray n } := by
  obtain ⟨z, its, n, r, e⟩ := I.hok l _ hH
  exact ⟨z, its, n, r, r.length, e⟩

theorem notLongL {n : Nat} (h : n ≤ sizeLine) : Builtin.List.listTooLong n = false := by
  unfold Builtin.List.listTooLong
  exact decide_eq_false (by omega)
end

section
variable {X : Cx}

/-! ### methods -/
def rAppend : V → List V → Hp → VK → Prop := fun x vs H Q => ∃ l xs y, x = .ref l ∧ vs = [y] ∧ H l = some (.lst xs) ∧ xs.length < sizeLine ∧ Q .non (upd H l (.lst (xs ++ [y])))
theorem mt_append : MtM X "list.append" rAppend := by
  intro pins s σ H x vs v us Q I rx rv h
  obtain ⟨l, xs, y, rfl, rfl, hH, hz, q⟩ := h
  cases rx
  obtain ⟨u, rfl, ru⟩ := rv.one
  obtain ⟨z, its, n, r, hl, e⟩ := I.lstM hH
  refine call_meets F.slot_list_append ⟨_, e, rfl⟩ F.entry_list_append (F.args_list_append_2 _ _) (PySem.list_append l its.toArray n u (by rw [List.size_toArray]; omega)) ⟨e, ?_⟩
  refine ⟨.non, _, I.lset (its' := its ++ [u]) hH e (by simp) (r.append (.cons ru .nil)) ?_, rfl, q⟩
  rw [List.length_append, List.length_singleton]
  omega

def rExtend : V → List V → Hp → VK → Prop := fun x vs H Q => ∃ l b xs zs, x = .ref l ∧ vs = [.ref b] ∧ H l = some (.lst xs) ∧ H b = some (.lst zs) ∧ xs.length + zs.length ≤ sizeLine ∧ Q .non (upd H l (.lst (xs ++ zs)))
theorem mt_extend : MtM X "list.extend" rExtend := by
  intro pins s σ H x vs v us Q I rx rv h
  obtain ⟨l, b, xs, zs, rfl, rfl, hH, hB, hz, q⟩ := h
  cases rx
  obtain ⟨u, rfl, ru⟩ := rv.one
  cases ru
  obtain ⟨z, its, n, r, hl, e⟩ := I.lstM hH
  obtain ⟨z2, its2, n2, r2, hl2, e2⟩ := I.lstM hB
  have hsz : its.toArray.size + its2.toArray.size ≤ sizeLine := by rw [List.size_toArray, List.size_toArray]; omega
  have hlong : ¬ (!its.toArray.isEmpty && Builtin.List.listTooLong (its.toArray.size + its2.toArray.size)) = true := by
    rw [notLongL hsz, Bool.and_false]
    exact Bool.false_ne_true
  refine call_meets F.slot_list_extend ⟨_, e, rfl⟩ F.entry_list_extend (F.args_list_extend_2 _ _)
    (AutoSeq1.list_extend_list_list_0 l its.toArray n b its2.toArray n2 hlong (by rw [List.size_toArray]; omega) (by omega)) ⟨e, e2, ?_⟩
  refine ⟨.non, _, I.lset (its' := its ++ its2) hH e (by simp) (r.append r2) ?_, rfl, q⟩
  rw [List.length_append]
  omega

def rPop : V → List V → Hp → VK → Prop := fun x vs H Q => ∃ l xs y, x = .ref l ∧ vs = [] ∧ H l = some (.lst xs) ∧ xs[xs.length - 1]? = some y ∧ Q y (upd H l (.lst xs.dropLast))
theorem mt_pop : MtM X "list.pop" rPop := by
  intro pins s σ H x vs v us Q I rx rv h
  obtain ⟨l, xs, y, rfl, rfl, hH, hy, q⟩ := h
  cases rx
  have hus := rv.zero
  subst hus
  obtain ⟨z, its, n, r, hl, e⟩ := I.lstM hH
  obtain ⟨u, hu, ru⟩ := r.get hy
  have hy' : its.toArray[its.toArray.size - 1]? = some u := by
    show its.toArray[its.length - 1]? = some u
    rw [← Array.getElem?_toList, ← hl]
    exact hu
  refine call_meets F.slot_list_pop ⟨_, e, rfl⟩ F.entry_list_pop (F.args_list_pop_1 _) (MeetsSeq.list_pop_last l its.toArray n u hy' (by rw [List.size_toArray]; omega)) ⟨e, ?_⟩
  refine ⟨y, _, I.lset (its' := its.dropLast) hH e ?_ r.dropLast ?_, ru, q⟩
  · show its.toArray.eraseIdxIfInBounds (its.toArray.size - 1) = its.dropLast.toArray
    rw [List.size_toArray, List.eraseIdxIfInBounds_toArray, erase_last]
  · rw [List.length_dropLast]
    omega




/-! ### list + list, list += list, list * int -/
def rCat : R2 := fun x y H Q => ∃ l b xs zs, x = .ref l ∧ y = .ref b ∧ H l = some (.lst xs) ∧ H b = some (.lst zs) ∧ xs.length + zs.length ≤ sizeLine ∧ ∀ p, H p = none → Q (.ref p) (upd H p (.lst (xs ++ zs)))
theorem op_cat : OpR X (binaryOp .Add) rCat := by
  intro pins s σ H x y v u Q I rx ry h
  obtain ⟨l, b, xs, zs, rfl, rfl, hH, hB, hz, q⟩ := h
  cases rx
  cases ry
  obtain ⟨z, its, n, r, hl, e⟩ := I.lstM hH
  obtain ⟨z2, its2, n2, r2, hl2, e2⟩ := I.lstM hB
  refine PySem.P.add_list e e2 ?_ (by rw [List.size_toArray, List.size_toArray]; omega)
  have ea : its.toArray ++ its2.toArray = (its ++ its2).toArray := by simp
  rw [ea]
  exact ⟨.ref _, _, I.lnew (t' := s.toks) (r.append r2) (by rw [List.length_append]; omega), rfl, q _ I.fresh⟩
/-- a list times an int (a negative one is nothing) -/
def rRep : R2 := fun x y H Q => ∃ l k xs, x = .ref l ∧ y = .int k ∧ H l = some (.lst xs) ∧ -(2 ^ 63) ≤ k ∧ k < 2 ^ 63 ∧ xs.length * k.toNat ≤ sizeLine ∧
  ∀ p, H p = none → Q (.ref p) (upd H p (.lst (List.replicate k.toNat xs).flatten))
theorem len_rep {α : Type} (xs : List α) (k : Nat) : (List.replicate k xs).flatten.length = k * xs.length := by
  induction k with
  | zero => simp
  | succ k ih => rw [List.replicate_succ, List.flatten_cons, List.length_append, ih, Nat.succ_mul, Nat.add_comm]
theorem op_rep : OpR X (binaryOp .Mult) rRep := by
  intro pins s σ H x y v u Q I rx ry h
  obtain ⟨l, k, xs, rfl, rfl, hH, h1, h2, hz, q⟩ := h
  cases rx
  obtain ⟨t, rfl⟩ := ry
  obtain ⟨z, its, n, r, hl, e⟩ := I.lstM hH
  have hlen : its.toArray.size * k.toNat ≤ sizeLine := by rw [List.size_toArray, ← hl]; exact hz
  have hcap : ¬ its.toArray.size * k.toNat > (2 ^ 63 - 1) / 8 := by
    have : (sizeLine : Nat) ≤ (2 ^ 63 - 1) / 8 := by decide
    omega
  have hfit : ¬ (!Builtin.List.listFitsIndex k) = true := by
    rw [fitsIndex_both h1 h2]
    exact Bool.false_ne_true
  have hlong : ¬ Builtin.List.listTooLong (its.toArray.size * k.toNat) = true := by
    rw [notLongL hlen]
    exact Bool.false_ne_true
  have hnew : List.foldl (fun x1 x2 => x1 ++ x2) #[] (List.replicate (if its.toArray.isEmpty = true then 0 else k.toNat) its.toArray) = (List.replicate k.toNat its).flatten.toArray := by
    have f0 : ∀ m : Nat, List.foldl (fun x1 x2 => x1 ++ x2) #[] (List.replicate m its.toArray) = (List.replicate m its).flatten.toArray := fun m => by
      have := foldl_rep its m []
      rw [List.nil_append] at this
      exact this
    rw [f0]
    cases its with
    | nil => simp
    | cons a r' => rw [if_neg (by simp)]
  refine wpAny_binaryOp_repeat_ref (T := "list") (U := "int") (by decide) ⟨_, e, rfl⟩ (fun s' => typeIs_int s' k t) noFill_list_mul F.fills_int_mul F.slot_int_rmul repeat_list F.slot_int_index.lookup
    (call_meets F.slot_int_rmul (typeIs_int s k t) F.entry_int_rmul (F.args_int_rmul_2 _ _) (int___rmul___int_list k t l its.toArray n)
      ⟨e, rfl, ⟨_, e, rfl⟩, call_meets F.slot_list_mul ⟨_, e, rfl⟩ F.entry_list_mul (F.args_list_mul_2 _ _) (AutoListH.list___mul___list_int_3 l its.toArray n k t hfit hcap hlong) ⟨e, ?_⟩⟩)
  rw [hnew]
  exact ⟨.ref _, _, I.lnew (t' := s.toks) (r.rep k.toNat) (by rw [len_rep, Nat.mul_comm]; exact hz), rfl, q _ I.fresh⟩

/-! ### del xs[i] -/
end

/-! ### xs[a:b] = ys -/
section
variable {prog : Program} {w : World} {A : Around} {E : Value → Shared → Prop} {s : Shared}
set_option maxRecDepth 100000 in
end

section
variable {X : Cx}
end
end L2

namespace Att
open PySem PySem.W PySem.Calls PyProof.Rows

/-! ### the script -/
theorem ints_of_wellAll {P : Params} {h : Heap} : ∀ (ns : List Int) (vs : List Value), WellAll P h vs (ns.map WData.int) → IntsAre vs ns := by
  intro ns
  induction ns with
  | nil =>
    intro vs w
    rw [List.map_nil] at w
    cases w
    exact .nil
  | cons n ns ih =>
    intro vs w
    rw [List.map_cons] at w
    cases w with
    | cons a b =>
      cases a
      exact .cons _ _ (ih _ b)

theorem script_of {l : OpenLaw} {n : Nat} (hn : l.most = some n) {P : Params} {h : Heap} {args : List WData} {vals : List Value}
    (hpre : l.row.toRowW.claim.pre args = true) (hwl : WellAll P h vals args) :
    ∃ a vs ns, vals = [Value.ref a] ∧ args = [WData.list (ns.map WData.int)] ∧ h.get? a = some { cls := .type "list", data := .seq vs.toArray } ∧ IntsAre vs ns ∧ ns.length ≤ n := by
  have hsh : WShape.hasAll [] args [.list .int] = true := (pre_splitW hpre).1
  have hc : l.pre.holds [] { args := args } = true := (pre_splitW hpre).2
  obtain ⟨d, r, rfl, h1, h2⟩ := hasAllW_cons hsh
  obtain rfl := hasAllW_nil h2
  obtain ⟨xs, rfl, h3⟩ := hasW_list h1
  obtain ⟨ns, rfl⟩ := items_int h3
  have hlen : ns.length ≤ n := by
    unfold OpenLaw.pre at hc
    have h4 : (WTm.not (.lt (.lit (.int (n : Int))) (.len (.arg 0)))).holds [] { args := [.list (ns.map .int)] } = true := by
      have h4 := (holds_andW hc).1
      rw [hn] at h4
      exact h4
    have h5 := condW_of h4 (w_not (w_lt w_lit (w_len_list (w_arg rfl))))
    rw [List.length_map] at h5
    refine Nat.le_of_not_lt fun q => ?_
    have q' : (n : Int) < ((ns.length : Nat) : Int) := by omega
    first
      | (rw [decide_eq_true q'] at h5; exact absurd h5 (by decide))
      | (simp at h5; omega)
  cases hwl with
  | cons w1 w2 =>
    cases w2
    cases w1 with
    | list ho hall => exact ⟨_, _, ns, rfl, rfl, ho, ints_of_wellAll ns _ hall, hlen⟩

theorem post_true (l : OpenLaw) (args : List WData) : l.row.toRowW.claim.post args (.bool true) args = true :=
  postW_of (r := l.row.toRowW) (X := (true == true))
    (show WShape.has [] (.bool true) .bool = true by first | rfl | decide | simp [WShape.has, WShape.arms, WShape.armsAll])
    (show (WTm.eq .res (.lit (.bool true))).value [] { args := args, res := some (.bool true), after := args } = some (.bool (true == true)) from w_eq_bool (w_res rfl) w_lit) rfl

/-! ### the attachment: holds_open's last premise (the goal 'hc' behind k_head) from a wpAny of the law's body -/

/-- the same from a codeAny of the CALL (for a layer whose function contracts speak of calls) -/
theorem attach_call {l : OpenLaw} {n : Nat} {q : Program} {loose : List Str} {XP : (Str → Option Value) → Heap → Prop} {YP : World → Heap → Prop} {d : DefRec}
    (hn : l.most = some n) (hdf : d.params.defaults = [])
    (call : ∀ (w : World) (s₀ s₁ : Shared) (mg mb : Str → Option Value) (fa : Addr) (o : Obj) (pm cd doc : Value) (a : Addr) (vs : List Value) (ns : List Int),
      Ground q loose [] XP w s₀ mg mb s₁.heap → YP w s₁.heap →
      s₁.heap.get? fa = some o → o.data = .func (docDef d.name d.params d.body d.scope pm cd doc) → s₁.heap.CodeRec cd d.name → mg d.name = some (.ref fa) →
      s₁.heap.get? a = some { cls := .type "list", data := .seq vs.toArray } → IntsAre vs ns → ns.length ≤ n → s₁.gens = #[] →
      codeAny (model l.prog w) callerA (.call (.ref fa) ⟨[.ref a], []⟩) (fun r s' => r = .ok (.ret (.bool true)) ∧ OldK s₁.heap s'.heap ∧ s'.os = s₁.os ∧ AllBare s'.gens) s₁) :
    WalkO q loose XP YP l.row.toRowW d [] (fun f vs => PySem.call f vs) := by
  intro w s₀ s₁ mg mb G Y fa o pm cd doc dV kV ho hd hcd hD hmg hg args vals as hpre hlay hrd hwl hlo
  obtain rfl : dV = .none := Dflts.none hD hdf
  obtain rfl : kV = .none := Dflts.noKw hD
  obtain ⟨a, vs, ns, rfl, rfl, hobj, hints, hlen⟩ := script_of hn hpre hwl
  refine enter_call (codeAny_mono (call w s₀ s₁ mg mb fa o pm cd doc a vs ns G Y ho (fd_plain hd) hcd hmg hobj hints hlen hg) fun r s' hq => ?_)
  obtain ⟨rfl, h2, h3, h4⟩ := hq
  exact ⟨.inl ⟨.bool true, .bool true, [], rfl, fun _ => rfl, .bool true, post_true l _, fun _ => ⟨List.Pairwise.nil, fun _ hm => (nomatch hm)⟩⟩, h2, h3, h4⟩


/-! ### rules over ANY heap (no ledger) from facts about the written part K: the library's own take a ledger (News) for what they write -/
section
variable {prog : Program} {w : World} {A : Around} {E : Value → Shared → Prop} {s : Shared} {K : Frag}


/-- C(..): dict at size, instance at size + 1, then __init__ -/
theorem make_obj {R : Result → Shared → Prop} {C fI : Addr} {rest : List Value} {kw : List (Str × Value)}
    (X : K.In s.heap) (hm : makesIn K C = true) (hi : findIn K (.ref C) "__init__" = some (some (.ref fI))) (hf : isFn K (.ref fI) = true)
    (h : codeAny (model prog w) (A.under (.builtin "type.__call__" ⟨.ref C :: rest, kw⟩)) (.call (.ref fI) ⟨.ref (s.heap.objs.size + 1) :: rest, kw⟩) (InitBack (s.heap.objs.size + 1) R)
      { s with heap := (s.heap.push emptyDict).push (instObj C s.heap.objs.size) }) : codeAny (model prog w) A (.call (.ref C) ⟨rest, kw⟩) R s := by
  obtain ⟨hh, g, d, t, os⟩ := s
  exact make_core (makes_of X hm) (looks_findIn X hi) (fun self => bind_fn X self (beq_iff_eq.mp hf)) (.inl rfl) h

/-- x.name where the instance's dict holds the name and the class does not -/
theorem get_field {x C : Addr} {ox : Obj} {es : List DictEntry} {n : Nat} {name : Str} {expr : Bool} {v : Value} {Q : Value → Shared → Prop}
    (X : K.In s.heap) (I : PySem.W.InstAt s.heap x ox C (some (dictOf es n))) (hg : plainGet K C name = true) (hh : hasDictIn K C = true) (ha : findIn K (.ref C) name = some none)
    (hl : getL name es = some (some v)) (hv : handedIn v = true) (h : Q v { s with toks := s.toks + 1 }) : wpAny (model prog w) A (getAttr (.ref x) name expr) Q E s :=
  get_value X I (plainGet_of hg).1 (findObj_own hh ha rfl hl) hv h


/-! the whole heap as the ledger: makes every rule that writes through a ledger a rule over any heap -/

end
end Att

namespace L2
open PySem PySem.Spec PyProof.Rows

theorem vals_ints : ∀ {vs : List Value} {ns : List Int}, IntsAre vs ns → Vals (ns.map V.int) vs
  | _, _, .nil => .nil
  | _, _, .cons n t h => .cons ⟨t, rfl⟩ (vals_ints h)

/-- nothing is tracked but the script, known to the object (or it is an object of the module) -/
def Only (H : Hp) : Prop := ∀ b, H b = none ∨ ∃ o xs, H b = some (.frz o (.lst xs))

/-- THE HEAD: the law's promise, at the heap behind the top. F, the promise of the law's def, may use that base is part of the heap (so K.In base, base.Ns mainGlobals mg stand in Mod) -/
theorem law_call {P : Program} {w : World} {K : PySem.W.Frag} {mg mb : Str → Option Value} {CX : CXT} {k : Nat} {fa a : Addr} {fd : FuncData} {x : Str} {sp : Sp} {s₁ : Shared} {vs : List Value} {ns : List Int}
    (KX : K.In s₁.heap) (hns : s₁.heap.Ns mainGlobals mg) (hb : s₁.heap.Ns builtinsNs mb) (hbb : ∀ x : Str, x ≠ "__name__" → mb x = bootBuiltins x) (hlim : s₁.heap.NoLimit) (hg : s₁.gens = #[])
    (ha : s₁.heap.get? a = some { cls := .type "list", data := .seq vs.toArray }) (hi : IntsAre vs ns) (hl : ns.length ≤ sizeLine) (hr : Room k callerA)
    (F : ∀ base : Heap, K.In base → base.Ns mainGlobals mg → FnOk P w K mg base CX k fa fd [x] sp) (hbind : ∀ (s : Shared) (u : Value), BindsTo s fd ⟨[u], []⟩ [(x, u)])
    (hsp : ∀ H : Hp, Only H → SqL K H a (ns.map V.int) → sp [.ref a] H (fun v _ => v = .bl true) fun _ _ _ => False)
    (hCX : ∀ H e s', CX [] H s₁ (fun _ _ _ => False) e s' → False) :
    codeAny (model P w) callerA (.call (.ref fa) ⟨[.ref a], []⟩) (fun r s' => r = .ok (.ret (.bool true)) ∧ OldK s₁.heap s'.heap ∧ s'.os = s₁.os ∧ AllBare s'.gens) s₁ := by
  have rv := vals_ints hi
  have lenV := hi.length
  -- from an abstract heap in which nothing but the script may be tracked
  have core : ∀ H : Hp, Only H → SqL K H a (ns.map V.int) → HOk P w H s₁.heap → (∀ b, H b ≠ none → b = a) → (H a ≠ none → K.lookup a = none) →
      codeAny (model P w) callerA (.call (.ref fa) ⟨[.ref a], []⟩) (fun r s' => r = .ok (.ret (.bool true)) ∧ OldK s₁.heap s'.heap ∧ s'.os = s₁.os ∧ AllBare s'.gens) s₁ := by
    intro H hO hS hok hA hK
    have base_of : ∀ {b : Addr} {o : Obj}, s₁.heap.get? b = some o → H b = none → (hidT s₁.heap H).get? b = some o := fun e n => hidT_get e n
    have noA : ∀ {b : Addr} {o : Obj} {es : Array DictEntry} {ep : Nat}, s₁.heap.get? b = some o → o.data = .dict es ep → H b = none := fun {b o es ep} e d => by
      cases q : H b with
      | none => rfl
      | some u =>
        have e' : b = a := hA b (by rw [q]; simp)
        subst e'
        rw [ha] at e; cases e
        have d' : Data.seq vs.toArray _ = Data.dict es ep := d
        cases d'
    have nsK : ∀ {b : Addr} {m : Str → Option Value}, s₁.heap.Ns b m → (hidT s₁.heap H).Ns b m := fun {b m} ⟨o, es, ep, e, d, r⟩ => ⟨o, es, ep, base_of e (noA e d), d, r⟩
    have hKb : K.In (hidT s₁.heap H) := fun b o e => base_of (KX b o e) (by
      cases q : H b with
      | none => rfl
      | some u =>
        have e' : b = a := hA b (by rw [q]; simp)
        subst e'
        rw [hK (by rw [q]; simp)] at e; cases e)
    have hM : Mod K mg (hidT s₁.heap H) := ⟨hKb, nsK hns, ⟨mb, nsK hb, hbb⟩, let ⟨mc, h1, h2⟩ := hlim; ⟨mc, nsK h1, h2⟩⟩
    have e0 : Env0 P w K mg (hidT s₁.heap H) callerA [] s₁ H := ⟨rfl, hM, fun b o e => of_hidT e, Nat.le_of_eq (hidT_size _ _), trivial, fun b hb => absurd (show b ∈ ([] : List Addr) from hb) (by simp), hok, .of_eq hg⟩
    refine codeAny_mono ((F _ hKb (nsK hns)).run callerA [] s₁ H ⟨[.ref a], []⟩ [.ref a] [.ref a] _ _ hr e0 (hbind s₁ (.ref a)) (.cons rfl .nil) (hsp H hO hS)) fun r s' h => ?_
    cases r with
    | error e => exact (hCX H e s' h).elim
    | ok fl =>
      cases fl with
      | next => exact False.elim h
      | brk => exact False.elim h
      | cont => exact False.elim h
      | ret u =>
        obtain ⟨v, H', os, bare, un, hok', r', q⟩ := h
        have q' : v = .bl true := q
        subst q'
        obtain rfl : u = Value.bool true := r'
        refine ⟨rfl, OldK.of_keep fun b o e => ?_, os, bare⟩
        cases q : H b with
        | none => exact un.keep b o e q (by intro z; exact absurd (show b ∈ ([] : List Addr) from z) (by simp)) (by simp)
        | some u =>
          rcases hO b with z | ⟨ob, xs, z⟩
          · rw [q] at z; cases z
          · have z2 := un.frzs b ob _ z
            obtain ⟨e1, _⟩ := hok b _ z
            obtain ⟨e2, _⟩ := hok' b _ z2
            rw [e] at e1; cases e1
            exact e2
  cases hk : K.lookup a with
  | some o =>
    -- the script is one of the module's own objects
    have e := KX a o hk
    rw [ha] at e
    cases e
    refine core (fun _ => none) (fun _ => .inl rfl) (.inr ⟨_, vs.toArray, _, hk, rfl, rfl, rfl, by rw [List.size_toArray, lenV]; exact hl, by simpa using rv⟩) (fun b u z => by have z' : (none : Option HO) = some u := z; cases z') (fun b z => absurd rfl z) fun z => absurd rfl z
  | none =>
    refine core (fun b => if b = a then some (.frz { cls := .type "list", data := .seq vs.toArray } (.lst (ns.map V.int))) else none) (fun b => ?_) (.inl (.inr ⟨{ cls := .type "list", data := .seq vs.toArray }, if_pos rfl⟩)) (fun b u z => ?_) (fun b z => ?_) fun _ => hk
    · by_cases hb : b = a
      · exact .inr ⟨_, _, if_pos hb⟩
      · exact .inl (if_neg hb)
    · by_cases hb : b = a
      · have z' := (if_pos hb).symm.trans z
        cases z'
        subst hb
        exact ⟨ha, by rw [List.length_map]; exact hl, vs, _, rv, ha⟩
      · have z' := (if_neg hb).symm.trans z
        cases z'
    · by_cases hb : b = a
      · exact hb
      · exact absurd (if_neg hb) z
end L2

namespace L2
open PySem PySem.Spec PyProof.Rows


/-- the goal that k_head leaves (case hc), from the law's promise. F gives the function object fd (K's own) once, then the promise over every base -/
theorem walk_of {l : PySem.W.OpenLaw} {n k : Nat} {q : Program} {loose : List Str} {XP : (Str → Option Value) → Heap → Prop} {YP : World → Heap → Prop} {d : DefRec} {K : Params → PySem.W.Frag} {CX : World → CXT} {sp : World → Sp} {x : Str}
    (hn : l.most = some n) (hn2 : n ≤ sizeLine) (hdf : d.params.defaults = []) (hr : Room k callerA)
    (hY : ∀ (w : World) (h : Heap), YP w h → (K w.params).In h)
    (F : ∀ (w : World) (mg : Str → Option Value) (fa : Addr) (h : Heap), (K w.params).In h → h.Ns mainGlobals mg → mg d.name = some (.ref fa) →
      ∃ fd : FuncData, (∀ (s : Shared) (u : Value), BindsTo s fd ⟨[u], []⟩ [(x, u)]) ∧
        ∀ base : Heap, (K w.params).In base → base.Ns mainGlobals mg → FnOk l.prog w (K w.params) mg base (CX w) k fa fd [x] (sp w))
    (hsp : ∀ (w : World) (H : Hp) (a : Addr) (ns : List Int), ns.length ≤ n → Only H → SqL (K w.params) H a (ns.map V.int) → sp w [.ref a] H (fun v _ => v = .bl true) fun _ _ _ => False)
    (hCX : ∀ (w : World) (H : Hp) (s : Shared) (e : Value) (s' : Shared), CX w [] H s (fun _ _ _ => False) e s' → False) :
    PySem.W.WalkO q loose XP YP l.row.toRowW d [] (fun f vs => PySem.call f vs) := by
  refine Att.attach_call hn hdf fun w s₀ s₁ mg mb fa o pm cd doc a vs ns G Y ho hd hcd hmg hobj hints hlen hg => ?_
  have KX := hY w _ Y
  obtain ⟨fd, hb, hF⟩ := F w mg fa _ KX G.T.g hmg
  exact law_call KX G.T.g G.T.b G.T.builtins G.T.nolimit hg hobj hints (Nat.le_trans hlen hn2) hr hF hb (fun H hO hS => hsp w H a ns hlen hO hS) fun H e s' => hCX w H s₁ e s'
end L2

/- THE LAST THEOREM (shape; LID, My.* are yours):
   My.Adr: a structure of the addresses that your layer names (classes, functions); My.Txt K t: a structure (Prop) of the equations over K;
   My.txt_mk : {K} {implicit addresses ..} (e1 : nsIn K mainGlobals "law" = some (some (.ref f))) (e2 : K.lookup f = some ⟨oc, od, .func (fnOf "law" "law" params body scope dV kV doc pm an cdv ct), sl⟩) (e3 : codeIn K cdv "law" = true) .. : ∃ t, My.Txt K t

set_option maxRecDepth 100000 in
set_option maxHeartbeats 0 in
theorem PySem.Challenge.cw_LID_holds : PySem.Challenge.rw_LID.Holds := by
  w_on; o_law; k_head; (case hw => w_witness2)
  k_fill
  refine L2.walk_of (l := PySem.Challenge.rw_LID) (n := 63) (k := 40) (x := "script") (CX := fun w => ..) (sp := fun _ => My.sp_law) rfl (by decide) rfl ⟨rfl, by decide, by decide⟩ (fun w h Y => PySem.W.kIn_of Y) ?F ?S ?C
  case F =>
    intro w mg fa h KX G hmg
    have T : ∃ t, My.Txt (L2.KOf KX) t := by
      dsimp only [L2.KOf]                          -- K must stand as «<heap const> w.params» for k_is
      refine' My.txt_mk ?e1 ?e2 ?e3 ..
      (case e1 => PySem.W.k_is)                    -- in the order: a name -> its address -> its object -> its parts
      (case e2 => PySem.W.k_is)
      ..
    obtain ⟨t, T⟩ := T
    have e0 := hmg.symm.trans (PySem.W.mg_of KX G T.law)
    cases e0                                       -- fa is the law's own address
    exact ⟨_, fun s u => .of_eq rfl, fun base kb nb => My.law_fn T kb nb⟩     -- if «.of_eq rfl» comes too early: refine' ⟨_, ?b, fun base kb nb => My.law_fn T kb nb⟩; exact fun s u => .of_eq rfl
  case S => exact fun w H a ns hl hO hS => ..
  case C => exact ..
(the tactic k_is has no namespace: write k_is) -/

/-! SHORT WORDS over the layer: a def of the text, its body, what a loop and a test want. -/
namespace L2
open PySem PySem.Spec PyProof.Rows

/-! ### the text by places -/
/-- the j-th statement of a class's body -/
def inClass (s : Stmt) (j : Nat) : Stmt := match s with
  | .ClassDef _ _ _ body _ _ _ _ _ _ _ => body.getD j (.Pass ⟨0, 0, 0, 0⟩)
  | _ => .Pass ⟨0, 0, 0, 0⟩
def defArgs (s : Stmt) : Arguments := match s with
  | .FunctionDef _ a _ _ _ _ _ _ _ _ => a
  | _ => { posonlyargs := [], args := [], vararg := none, kwonlyargs := [], kw_defaults := [], kwarg := none, defaults := [] }
def defBody (s : Stmt) : List Stmt := match s with
  | .FunctionDef _ _ b _ _ _ _ _ _ _ => b
  | _ => []
def defScope (s : Stmt) : Scope := match s with
  | .FunctionDef _ _ _ _ _ _ sc _ _ _ => sc
  | _ => { kind := .function, names := [], isGenerator := false, isCoroutine := false }

/-! ### no exception leaves a def -/
abbrev CX0 : CXT := fun _ _ _ _ _ _ => False
abbrev E0 : XK := fun _ _ _ => False
theorem pass0 {X : Cx} : Passes CX0 X E0 := fun _ _ _ _ _ _ _ h => h.elim

/-! ### a def (or method) of the text as it stands behind the top -/
structure Fun (K : PySem.W.Frag) (x qual : Str) (st : Stmt) (f : Addr) (fd : FuncData) : Prop where
  ex : ∃ (oc : Value) (od : Option Addr) (kV doc pm : Value) (an : Option Addr) (cdv ct : Value) (osl : Array (Option Value)),
    fd = PySem.W.fnOf x qual (defArgs st) (defBody st) (defScope st) .none kV doc pm an cdv ct ∧ K.lookup f = some ⟨oc, od, .func fd, osl⟩ ∧ PySem.W.codeIn K cdv qual = true
  kp : PySem.W.keepIn K (.ref f) = true
section
variable {P : Program} {w : World} {K : PySem.W.Frag} {mg : Str → Option Value} {base : Heap}
/-- THE RULE for a def: its body as a term of rules, and the reading of that term -/
theorem Fun.ok {x qual : Str} {st : Stmt} {f : Addr} {fd : FuncData} {N ps : List Str} {k : Nat} {sp : Sp} (F : Fun K x qual st f fd) (S : FnScope N ps (defScope st)) (len : ∀ vs H Q E, sp vs H Q E → vs.length = ps.length)
    (hbody : ∀ (cdv : Value) (A : Around) (outer : List Env) (s : Shared) (H : Hp) (vs : List V) (Q : VK) (E : XK), Room k (A.deeper (envOfC qual (defScope st) s.heap.objs.size f cdv)) → sp vs H Q E →
      ∃ t, PSs (cxOf CX0 P w K mg base N qual (defScope st) f cdv A outer s H E).nox (defBody st) t ∧ t { nx := fun _ H' => Q .non H', rt := Q } (start N vs) H) : FnOk P w K mg base CX0 (k + 1) f fd ps sp := by
  obtain ⟨oc, od, kV, doc, pm, an, cdv, ct, osl, rfl, lk, hcd⟩ := F.ex
  refine fn_of lk hcd S len fun A outer s H vs Q E hr hsp => ?_
  obtain ⟨t, h, q⟩ := hbody cdv A outer s H vs Q E hr hsp
  exact ⟨t, h.nox, q⟩
/-- how its arguments bind (no defaults): h is «fun _ _ _ _ _ _ us hl => match us, hl with | [_, _], _ => rfl», one _ a parameter -/
theorem Fun.binds {x qual : Str} {st : Stmt} {f : Addr} {fd : FuncData} {ps : List Str} (F : Fun K x qual st f fd)
    (h : ∀ (kV doc pm : Value) (an : Option Addr) (cdv ct : Value) (us : List Value), us.length = ps.length → bindArgs (PySem.W.fnOf x qual (defArgs st) (defBody st) (defScope st) .none kV doc pm an cdv ct) ⟨us, []⟩ = pure (ps.zip us)) : Binds K fd ps [] := by
  obtain ⟨oc, od, kV, doc, pm, an, cdv, ct, osl, rfl, lk, hcd⟩ := F.ex
  exact .all (h kV doc pm an cdv ct)
theorem fun_mk {x qual : Str} {st : Stmt} {f : Addr} {oc : Value} {od an : Option Addr} {osl : Array (Option Value)} {kV doc pm cdv ct : Value} (l : K.lookup f = some ⟨oc, od, .func (PySem.W.fnOf x qual (defArgs st) (defBody st) (defScope st) .none kV doc pm an cdv ct), osl⟩)
    (c : PySem.W.codeIn K cdv qual = true) (k : PySem.W.keepIn K (.ref f) = true) : Fun K x qual st f (PySem.W.fnOf x qual (defArgs st) (defBody st) (defScope st) .none kV doc pm an cdv ct) := ⟨⟨oc, od, kV, doc, pm, an, cdv, ct, osl, rfl, l, c⟩, k⟩
end

/-! ### expressions in short: the name that stands in the i-th slot -/
section
variable {X : Cx}
theorem pv (i : Nat) {x : Str} {pos : Pos} (hN : X.N[i]? = some x := by rfl) (hv : Vis X.env.scope x := by first | exact Or.inl rfl | exact Or.inr (Or.inl rfl) | exact Or.inr (Or.inr rfl)) (hd : (x == ("__debug__" : Str)) = false := by decide)
    (hcd : (x == ("__classdict__" : Str)) = false := by decide) : PE X (.Name x pos) (tVar i) := pe_var hN hv hd hcd
end

/-! ### tests -/
theorem iteF {A B : Prop} (h : B) : if false = true then A else B := by
  rw [if_neg Bool.false_ne_true]
  exact h
theorem iteT {A B : Prop} (h : A) : if true = true then A else B := by
  rw [if_pos rfl]
  exact h
theorem ite2 {c A B : Prop} [Decidable c] (h1 : c → A) (h2 : ¬ c → B) : if c then A else B := by
  by_cases h : c
  · rw [if_pos h]
    exact h1 h
  · rw [if_neg h]
    exact h2 h

/-! ### heaps -/
/-- all that was tracked is as it was -/
def Same (H H' : Hp) : Prop := ∀ b o, H b = some o → H' b = some o
theorem Same.trans {H H1 H2 : Hp} (a : Same H H1) (b : Same H1 H2) : Same H H2 := fun c o h => b c o (a c o h)
theorem Same.free {H H' : Hp} (e : Same H H') {l : Addr} (h : H' l = Option.none) : H l = Option.none := by
  cases q : H l with
  | none => rfl
  | some o =>
    rw [e l o q] at h
    cases h
theorem Same.seq {K : PySem.W.Frag} {H H' : Hp} {a : Addr} {xs : List V} (e : Same H H') (h : SqL K H a xs) : SqL K H' a xs := by
  rcases h with (h | ⟨o, h⟩) | h
  · exact .inl (.inl (e _ _ h))
  · exact .inl (.inr ⟨o, e _ _ h⟩)
  · exact .inr h

end L2

set_option Elab.async false
set_option linter.all false
set_option maxRecDepth 100000
set_option maxHeartbeats 4000000
namespace L2
open PySem PySem.Spec PyProof.Rows

/-! ### comprehensions -/
def closL (cells : List (Str × Addr)) : List (Str × NameKind) → List (Str × Addr) → List (Str × Addr)
  | [], acc => acc
  | (n, k) :: r, acc => closL cells r (if k == .free then (n, (cells.lookup n).getD 0) :: acc else acc)

theorem closureFor_eq {scope : Scope} {env : Env} (h : ∀ y ∈ scope.names, y.2 = .free → ∃ c, env.cells.lookup y.1 = some c) : closureFor scope env = pure (closL env.cells scope.names []) := by
  unfold closureFor
  have go : ∀ (l : List (Str × NameKind)) (acc : List (Str × Addr)), (∀ y ∈ l, y.2 = .free → ∃ c, env.cells.lookup y.1 = some c) →
      (forIn l acc fun (p : Str × NameKind) (cs : List (Str × Addr)) => (if (p.2 == .free) = true then (do let c ← cellOf env p.1; pure (ForInStep.yield ((p.1, c) :: cs))) else pure (ForInStep.yield cs) : Sem _)) = (pure (closL env.cells l acc) : Sem _) := by
    intro l
    induction l with
    | nil => intro acc _; rfl
    | cons p r ih =>
      intro acc hp
      obtain ⟨n, k⟩ := p
      rw [List.forIn_cons]
      have hr := fun a => ih a fun y hy => hp y (List.mem_cons_of_mem _ hy)
      by_cases hk : k = .free
      · subst hk
        obtain ⟨c, hc⟩ := hp (n, .free) List.mem_cons_self rfl
        have e : cellOf env n = pure c := by unfold cellOf; rw [hc]
        simp only [beq_self_eq_true, if_true, e, pure_bind, hr, closL, hc, Option.getD_some]
      · have hb : (k == NameKind.free) = false := by simpa using hk
        simp only [hb, Bool.false_eq_true, if_false, pure_bind, hr, closL]
  have := go scope.names [] h
  exact (congrArg (fun (m : Sem (List (Str × Addr))) => m >>= fun cs => pure cs) this).trans (pure_bind _ _)

theorem closL_lookup {cells : List (Str × Addr)} {y : Str} {c : Addr} : ∀ (l : List (Str × NameKind)) (acc : List (Str × Addr)), (closL cells l acc).lookup y = some c →
    acc.lookup y = some c ∨ ((y, NameKind.free) ∈ l ∧ c = (cells.lookup y).getD 0)
  | [], acc, h => .inl h
  | (n, k) :: r, acc, h => by
    unfold closL at h
    rcases closL_lookup r _ h with h' | ⟨h1, h2⟩
    · by_cases hk : k = .free
      · subst hk
        simp only [beq_self_eq_true, if_true, List.lookup_cons] at h'
        by_cases hy : y = n
        · subst hy
          simp only [beq_self_eq_true] at h'
          cases h'
          exact .inr ⟨List.mem_cons_self, rfl⟩
        · have : (y == n) = false := by simpa using hy
          simp only [this] at h'
          exact .inl h'
      · have hb : (k == NameKind.free) = false := by simpa using hk
        simp only [hb, Bool.false_eq_true, if_false] at h'
        exact .inl h'
    · exact .inr ⟨List.mem_cons_of_mem _ h1, h2⟩
theorem closL_some {cells : List (Str × Addr)} {y : Str} : ∀ (l : List (Str × NameKind)) (acc : List (Str × Addr)), ((y, NameKind.free) ∈ l ∨ ∃ c, acc.lookup y = some c) → ∃ c, (closL cells l acc).lookup y = some c
  | [], acc, h => by
    rcases h with h | h
    · cases h
    · exact h
  | (n, k) :: r, acc, h => by
    unfold closL
    refine closL_some r _ ?_
    by_cases hk : k = .free
    · subst hk
      simp only [beq_self_eq_true, if_true, List.lookup_cons]
      by_cases hy : y = n
      · subst hy; simp
      · have e : (y == n) = false := by simpa using hy
        simp only [e]
        rcases h with h | h
        · rcases List.mem_cons.mp h with h | h
          · cases h; exact absurd rfl hy
          · exact .inl h
        · exact .inr h
    · have hb : (k == NameKind.free) = false := by simpa using hk
      simp only [hb, Bool.false_eq_true, if_false]
      rcases h with h | h
      · rcases List.mem_cons.mp h with h | h
        · cases h; exact absurd rfl hk
        · exact .inl h
      · exact .inr h

/-- the scope of a comprehension over one name x that reads the def's names ys -/
structure CompOk (scope : Scope) (env : Env) (x : Str) (ys : List Str) : Prop where
  kind : scope.kind = .function
  nocell : ∀ y ∈ scope.names, y.2 ≠ .cell
  names : ∀ y ∈ scope.names, y.2 = .local → scope.names.lookup y.1 = some .local
  hx : scope.names.lookup x = some .local
  free : ∀ y ∈ scope.names, y.2 = .free → y.1 ≠ x ∧ env.kindOf y.1 = some .cell
  read : ∀ y ∈ ys, (y, NameKind.free) ∈ scope.names ∧ (relabel scope env).names.lookup y = some .cell

def compB (scope : Scope) (env : Env) (x : Str) (ys : List Str) : Bool :=
  decide (scope.kind = .function) && scope.names.all (fun y => decide (y.2 ≠ .cell)) && scope.names.all (fun y => decide (y.2 ≠ .local) || decide (scope.names.lookup y.1 = some .local)) &&
  decide (scope.names.lookup x = some .local) && scope.names.all (fun y => decide (y.2 ≠ .free) || (decide (y.1 ≠ x) && decide (env.kindOf y.1 = some .cell))) &&
  ys.all (fun y => decide ((y, NameKind.free) ∈ scope.names) && decide ((relabel scope env).names.lookup y = some .cell))
theorem compOk_of {scope : Scope} {env : Env} {x : Str} {ys : List Str} (h : compB scope env x ys = true) : CompOk scope env x ys := by
  unfold compB at h
  simp only [Bool.and_eq_true, decide_eq_true_eq, List.all_eq_true, Bool.or_eq_true] at h
  obtain ⟨⟨⟨⟨⟨h1, h2⟩, h3⟩, h4⟩, h5⟩, h6⟩ := h
  exact ⟨h1, h2, fun y hy e => (h3 y hy).resolve_left (fun z => z e), h4, fun y hy e => (h5 y hy).resolve_left (fun z => z e), h6⟩

def cSt (js : List Nat) (o : Option V) (σ : St) : St := o :: js.map fun j => (σ[j]?).join

def compCx (X : Cx) (scope : Scope) (x : Str) (ys : List Str) (C : Addr) (s₀ : Shared) (H₀ : Hp) (fp : List Addr) : Cx where
  prog := X.prog
  w := X.w
  K := X.K
  mg := X.mg
  base := X.base
  A := X.A
  N := x :: ys
  s₀ := s₀
  H₀ := H₀
  env := compEnvC scope (closL X.env.cells scope.names []) C X.env
  outer := X.stack
  stack := X.stack
  ex := fp
  fn := fun y => decide (y = x)
  calm := true
  pn := []
  xe := fun _ _ => False

section
variable {X : Cx} {pins : List (Addr × Obj)} {σ : St} {H : Hp} {s : Shared} {scope : Scope} {x : Str} {ys : List Str} {js : List Nat}

theorem mem_relabel {scope : Scope} {env : Env} {y : Str} {k : NameKind} (h : (relabel scope env).names.lookup y = some k) : ∃ k0, (y, k0) ∈ scope.names ∧ (k = k0 ∨ (k = .cell ∧ k0 = .free)) := by
  have hm := PySem.mem_of_lookup h
  unfold relabel at hm
  obtain ⟨⟨n, k0⟩, hn, e⟩ := List.mem_map.mp hm
  dsimp only at e
  split at e
  · cases e
    rename_i hc
    simp only [Bool.and_eq_true, beq_iff_eq] at hc
    exact ⟨k0, hn, .inr ⟨rfl, hc.1.1⟩⟩
  · cases e
    exact ⟨k, hn, .inl rfl⟩

theorem clos_cells (ok : X.Ok) (S : CompOk scope X.env x ys) {y : Str} {c : Addr} (h : (closL X.env.cells scope.names []).lookup y = some c) : (y, NameKind.free) ∈ scope.names ∧ X.env.cells.lookup y = some c := by
  rcases closL_lookup _ _ h with h | ⟨h1, h2⟩
  · cases h
  · refine ⟨h1, ?_⟩
    obtain ⟨c', e⟩ := ok.has y (.inl (S.free _ h1 rfl).2)
    rw [e] at h2
    rw [e, h2]
    rfl

/-- the comprehension's block is entered: D its list, C its names -/
theorem comp_in (hc : X.calm = true) (S : CompOk scope X.env x ys) (hjs : js.map (fun j => X.N[j]?) = ys.map some) {fp : List Addr} {h₁ : Heap} {H3 : Hp} {s3 : Shared}
    (I3 : Inv X pins σ H3 s3) (hf : ∀ b ∈ fp, FpOk X pins H3 b ∧ b < s3.heap.objs.size)
    (hn : h₁.Ns s3.heap.objs.size fun _ => none) (k34 : ∀ b o, s3.heap.get? b = some o → h₁.get? b = some o) (tk : Nat) :
    Inv (compCx X scope x ys s3.heap.objs.size s3 H3 fp) [] (cSt js none σ) H3 { s3 with heap := h₁, toks := tk } := by
  have hcells : ∀ y c, (closL X.env.cells scope.names []).lookup y = some c → X.env.cells.lookup y = some c := fun y c h => (clos_cells I3.ok S h).2
  have hcs : ∀ y c, X.env.cells.lookup y = some c → c < s3.heap.objs.size := fun y c h => by
    obtain ⟨v, o, ho, _⟩ := I3.cell y c h
    exact Heap.lt_size ho
  have nofp : ∀ b o, X.base.get? b = some o → b ∉ fp := fun b o e hb => by
    obtain ⟨⟨_, _, _, h4, _, _⟩, _⟩ := hf b hb
    rcases h4 with h4 | h4
    · exact I3.ok.noex b o e h4
    · exact absurd (Nat.lt_of_lt_of_le (Heap.lt_size e) (Nat.le_trans I3.ok.bsz h4)) (Nat.lt_irrefl _)
  refine ⟨⟨I3.ok.mod, S.kind, I3.ok.glob, I3.ok.blt, Nat.le_refl _, fun y z c h1 h2 => I3.ok.inj y z c (hcells y c h1) (hcells z c h2), fun y hy => ?_, fun y c h1 h2 => ?_, fun _ => I3.ok.hd hc, I3.ok.frames, .inl rfl,
      fun b hb => ⟨Nat.ne_of_lt (hf b hb).2, fun y c h => (hf b hb).1.2.2.2.2.1 y c (hcells y c h)⟩, I3.bs, Nat.le_trans I3.ok.bsz I3.sz, nofp, fun b hb z => ?_, I3.stack, I3.stkFree⟩,
    rfl, I3.bare, Un.kept k34, ⟨_, hn, fun i y v e1 e2 e3 => ?_⟩, fun y c h => ?_, I3.hok.fresh (Nat.le_refl _), fun y c h => I3.freeC y c (hcells y c h), fun p hp => absurd (show p ∈ ([] : List (Addr × Obj)) from hp) (by simp), I3.hok.kept k34, ?_⟩
  · have hy : (relabel scope X.env).names.lookup y = some .cell ∨ (relabel scope X.env).names.lookup y = some .free := hy
    have hm : (y, NameKind.free) ∈ scope.names := by
      rcases hy with hy | hy
      · obtain ⟨k0, h1, h2⟩ := mem_relabel hy
        rcases h2 with h2 | ⟨_, h2⟩
        · subst h2; exact absurd rfl (S.nocell _ h1)
        · subst h2; exact h1
      · obtain ⟨k0, h1, h2⟩ := mem_relabel hy
        rcases h2 with h2 | ⟨h2, _⟩
        · subst h2; exact h1
        · cases h2
    exact closL_some _ _ (.inl hm)
  · have e : y = x := of_decide_eq_true h1
    exact absurd e (S.free _ (clos_cells I3.ok S h2).1 rfl).1
  · rcases List.mem_cons.mp (I3.stkSub b z) with e | e
    · exact (hf b hb).1.2.1 e
    · exact (hf b hb).1.2.2.1 e
  · cases i with
    | zero => cases e2
    | succ i =>
      have e1 : ys[i]? = some y := e1
      have e2 : (js.map fun j => (σ[j]?).join)[i]? = some (some v) := e2
      rw [List.getElem?_map] at e2
      cases hj : js[i]? with
      | none => rw [hj] at e2; cases e2
      | some j =>
        rw [hj] at e2
        have e2' : (σ[j]?).join = some v := Option.some.inj e2
        have e4 : σ[j]? = some (some v) := by
          cases q : σ[j]? with
          | none => rw [q] at e2'; cases e2'
          | some o => rw [q] at e2'; rw [show o = some v from e2']
        have e5 : X.N[j]? = some y := by
          have q := congrArg (fun l => l[i]?) hjs
          rw [List.getElem?_map, List.getElem?_map, hj, e1] at q
          exact Option.some.inj q
        have hm := List.mem_of_getElem? e1
        obtain ⟨m1, m2⟩ := S.read y hm
        have hk := (S.free _ m1 rfl).2
        obtain ⟨m, hnm, hl⟩ := I3.loc
        obtain ⟨u, r, l⟩ := hl j y v e5 e4 (.inr (.inl hk))
        refine ⟨u, r, .inr ⟨.inl m2, ?_⟩⟩
        rcases l with ⟨l, _⟩ | ⟨_, c, e, z⟩
        · have : some NameKind.local = some NameKind.cell := l.symm.trans hk
          cases this
        · obtain ⟨c', e'⟩ := closL_some (cells := X.env.cells) scope.names [] (.inl m1)
          have e'' := hcells y c' e'
          rw [e] at e''
          cases e''
          obtain ⟨o, ho, hd⟩ := z
          exact ⟨c, e', o, k34 c o ho, hd⟩
  · obtain ⟨v, o, ho, hd⟩ := I3.cell y c (hcells y c h)
    exact ⟨v, o, k34 c o ho, hd⟩
  · show (cSt js none σ).length = (x :: ys).length
    have q := congrArg List.length hjs
    simp only [List.length_map] at q
    simp [cSt, q]

/-- the comprehension's block is left -/
theorem comp_out {fp : List Addr} {D : Addr} {H2 H3 H' : Hp} {s2 s3 s' : Shared} {σ' : St} {C : Addr} (I2 : Inv X pins σ H2 s2) (hf : ∀ b ∈ fp, FpOk X pins H2 b) (k23 : ∀ b o, s2.heap.get? b = some o → s3.heap.get? b = some o)
    (hos : s3.os = s2.os) (hD : s2.heap.objs.size ≤ D) (h23 : ∀ b, b ≠ D → H3 b = H2 b) (t23 : H2 D = none) (I' : Inv (compCx X scope x ys C s3 H3 fp) [] σ' H' s') : Inv X pins σ H' s' := by
  have neD : ∀ b o, s2.heap.get? b = some o → b ≠ D := fun b o e z => absurd (Nat.lt_of_lt_of_le (Heap.lt_size e) (z ▸ hD)) (Nat.lt_irrefl _)
  have tne : ∀ b o, H2 b = some o → b ≠ D := fun b o e z => by subst z; rw [t23] at e; cases e
  refine I2.call' (ch := fp) (I'.os.trans hos) ⟨fun b o e n hb hx => ?_, fun b o e n hb hx => ?_, fun b o e n hx => ?_, fun b o e hx => ?_, fun b xs e => ?_, fun b o u e => ?_, fun b ps e => ?_⟩ I'.hok I'.bare fun b hb => ?_
  · exact I'.base.keep b o (k23 b o e) ((h23 b (neD b o e)).trans n) hb hx
  · exact I'.base.slot b o (k23 b o e) ((h23 b (neD b o e)).trans n) hb hx
  · exact I'.base.free b o (k23 b o e) ((h23 b (neD b o e)).trans n) hx
  · exact I'.base.there b o (k23 b o e) hx
  · exact I'.base.tups b xs ((h23 b (tne b _ e)).trans e)
  · exact I'.base.frzs b o u ((h23 b (tne b _ e)).trans e)
  · exact I'.base.tbls b ps ((h23 b (tne b _ e)).trans e)
  · obtain ⟨f0, f1, f2, f3, f4, f5⟩ := hf b hb
    exact ⟨f3, f1, f4, f5⟩
end

/-! ### two statements with a word between them -/
def tSeqM (t u : TS) : TS := fun D σ H => ∃ M : St → Hp → Prop, t { D with nx := M } σ H ∧ ∀ σ' H', M σ' H' → u D σ' H'
theorem pss_consM {X : Cx} {st : Stmt} {rest : List Stmt} {t u : TS} (h1 : PS X st t) (h2 : PSs X rest u) : PSs X (st :: rest) (tSeqM t u) := by
  intro pins s σ H D I h
  obtain ⟨M, ht, hu⟩ := h
  have h2' : PSs X rest (fun D' σ' H' => D' = D ∧ M σ' H') := fun pins s σ' H' D' I' ⟨e, m⟩ => by subst e; exact h2 pins s σ' H' D' I' (hu σ' H' m)
  refine pss_cons (u := fun D' σ' H' => D' = D ∧ M σ' H') (t := fun D' σ' H' => ∃ D0, t D0 σ' H' ∧ D0.nx = M ∧ D0.rt = D'.rt ∧ D0.bk = D'.bk ∧ D0.ct = D'.ct ∧ ∀ σ' H', M σ' H' → D'.nx σ' H') (fun pins s σ' H' D' I' ⟨D0, k, e1, e2, e3, e4, e5⟩ => ?_) h2' pins s σ H D I ?_
  · refine thn (h1 pins s σ' H' D0 I' k) fun f s' q => ?_
    cases f with
    | next => obtain ⟨a, b, c, d⟩ := q; exact ⟨a, b, c, e5 _ _ (e1 ▸ d)⟩
    | brk => obtain ⟨a, b, c, d⟩ := q; exact ⟨a, b, c, e3 ▸ d⟩
    | cont => obtain ⟨a, b, c, d⟩ := q; exact ⟨a, b, c, e4 ▸ d⟩
    | ret v => obtain ⟨a, b, c, d, r, e⟩ := q; exact ⟨a, b, c, d, r, e2 ▸ e⟩
  · exact ⟨{ D with nx := M }, ht, rfl, rfl, rfl, rfl, fun σ' H' m => ⟨rfl, m⟩⟩

/-! ### if, with a word for each way -/
def tIfM (c : TT) (t u : TS) : TS := fun D σ H => ∃ Mt Mf : Hp → Prop, (c σ H fun b H1 => if b = true then Mt H1 else Mf H1) ∧ (∀ H1, Mt H1 → t D σ H1) ∧ ∀ H1, Mf H1 → u D σ H1
theorem ps_ifM {X : Cx} {c : Expr} {a b : List Stmt} {pos : Pos} {tc : TT} {t u : TS} (hc : PT X c tc) (ha : PSs X a t) (hb : PSs X b u) : PS X (.If c a b pos) (tIfM tc t u) := by
  intro pins s σ H D I h
  obtain ⟨Mt, Mf, h1, h2, h3⟩ := h
  have ha' : PSs X a (fun D' σ' H' => D' = D ∧ σ' = σ ∧ Mt H') := fun pins s σ' H' D' I' ⟨e1, e2, m⟩ => by subst e1 e2; exact ha pins s σ' H' D' I' (h2 H' m)
  have hb' : PSs X b (fun D' σ' H' => D' = D ∧ σ' = σ ∧ Mf H') := fun pins s σ' H' D' I' ⟨e1, e2, m⟩ => by subst e1 e2; exact hb pins s σ' H' D' I' (h3 H' m)
  have hc' : PT X c (fun σ' H' Q => σ' = σ ∧ H' = H ∧ ∀ b H1, (if b = true then Mt H1 else Mf H1) → Q b H1) := fun pins s σ' H' Q I' ⟨e1, e2, m⟩ => by
    subst e1 e2
    refine thn (hc pins s σ' H' _ I' h1) fun b s1 ⟨H1, I1, q1⟩ => ⟨H1, I1, m b H1 q1⟩
  refine ps_if hc' ha' hb' pins s σ H D I ⟨rfl, rfl, fun b H1 q => ?_⟩
  cases b with
  | true => exact iteT ⟨rfl, rfl, q⟩
  | false => exact iteF ⟨rfl, rfl, q⟩

/-- the tests of a comprehension -/
def PTs (X : Cx) (ifs : List Expr) (t : TT) : Prop :=
  ∀ (pins : List (Addr × Obj)) (s : Shared) (σ : St) (H : Hp) (Q : Bool → Hp → Prop), Inv X pins σ H s → t σ H Q →
    wpAny (model X.prog X.w) X.A (forIn ifs true fun c r => if r = true then do let ok ← isTrue c X.env (eval c X.env); pure (ForInStep.yield ok) else pure (ForInStep.yield r)) (TP X pins σ Q) X.xe s
def tTrue : TT := fun _ H Q => Q true H
theorem pts_nil {X : Cx} : PTs X [] tTrue := fun _ _ _ H _ I h => wpAny_tests_nil ⟨H, I, h⟩
theorem pts_one {X : Cx} {c : Expr} {t : TT} (h : PT X c t) : PTs X [c] t := fun pins s σ H Q I q => wpAny_tests_one (h pins s σ H Q I q)

section
variable {prog : Program} {w : World} {A : Around} {R : Result → Shared → Prop} {s : Shared}
theorem compLoop_own {elt target iter : Expr} {ifs : List Expr} {scope : Scope} {pos : Pos} {it acc : Value} {env : Env} (I : Nat → Shared → Prop)
    (turn : ∀ n s, I n s → wpAny (model prog w) A (pyNext it) (fun r s₁ => match r with
      | none => R (.ok .next) s₁
      | some v => wpAny (model prog w) A (letOwnedTupleGo target it v) (fun _ s₁' => wpAny (model prog w) A (assign target env v) (fun _ s₂ =>
          wpAny (model prog w) A (forIn ifs true fun c r => if r = true then do let ok ← isTrue c env (eval c env); pure (ForInStep.yield ok) else pure (ForInStep.yield r)) (fun ok s₃ =>
            if ok = true then wpAny (model prog w) A (eval elt env) (fun x s₄ =>
              wpAny (model prog w) A (call (.builtin "list.append") [acc, x]) (fun _ s₅ => ∃ m, m < n ∧ I m s₅) (fun _ _ => False) s₄) (fun _ _ => False) s₃
            else ∃ m, m < n ∧ I m s₃) (fun _ _ => False) s₂) (fun _ _ => False) s₁') (fun _ _ => False) s₁) (fun _ _ => False) s)
    (n : Nat) (h : I n s) :
    codeAny (model prog w) A (.compLoop (.ListComp elt [⟨target, iter, ifs, 0⟩] scope pos) 0 it acc env) R s := by
  refine codeAny_loop rfl I (fun n s hI => ?_) n h
  show wpAny _ A ((compTurn (.ListComp elt [⟨target, iter, ifs, 0⟩] scope pos) 0 it acc env).onRaise (fun x => do noteFrame x env; theTreesLotGoes x)) _ _ s
  refine wpAny_noted ?_
  rw [compTurn_list]
  refine wpAny_bind (wpAny_standAt (wpAny_bind (wpAny_mono (turn n s hI) (fun r s₁ h₁ => ?_) fun _ _ h' => h'.elim)))
  cases r with
  | none => exact wpAny_pure h₁
  | some v =>
    refine wpAny_bind (wpAny_mono h₁ (fun _ s₁' h₁' => ?_) fun _ _ h' => h'.elim)
    refine wpAny_bind (wpAny_mono h₁' (fun _ s₂ h₂ => wpAny_bind (wpAny_mono h₂ (fun ok s₃ h₃ => ?_) fun _ _ h' => h'.elim)) fun _ _ h' => h'.elim)
    cases ok with
    | false => exact wpAny_pure ⟨rfl, h₃⟩
    | true =>
      exact wpAny_bind (wpAny_bind (wpAny_mono h₃ (fun x s₄ h₄ => wpAny_bind (wpAny_mono h₄ (fun _ s₅ h₅ => wpAny_pure (wpAny_pure ⟨rfl, h₅⟩)) fun _ _ h' => h'.elim)) fun _ _ h' => h'.elim))
end

/-- the reading of a comprehension: W by the turn, a measure and the heap; D its list -/
def CompW (J : It) (js : List Nat) (tc : TT) (te : TE) (σ : St) (R : V → Hp → Prop) (D : Addr) (H1 : Hp) : Prop :=
  ∃ W : Nat → Nat → Hp → Prop, (∃ m, W 0 m (upd H1 D (.lst []))) ∧ ∀ i m H, W i m H →
    (J.stop i H ∧ R (.ref D) H) ∨ (J.go i H ∧ ∃ N : Hp → Prop, (∀ H', N H' → ∃ m', m' < m ∧ W (i + 1) m' H') ∧ ∀ x H', J.yld i H x H' → tc (cSt js (some x) σ) H' fun c H2 => if c = true then te (cSt js (some x) σ) H2 fun y H3 =>
      ∃ ys, H3 D = some (.lst ys) ∧ ys.length < sizeLine ∧ N (upd H3 D (.lst (ys ++ [y]))) else N H2)
def tCompR (wi : TI) (js : List Nat) (tc : TT) (te : TE) (σ : St) (H : Hp) (R : V → Hp → Prop) : Prop :=
  wi σ H fun J H1 => ∀ D, H1 D = none → CompW J js tc te σ R D H1

section
variable {X : Cx} {elt iter : Expr} {x : Str} {px pos : Pos} {ifs : List Expr} {scope : Scope} {wi : TI} {tc : TT} {te : TE} {ys : List Str} {js : List Nat}

theorem comp_core {use : Option (Value → Sem Unit)} {pins : List (Addr × Obj)} {s : Shared} {σ : St} {H : Hp} {R : V → Hp → Prop} {Q : Value → Shared → Prop} {pos' : Pos} (hc : X.calm = true) (hi : PI X (.Name x px) iter wi)
    (S : CompOk scope X.env x ys) (hjs : js.map (fun j => X.N[j]?) = ys.map some) (hnd : (x :: ys).Nodup)
    (ht : ∀ C s₀ H₀ fp, PTs (compCx X scope x ys C s₀ H₀ fp) ifs tc) (he : ∀ C s₀ H₀ fp, PE (compCx X scope x ys C s₀ H₀ fp) elt te)
    (I : Inv X pins σ H s) (h : tCompR wi js tc te σ H R)
    (fin : ∀ (D C : Addr) (H' : Hp) (s' : Shared) (m : Str → Option Value), Inv X pins σ H' s' → s'.heap.Ns C m → H' C = none → C ≠ X.env.locals → X.s₀.heap.objs.size ≤ C → (∀ y c, X.env.cells.lookup y = some c → c ≠ C) → (∀ p ∈ X.pn ++ pins, p.1 ≠ C) →
      R (.ref D) H' → compPost (model X.prog X.w) X.A X.xe use Q (.ref D) C (.ok .next) s')
    (hs : ∀ x, foldedSetIterable iter X.env x = pure x) :
    wpAny (model X.prog X.w) X.A (comprehension (.ListComp elt [⟨.Name x px, iter, ifs, 0⟩] scope pos) scope X.env pos' (newList []) false (eval iter X.env) use) Q X.xe s := by
  refine wpAny_comprehension_free (use := use) rfl hs (closureFor_eq fun y hy e => I.ok.has y.1 (.inl (S.free y hy e).2)) S.kind S.names ?_
  refine thn (hi pins s σ H _ I h) fun v s1 h1 => thn h1 fun itv s2 h2 => ?_
  obtain ⟨it, fp, tn, J, H2, e, I2, T, st2, f2, rd⟩ := h2
  subst e
  refine wpAny_newObj_type (wpAny_newFunctionEnv S.nocell (by intro y hy; simp at hy) (fun h₁ hns₁ hsb₁ => ?_) S.kind)
  have hDn : H2 s2.heap.objs.size = none := I2.hok.fresh (Nat.le_refl _)
  obtain ⟨W, ⟨m0, w0⟩, turn⟩ := rd s2.heap.objs.size hDn
  have I3 : Inv X pins σ (upd H2 s2.heap.objs.size (.lst [])) { s2 with heap := s2.heap.push { cls := .type "list", data := .seq ([] : List Value).toArray }, toks := s2.toks } := I2.lnew (its := []) .nil (Nat.zero_le _)
  have k23 : ∀ b o, s2.heap.get? b = some o → (s2.heap.push { cls := .type "list", dict := none, data := .seq ([] : List Value).toArray }).get? b = some o := fun b o e => Heap.get?_push_of_some _ e
  have hfpo : ∀ b ∈ fp, b < s2.heap.objs.size := fun b hb => by obtain ⟨o, e, _⟩ := T.obj _ _ st2 b hb; exact Heap.lt_size e
  generalize hH3 : s2.heap.push { cls := .type "list", dict := none, data := .seq ([] : List Value).toArray } = hp3 at hns₁ hsb₁ I3 k23 ⊢
  have hC3 : hp3.objs.size = s2.heap.objs.size + 1 := by rw [← hH3, Heap.size_push]
  have k34 : ∀ b o, hp3.get? b = some o → h₁.get? b = some o := fun b o e => hsb₁.extBut b o (Nat.ne_of_lt (Heap.lt_size e)) (Heap.get?_push_of_some _ e)
  have hf3 : ∀ b ∈ fp, FpOk X pins (upd H2 s2.heap.objs.size (.lst [])) b ∧ b < hp3.objs.size := fun b hb => ⟨⟨by rw [upd_ne (Nat.ne_of_lt (hfpo b hb))]; exact (f2 b hb).1, (f2 b hb).2⟩, by rw [hC3]; exact Nat.lt_succ_of_lt (hfpo b hb)⟩
  have I4 := comp_in (x := x) (ys := ys) (js := js) (scope := scope) (fp := fp) (h₁ := h₁) hc S hjs I3 hf3 hns₁ k34 (s2.toks + ([] : List (Str × Value)).length)
  have st4 : tn 0 h₁ := T.keep _ _ _ st2 fun b _ o e => k34 b o (k23 b o e)
  -- what stays true of the iterator's records
  have stat : ∀ {H' : Hp}, (∀ b ∈ fp, H' b = none) → ∀ b ∈ fp, FpOk (compCx X scope x ys hp3.objs.size { s2 with heap := hp3, toks := s2.toks } (upd H2 s2.heap.objs.size (.lst [])) fp) [] H' b := fun hn b hb => by
    refine ⟨hn b hb, ?_⟩
    have q := I4.ok.exf b hb
    exact ⟨q.1, I4.ok.exfs b hb, .inl hb, q.2, fun p hp => absurd (show p ∈ ([] : List (Addr × Obj)) from hp) (by simp)⟩
  have loop : ∀ s₄ : Shared, s₄ = { s2 with heap := h₁, toks := s2.toks + ([] : List (Str × Value)).length } →
      codeAny (model X.prog X.w) X.A (.compLoop (.ListComp elt [⟨.Name x px, iter, ifs, 0⟩] scope pos) 0 (.ref it) (.ref s2.heap.objs.size) (compEnvC scope (closL X.env.cells scope.names []) hp3.objs.size X.env))
        (compPost (model X.prog X.w) X.A X.xe use Q (.ref s2.heap.objs.size) hp3.objs.size) s₄ := by
    rintro s₄ rfl
    refine compLoop_own (fun n s' => ∃ i o H', Inv (compCx X scope x ys hp3.objs.size { s2 with heap := hp3, toks := s2.toks } (upd H2 s2.heap.objs.size (.lst [])) fp) [] (cSt js o σ) H' s' ∧ tn i s'.heap ∧ (∀ b ∈ fp, H' b = none) ∧ W i n H') ?_ m0
      ⟨0, none, _, I4, st4, fun b hb => (hf3 b hb).1.1, w0⟩
    rintro n s5 ⟨i, o, H5, I5, st5, fr5, w5⟩
    rcases turn i n H5 w5 with ⟨stop, qn⟩ | ⟨go, N, hN, step⟩
    · refine thn (T.done (compCx X scope x ys hp3.objs.size { s2 with heap := hp3, toks := s2.toks } (upd H2 s2.heap.objs.size (.lst [])) fp) rfl rfl rfl rfl i [] s5 _ H5 (fun _ _ => False) I5 (stat fr5) st5 stop) fun r s6 ⟨hr, I6⟩ => ?_
      subst hr
      have I7 : Inv X pins σ H5 s6 := comp_out (D := s2.heap.objs.size) (H3 := upd H2 s2.heap.objs.size (.lst [])) (s3 := { s2 with heap := hp3, toks := s2.toks }) I2 f2 k23 rfl (Nat.le_refl _) (fun b hb => upd_ne hb) hDn I6
      obtain ⟨m, hm, _⟩ := I6.loc
      refine fin s2.heap.objs.size hp3.objs.size H5 s6 m I7 hm I6.free ?_ ?_ (fun y c e z => ?_) (fun p hp z => ?_) qn
      · intro z
        have := I2.lt
        rw [← z, hC3] at this
        exact absurd this (Nat.not_lt.mpr (Nat.le_succ _))
      · rw [hC3]; exact Nat.le_succ_of_le I2.sz
      · obtain ⟨v', o', ho', _⟩ := I2.cell y c e
        have := Heap.lt_size ho'
        rw [z, hC3] at this
        exact absurd this (Nat.not_lt.mpr (Nat.le_succ _))
      · have := Heap.lt_size (I2.pin p hp).1
        rw [z, hC3] at this
        exact absurd this (Nat.not_lt.mpr (Nat.le_succ _))
    · refine thn (T.item (compCx X scope x ys hp3.objs.size { s2 with heap := hp3, toks := s2.toks } (upd H2 s2.heap.objs.size (.lst [])) fp) rfl rfl rfl rfl i [] s5 _ H5 (fun _ _ => False) I5 (stat fr5) st5 go) fun r s6 ⟨u, hr, h6⟩ => ?_
      subst hr
      refine thn h6 fun _ s7 ⟨xv, H7, I7, r7, y7, st7, fr7⟩ => ?_
      have I7' := I7.pinned (stat fr7) (T.obj _ _ st7)
      have again : ∀ {s' : Shared} {H' : Hp} {m' : Nat}, Inv (compCx X scope x ys hp3.objs.size { s2 with heap := hp3, toks := s2.toks } (upd H2 s2.heap.objs.size (.lst [])) fp) ([] ++ pinsAt fp s7.heap) (cSt js (some xv) σ) H' s' → m' < n → W (i + 1) m' H' →
          ∃ m, m < n ∧ ∃ i o H', Inv (compCx X scope x ys hp3.objs.size { s2 with heap := hp3, toks := s2.toks } (upd H2 s2.heap.objs.size (.lst [])) fp) [] (cSt js o σ) H' s' ∧ tn i s'.heap ∧ (∀ b ∈ fp, H' b = none) ∧ W i m H' := fun {s' H' m'} J hm hw => by
        refine ⟨m', hm, i + 1, some xv, H', J.unpinned, T.keep _ _ _ st7 fun b hb o e => (J.pin (b, o) (List.mem_append_right _ (List.mem_append_right _ (mem_pinsAt hb e)))).1, fun b hb => ?_, hw⟩
        obtain ⟨o, e, d⟩ := T.obj _ _ st7 b hb
        exact (J.pin (b, o) (List.mem_append_right _ (List.mem_append_right _ (mem_pinsAt hb e)))).2.1
      have hg : PG (compCx X scope x ys hp3.objs.size { s2 with heap := hp3, toks := s2.toks } (upd H2 s2.heap.objs.size (.lst [])) fp) (.Name x px) (gName 0) := pg_name hnd rfl (.inl (lookup_relabel_local S.hx)) (.inr (lookup_relabel_local S.hx))
      refine thn (hg _ s7 _ H7 xv u (fun σ' H' => σ' = cSt js (some xv) σ ∧ H' = H7) I7' r7 ⟨rfl, rfl⟩) fun _ s8 ⟨σ8, H8, I8, e8, e8'⟩ => ?_
      subst e8 e8'
      refine thn (ht _ _ _ _ _ s8 _ _ _ I8 (step xv _ y7)) fun c s9 ⟨H9, I9, q9⟩ => ?_
      cases c with
      | false =>
        obtain ⟨m', hm, hw⟩ := hN H9 q9
        exact again I9 hm hw
      | true =>
        show wpAny _ _ _ _ _ _
        refine thn (he _ _ _ _ _ s9 _ _ _ I9 q9) fun y s10 ⟨yv, H10, I10, r10, q10⟩ => ?_
        obtain ⟨zs, hD10, hz, hw⟩ := q10
        obtain ⟨m', hm, hw⟩ := hN _ hw
        refine thn (mt_append _ s10 _ H10 (.ref s2.heap.objs.size) [yv] _ [y] (fun _ H' => H' = upd H10 s2.heap.objs.size (.lst (zs ++ [yv]))) I10 rfl (.cons r10 .nil) ⟨_, zs, yv, rfl, rfl, hD10, hz, rfl⟩) fun _ s11 ⟨_, H11, I11, _, e11⟩ => ?_
        subst e11
        exact again I11 hm hw
  exact codeAny_compStart_list (loop _ rfl) (T.self _ 0 _ _ _ st4 (loop _ rfl))

/-- a comprehension as a value -/
def tComp (wi : TI) (js : List Nat) (tc : TT) (te : TE) : TE := fun σ H Q => tCompR wi js tc te σ H Q
theorem pe_comp (hc : X.calm = true) (hi : PI X (.Name x px) iter wi) (S : compB scope X.env x ys = true) (hjs : js.map (fun j => X.N[j]?) = ys.map some) (hnd : (x :: ys).Nodup)
    (ht : ∀ C s₀ H₀ fp, PTs (compCx X scope x ys C s₀ H₀ fp) ifs tc) (he : ∀ C s₀ H₀ fp, PE (compCx X scope x ys C s₀ H₀ fp) elt te)
    (hs : ∀ x, foldedSetIterable iter X.env x = pure x := by intro _; rfl) : PE X (.ListComp elt [⟨.Name x px, iter, ifs, 0⟩] scope pos) (tComp wi js tc te) := by
  intro pins s σ H Q I h
  rw [eval_ListComp]
  refine comp_core hc hi (compOk_of S) hjs hnd ht he I h (fun D C H' s' m J hn f1 f2 f3 f4 f5 q => ?_) hs
  refine ⟨m, hn, fun h' hs' => ⟨.ref D, H', ?_, rfl, q⟩⟩
  exact J.turned (t' := s'.toks) (fun b o hb e => (hs'.2 b hb).trans e) f1 f2 (.inr f3) f4 f5

/-- name = a comprehension, where the two stores are exchanged -/
def sComp (i : Nat) (wi : TI) (js : List Nat) (tc : TT) (te : TE) : TS := fun D σ H => tCompR wi js tc te σ H fun v H' => D.nx (σ.set i (some v)) H'
theorem ps_setComp {i : Nat} {y : Str} {py spos : Pos} (hN : X.N.Nodup) (hiy : X.N[i]? = some y) (hy : X.env.scope.names.lookup y = some .local) (hc : X.calm = true) (hi : PI X (.Name x px) iter wi) (S : compB scope X.env x ys = true) (hjs : js.map (fun j => X.N[j]?) = ys.map some) (hnd : (x :: ys).Nodup)
    (ht : ∀ C s₀ H₀ fp, PTs (compCx X scope x ys C s₀ H₀ fp) ifs tc) (he : ∀ C s₀ H₀ fp, PE (compCx X scope x ys C s₀ H₀ fp) elt te)
    (hsw : swapsWith (.ListComp elt [⟨.Name x px, iter, ifs, 0⟩] scope pos) (some (.Name y py)) spos.line X.env = pure true := by rfl)
    (hs : ∀ x, foldedSetIterable iter X.env x = pure x := by intro _; rfl) : PS X (.Assign [.Name y py] (.ListComp elt [⟨.Name x px, iter, ifs, 0⟩] scope pos) spos) (sComp i wi js tc te) := by
  intro pins s σ H D I h
  rw [exec_Assign_Name_used _ _ _ _ hsw]
  refine wpAny_bind (wpAny_standAt (wpAny_bind ?_))
  show wpAny _ _ (do let _ ← comprehension (.ListComp elt [⟨.Name x px, iter, ifs, 0⟩] scope pos) scope X.env _ (newList []) false (eval iter X.env) (some (assign (.Name y py) X.env))) _ _ s
  refine wpAny_bind (wpAny_mono (comp_core (use := some (assign (.Name y py) X.env)) (Q := fun _ s' => SP X pins D .next s') hc hi (compOk_of S) hjs hnd ht he I h (fun D' C H' s' m J hn f1 f2 f3 f4 f5 q => ?_) hs)
    (fun _ s' hq => wpAny_pure (wpAny_pure hq)) fun _ _ e => e)
  show wpAny _ _ (assign (.Name y py) X.env (.ref D')) _ _ s'
  refine wpAny_assign_Name (store_ok2 (v := .ref D') J hN hiy (.inl hy) rfl (fun s'' J' ⟨a, sb, ha⟩ => ?_) (.inr hy))
  have ne : C ≠ a := by
    rcases ha with ha | ha
    · rw [ha]; exact f2
    · exact Ne.symm (f4 _ _ ha)
  refine ⟨m, hn.sameBut sb ne, fun h' hs' => ⟨_, _, ?_, q⟩⟩
  exact J'.turned (t' := s''.toks) (fun b o hb e => (hs'.2 b hb).trans e) f1 f2 (.inr f3) f4 f5
end
end L2

set_option Elab.async false
set_option linter.all false
set_option maxRecDepth 100000
set_option maxHeartbeats 4000000
namespace HT
open PySem PySem.AutoSeq1 PyProof.Rows
theorem ext_tup (l : Addr) (items : Array Value) (n : Nat) (b : Addr) (items2 : Array Value) (n2 : Nat) (dd : Option Addr) (sl : Array (Option Value)) (hs0 : ¬(!items.isEmpty && Builtin.List.listTooLong (items.size + items2.size)) = true) (hs1 : items.size ≤ sizeLine) (hs2 : items.size + items2.size ≤ sizeLine + 1) :
    Meets (Builtin.«list.extend» ⟨[.ref l, .ref b], []⟩) (fun _ R s => s.heap.get? l = some { cls := .type "list", dict := none, data := .seq items n, slots := #[] } ∧ s.heap.get? b = some { cls := .type "tuple", dict := dd, data := .seq items2 n2, slots := sl } ∧ R (.ok (.ret Value.none)) { s with heap := s.heap.update l (Obj.mapSeq fun x => x ++ items2), toks := s.toks }) :=
  .of_wp fun prog w A R s h => by
    obtain ⟨hp, g, d, tk, os⟩ := s; obtain ⟨hl, hb, h⟩ := h; have f1 := AutoSeq1.idx_int; have f2 := AutoSeq1.sub_tuple_tuple; have f3 := AutoSeq1.sub_list_list; have f4 := AutoSeq1.sub_tuple_list; have f5 := AutoSeq1.sub_list_tuple;
    have hz' : (items ++ items2).size ≤ sizeLine + 1 := by rw [Array.size_append]; exact hs2
    wp_walk using (wpAny_updateSeq hl rfl (hz := hs1) (_hz' := hz')), wpAny_loadPart' hl, wpAny_loadPart' hb; exact ⟨_, rfl, h⟩
end HT
namespace L2
open PySem PySem.Spec PyProof.Rows

/-! ### products of any size -/
section
variable {X : Cx}
theorem op_mulB : OpR X (binaryOp .Mult) (rI IntMulOk fun i j => .int (i * j)) := opI fun _ _ _ _ _ _ _ hc q => mul_int q hc
end

/-! ### isinstance against built-in types -/
def isT (T c : String) : Option Bool := PySem.W.kitOne { } (.type T) (.type c)
def isAny (T : String) (cs : List String) : Option Bool := PySem.W.kitAny { } (.type T) (cs.map Value.type)
theorem kitOne_type (K : PySem.W.Frag) (T c : String) : PySem.W.kitOne K (.type T) (.type c) = isT T c := rfl
theorem kitAny_type (K : PySem.W.Frag) (T : String) : ∀ cs : List String, PySem.W.kitAny K (.type T) (cs.map Value.type) = isAny T cs
  | [] => rfl
  | c :: r => by
    unfold isAny
    simp only [List.map_cons, PySem.W.kitAny, kitOne_type]
    have ih := kitAny_type K T r
    unfold isAny at ih
    rw [ih]
def rIsi (K : PySem.W.Frag) : List V → Hp → VK → Prop := fun xs H Q => ∃ x T c b, xs = [x, .ty c] ∧ TyOf K H x (.type T) ∧ isT T c = some b ∧ Q (.bl b) H
def rIsiT (K : PySem.W.Frag) : List V → Hp → VK → Prop := fun xs H Q => ∃ x T tp cs b, xs = [x, .ref tp] ∧ TyOf K H x (.type T) ∧ H tp = some (.tup (cs.map V.ty)) ∧ isAny T cs = some b ∧ Q (.bl b) H
theorem vals_types : ∀ {cs : List String} {us : List Value}, Vals (cs.map V.ty) us → us = cs.map Value.type
  | [], _, .nil => rfl
  | c :: r, _, .cons h t => by
    rw [show _ = Value.type c from h, vals_types t]
    rfl
section
variable {X : Cx}
theorem call_isi : CallR X (.builtin "isinstance") (rIsi X.K) := by
  intro pins s σ H xs us Q I r h
  obtain ⟨x, T, c, b, rfl, ty, e, q⟩ := h
  obtain ⟨u, w', rfl, r1, r2⟩ := vals2 r
  cases (show w' = Value.type c from r2)
  exact isinst_ok I r1 ty ((kitOne_type _ _ _).trans e) fun tk => ⟨.bl b, H, I.tok tk, rfl, q⟩
theorem kitx_ty {K : PySem.W.Frag} {H : Hp} {pins : List (Addr × Obj)} {σ : St} {s : Shared} {x : V} {u : Value} {T : String} (I : Inv X pins σ H s) (rx : RelV x u) (ty : TyOf K H x (.type T)) :
    ∃ P : Heap → Prop, PySem.W.KitX X.K u (.type T) P ∧ P s.heap ∧ u ≠ .builtin "__main__.__loader__#opaque" := by
  cases ty with
  | non => cases (show u = Value.none from rx); exact ⟨_, PySem.W.kitx_none, True.intro, fun z => nomatch z⟩
  | bl y => cases (show u = Value.bool y from rx); exact ⟨_, PySem.W.kitx_bool, True.intro, fun z => nomatch z⟩
  | int i => obtain ⟨t, q⟩ := (show ∃ t, u = Value.int i t from rx); cases q; exact ⟨_, PySem.W.kitx_int, True.intro, fun z => nomatch z⟩
  | str y => obtain ⟨t, q⟩ := (show ∃ t, u = Value.str y t from rx); cases q; exact ⟨_, PySem.W.kitx_str, True.intro, fun z => nomatch z⟩
  | flt y => obtain ⟨t, q⟩ := (show ∃ t, u = Value.float y t from rx); cases q; exact ⟨_, PySem.W.kitx_float, True.intro, fun z => nomatch z⟩
  | @lst a xs ea =>
    cases (show u = Value.ref a from rx)
    obtain ⟨_, _, n, _, h1⟩ := (show ObjOk X.prog X.w H s.heap a (.lst xs) from I.hok a _ ea)
    exact ⟨_, PySem.W.kitx_list, ⟨_, h1, rfl⟩, fun z => nomatch z⟩
  | @frz a ob xs ea =>
    cases (show u = Value.ref a from rx)
    obtain ⟨_, _, _, n, _, h1⟩ := (show ObjOk X.prog X.w H s.heap a (.frz ob (.lst xs)) from I.hok a _ ea)
    exact ⟨_, PySem.W.kitx_list, ⟨_, h1, rfl⟩, fun z => nomatch z⟩
  | @tup a xs ea =>
    cases (show u = Value.ref a from rx)
    obtain ⟨_, _, _, p⟩ := (show ObjOk X.prog X.w H s.heap a (.tup xs) from I.hok a _ ea)
    obtain ⟨o, h1, h2, _⟩ := p
    exact ⟨_, PySem.W.kitx_tuple, ⟨o, h1, h2⟩, fun z => nomatch z⟩
  | @dK a kvs ea =>
    cases (show u = Value.ref a from rx)
    obtain ⟨_, _, vs, _, p⟩ := (show ObjOk X.prog X.w H s.heap a (.dK kvs) from I.hok a _ ea)
    obtain ⟨o, es, ep, h1, h2, _⟩ := p
    exact ⟨_, PySem.W.kitx_dict, ⟨o, h1, h2.1⟩, fun z => nomatch z⟩
  | @dT a kvs ea =>
    cases (show u = Value.ref a from rx)
    obtain ⟨_, _, xs, _, o, es, ep, h1, h2, _⟩ := (show ObjOk X.prog X.w H s.heap a (.dT kvs) from I.hok a _ ea)
    exact ⟨_, PySem.W.kitx_dict, ⟨o, h1, h2.1⟩, fun z => nomatch z⟩
theorem call_isiT : CallR X (.builtin "isinstance") (rIsiT X.K) := by
  intro pins s σ H xs us Q I r h
  obtain ⟨x, T, tp, cs, b, rfl, ty, ht, e, q⟩ := h
  obtain ⟨u, w', rfl, r1, r2⟩ := vals2 r
  cases (show w' = Value.ref tp from r2)
  obtain ⟨P, Z, hP, hx⟩ := kitx_ty I r1 ty
  obtain ⟨_, its, rv, o, ho, hc, n, hd⟩ := (show ObjOk X.prog X.w H s.heap tp (.tup (cs.map V.ty)) from I.hok tp _ ht)
  obtain ⟨c0, dd, data, sl⟩ := o
  simp only at hc hd
  subst hc hd
  have hi := vals_types rv
  subst hi
  exact PySem.W.kia_tup Z I.kIn hP ho ((kitAny_type _ _ _).trans e) hx fun tk => ⟨.bl b, H, I.tok tk, rfl, q⟩
end

/-! ### a list against the empty list -/
section
variable {X : Cx}
theorem sqL_obj {pins : List (Addr × Obj)} {σ : St} {H : Hp} {s : Shared} {a : Addr} {xs : List V} (I : Inv X pins σ H s) (h : SqL X.K H a xs) :
    ∃ (its : List Value) (n : Nat) (dd : Option Addr) (sl : Array (Option Value)), Vals xs its ∧ s.heap.get? a = some { cls := .type "list", dict := dd, data := .seq its.toArray n, slots := sl } := by
  obtain ⟨its, r, ⟨o, n, e, c, d, dt⟩, _⟩ := I.list h
  obtain ⟨c0, d0, dt0, sl0⟩ := o
  simp only at c d dt
  subst c dt
  exact ⟨its, n, d0, sl0, r, e⟩
def rNeNil (K : PySem.W.Frag) : R2 := fun x y H Q => ∃ a b xs, x = .ref a ∧ y = .ref b ∧ SqL K H a xs ∧ SqL K H b [] ∧ Q (.bl (!xs.isEmpty)) H
theorem op_neNil (hu : X.A.units < cLine) : OpR X (compareOp .NotEq) (rNeNil X.K) := by
  intro pins s σ H x y v u Q I rx ry h
  obtain ⟨a, b, xs, rfl, rfl, ha, hb, q⟩ := h
  cases rx
  cases ry
  obtain ⟨its, n, dd, sl, r, ho⟩ := sqL_obj I ha
  obtain ⟨its2, n2, dd2, sl2, r2, ho2⟩ := sqL_obj I hb
  cases r2
  cases r with
  | nil =>
    refine richCompare_meets_room (op := .NotEq) ⟨_, ho, rfl⟩ ⟨_, ho2, rfl⟩ PySem.F.slot_list_ne PySem.F.entry_list_ne (PySem.F.args_list_ne_2 _ _) (SeqAt.list_neAt a b _ _ n n2 dd dd2 sl sl2 rfl (fun _ => true)) ⟨ho, ho2, ?_, ?_⟩ hu
    · intro j h1; simp at h1
    · exact ⟨(fun x => nomatch x), ⟨.bl false, H, I, rfl, q⟩⟩
  | cons r1 r2 =>
    refine richCompare_meets_room (op := .NotEq) ⟨_, ho, rfl⟩ ⟨_, ho2, rfl⟩ PySem.F.slot_list_ne PySem.F.entry_list_ne (PySem.F.args_list_ne_2 _ _) (SeqAt.list_ne_lengthsAt a b _ _ n n2 dd dd2 sl sl2 (by simp)) ⟨ho, ho2, ?_⟩ hu
    exact ⟨(fun x => nomatch x), ⟨.bl true, H, I, rfl, q⟩⟩
end

/-! ### xs.extend of a list or a tuple that is read -/
section
variable {X : Cx}
end
/-! ### a slice of a text -/
section
variable {X : Cx} {tg : Expr}
def rSlS : V → Option Int → Option Int → Hp → VK → Prop := fun x lo hi H Q => ∃ z, x = .str z ∧ z.length ≤ sizeLine ∧ Q (.str (Txt.slice z lo hi)) H
theorem part_of {v : Value} {o : Option Int} (p : IsPart v o) : ∃ l : Option (Int × Tok), v = partValue l ∧ l.map (·.1) = o := by
  cases p with
  | none => exact ⟨none, rfl, rfl⟩
  | int i t => exact ⟨some (i, t), rfl, rfl⟩
theorem sl_str : SlR X rSlS := by
  intro pins s σ H x v vl vu lo hi sl Q I rx hs pl pu h
  obtain ⟨z, rfl, hz, q⟩ := h
  obtain ⟨t, rfl⟩ := rx
  obtain ⟨l, rfl, el⟩ := part_of pl
  obtain ⟨u, rfl, eu⟩ := part_of pu
  subst el eu
  refine ⟨"str", _, F.slot_str_getitem.lookup, typeIs_str _ _ _, wpAny_getItem_str_slice (l := l) (u := u) (st := none) hs rfl (post_val_or_str ⟨Nat.le_trans (Txt.slice_le z _ _) hz, fun t' k => ?_⟩)⟩
  exact ⟨.str (Txt.slice z (l.map (·.1)) (u.map (·.1))), H, I.tok k, ⟨t', rfl⟩, q⟩

/-! ### the signs of a text, walked -/

/-! ### range(a, b, -1) -/
def Itd (hi : Int) (n : Nat) : It := ⟨fun i _ => i < n, fun i H x H' => H' = H ∧ x = .int (hi - i), fun i _ => n ≤ i⟩
theorem turn_rangeD {P : Program} {w : World} {K : PySem.W.Frag} (it : Addr) (hi : Int) (n : Nat) : Turn P w K tg (Itd hi n) [it] it (fun i h => IsRangeIter h it (hi + (i : Nat) * (-1)) ((n : Int) - (i : Nat)) (-1)) where
  mem := by simp
  obj := fun i h st b hb => by
    have e : b = it := by simpa using hb
    subst e
    exact ⟨_, st, fun v z => by
      have z' : Data.fields _ = Data.cell v := z
      cases z'⟩
  keep := fun i h h' st k => k it (by simp) _ st
  item := by
    intro X hP hw hK hc i pins s σ H E I hf st hg
    subst hP hw hK
    obtain ⟨f0, f1, f2, f3, f4, f5⟩ := hf it (by simp)
    have W := Walks.range (prog := X.prog) (w := X.w) (I.ok.hd hc) it hi (-1) n
    refine W.item i s _ _ hg st fun v h' tk hv st' kk => ?_
    obtain ⟨t, rfl⟩ := hv
    have I1 : Inv X pins σ H { s with heap := h', toks := tk } := I.turned (fun b o hb e => kk b o (by simpa using hb) e) f0 f1 f3 f4 f5
    refine ⟨_, rfl, go_of (s := { s with heap := h', toks := tk }) (n := "range_iterator") st' rfl rfl (by decide) ⟨.int (hi - i), H, I1, ⟨t, ?_⟩, ⟨rfl, rfl⟩, st', fun b hb => (hf b hb).1⟩⟩
    have : hi + (i : Int) * (-1) = hi - i := by omega
    rw [this]
  done := by
    intro X hP hw hK hc i pins s σ H E I hf st hg
    subst hP hw hK
    obtain ⟨f0, f1, f2, f3, f4, f5⟩ := hf it (by simp)
    exact wpAny_pyNext_range_end (I.ok.hd hc) st (by have : n ≤ i := hg; omega) fun h' eb => ⟨rfl, I.turned (t' := s.toks) (fun b o hb e => eb b o hb e) f0 f1 f3 f4 f5⟩
  self := fun _ _ _ _ _ st h => wpAny_pyIter_rangeiter st h
theorem range_itD {pins : List (Addr × Obj)} {σ : St} {H : Hp} {s : Shared} {R : It → Hp → Prop} {E : Value → Shared → Prop} {hi lo : Int} {t u v : Tok} {tk : Nat} (I : Inv X pins σ H s) (h1 : -(2 ^ 62) ≤ lo) (h2 : lo < 2 ^ 62) (h3 : -(2 ^ 62) ≤ hi) (h4 : hi < 2 ^ 62)
    (q : R (Itd hi (hi - lo).toNat) H) : wpAny (model X.prog X.w) X.A (pyIter (.ref s.heap.objs.size)) (PIE X pins σ tg R) E { s with heap := s.heap.push { cls := .type "range", data := .fields #[.int hi t, .int lo u, .int (-1) v] }, toks := tk } := by
  have hsz : Builtin.Range.rangeSize hi lo (-1) = if hi > lo then hi - lo else 0 := by
    unfold Builtin.Range.rangeSize
    rw [if_neg (by decide)]
    simp only [Int.neg_neg, Int.ediv_one]
    split <;> omega
  have hsm : Builtin.Range.small hi lo (-1) = true := by
    unfold Builtin.Range.small
    rw [hsz]
    simp only [Builtin.Range.rangeFitsLong, Bool.and_eq_true, Bool.or_eq_true, decide_eq_true_eq, beq_iff_eq]
    rw [if_neg (show ¬ ((-1 : Int) > 0) by decide)]
    simp only [Bool.and_eq_true, decide_eq_true_eq]
    by_cases hgt : hi > lo
    · simp only [if_pos hgt]; omega
    · simp only [if_neg hgt]; omega
  refine wpAny_pyIter_range (IsRange.new ..) hsm ?_
  have I1 : Inv X pins σ H { s with heap := s.heap.push { cls := .type "range", data := .fields #[.int hi t, .int lo u, .int (-1) v] }, toks := tk } := I.kept fun b o e => Heap.get?_push_of_some _ e
  refine ⟨(s.heap.push { cls := .type "range", data := .fields #[.int hi t, .int lo u, .int (-1) v] }).objs.size, [(s.heap.push { cls := .type "range", data := .fields #[.int hi t, .int lo u, .int (-1) v] }).objs.size], _, _, H, rfl,
    I1.kept (t' := tk) fun b o e => Heap.get?_push_of_some _ e, turn_rangeD _ hi (hi - lo).toNat, ?_, fun b hb => ?_, q⟩
  · have e1 : hi + ((0 : Nat) : Int) * (-1) = hi := by simp
    have e2 : (((hi - lo).toNat : Nat) : Int) - ((0 : Nat) : Int) = Builtin.Range.rangeSize hi lo (-1) := by
      rw [hsz]
      split <;> omega
    show IsRangeIter _ _ (hi + ((0 : Nat) : Int) * (-1)) ((((hi - lo).toNat : Nat) : Int) - ((0 : Nat) : Int)) (-1)
    rw [e1, e2]
    exact Heap.get?_push_size _ rfl
  · have e : b = (s.heap.push { cls := .type "range", data := .fields #[.int hi t, .int lo u, .int (-1) v] }).objs.size := by simpa using hb
    subst e
    exact I1.fpOk (Nat.le_refl _) (I1.hok.fresh (Nat.le_refl _))
def iRngD (ta : TA) : TI := fun σ H R => ta σ H fun vs H1 => ∃ i j : Int, vs = [.int i, .int j, .int (-1)] ∧ (-(2 ^ 62) ≤ i ∧ i < 2 ^ 62 ∧ -(2 ^ 62) ≤ j ∧ j < 2 ^ 62) ∧ R (Itd i (i - j).toNat) H1
theorem pi_rangeD {a b c : Expr} {ta : TA} {p pos : Pos} (hg : Gl X "range") (hm : X.mg "range" = none) (ha : PA X [a, b, c] ta) (hs : starEach [a, b, c] X.env = [(false, eval a X.env), (false, eval b X.env), (false, eval c X.env)] := by rfl) (hs2 : starEach [b, c] X.env = [(false, eval b X.env), (false, eval c X.env)] := by rfl) :
    PI X tg (.Call (.Name "range" p) [a, b, c] [] pos) (iRngD ta) := by
  intro pins s σ H R I h
  refine Call_ (ld_blt I hg hm boot_range (PyProof.Rows.callWith_type1 (thn (ha pos pins s σ H _ I h) fun us s1 ⟨vs, H1, I1, r1, q1⟩ => ?_) (by rw [hs, hs2]) (by rw [hs2]; rfl)))
  obtain ⟨i, j, e, ⟨q1, q2, q3, q4⟩, q⟩ := q1
  subst e
  cases r1 with
  | cons r rr =>
    cases rr with
    | cons r' rr =>
      cases rr with
      | cons r'' rr =>
        cases rr
        obtain ⟨t, rfl⟩ := r
        obtain ⟨t', rfl⟩ := r'
        obtain ⟨t'', rfl⟩ := r''
        exact call_range_3 (by decide) (range_itD I1 q3 q4 q1 q2 q) (.inl (PyProof.noPylong_small (by decide)))
end
/-! ### the same rules, the written part named (for a comprehension's block) -/
section
variable {X : Cx}
theorem op_notIn_seqK (K : PySem.W.Frag) (h : X.K = K := by rfl) : OpR X (compareOp .NotIn) (rIn K true) := by subst h; exact op_notIn_seq
theorem call_isiK (K : PySem.W.Frag) (h : X.K = K := by rfl) : CallR X (.builtin "isinstance") (rIsi K) := by subst h; exact call_isi
end
end L2

set_option linter.all false
namespace J
/-! ### the last place of a name -/
section
variable {α : Type} [DecidableEq α]
def lastIx : List α → α → Option Nat
  | [], _ => none
  | y :: r, x => match lastIx r x with
    | some i => some (i + 1)
    | none => if y = x then some 0 else none
theorem lastIx_get : ∀ {l : List α} {x : α} {i : Nat}, lastIx l x = some i → l[i]? = some x
  | [], _, _, h => by cases h
  | y :: r, x, i, h => by
    unfold lastIx at h
    cases e : lastIx r x with
    | some j => rw [e] at h; cases h; simpa using lastIx_get e
    | none =>
      rw [e] at h
      dsimp only at h
      split at h
      · rename_i hy; cases h; simp [hy]
      · cases h
theorem lastIx_none : ∀ {l : List α} {x : α}, lastIx l x = none → ∀ i : Nat, l[i]? ≠ some x
  | [], _, _, i => by simp
  | y :: r, x, h, i => by
    unfold lastIx at h
    cases e : lastIx r x with
    | some j => rw [e] at h; cases h
    | none =>
      rw [e] at h
      dsimp only at h
      split at h
      · cases h
      · rename_i hy
        cases i with
        | zero => simpa using hy
        | succ i => simpa using lastIx_none e i
theorem lastIx_max : ∀ {l : List α} {x : α} {i : Nat}, lastIx l x = some i → ∀ j : Nat, i < j → l[j]? ≠ some x
  | [], _, _, h, _, _ => by cases h
  | y :: r, x, i, h, j, hj => by
    unfold lastIx at h
    cases e : lastIx r x with
    | some k =>
      rw [e] at h; cases h
      cases j with
      | zero => omega
      | succ j => simpa using lastIx_max e j (by omega)
    | none =>
      rw [e] at h
      dsimp only at h
      split at h
      · cases h
        cases j with
        | zero => omega
        | succ j => simpa using lastIx_none e j
      · cases h
theorem lastIx_lt {l : List α} {x : α} {i : Nat} (h : lastIx l x = some i) : i < l.length := (List.getElem?_eq_some_iff.mp (lastIx_get h)).1
theorem lastIx_uniq {l : List α} {x : α} {i j : Nat} (h : lastIx l x = some i) (g : l[j]? = some x) (m : ∀ k : Nat, j < k → l[k]? ≠ some x) : i = j := by
  rcases Nat.lt_trichotomy i j with q | q | q
  · exact absurd g (lastIx_max h j q)
  · exact q
  · exact absurd (lastIx_get h) (m i q)
theorem lastIx_mem {l : List α} {x : α} (h : x ∈ l) : ∃ i, lastIx l x = some i := by
  cases e : lastIx l x with
  | some i => exact ⟨i, rfl⟩
  | none =>
    obtain ⟨i, hi⟩ := List.getElem?_of_mem h
    exact absurd hi (lastIx_none e i)
end

/-! ### sums -/
inductive O3 where | add | sub | mul
  deriving DecidableEq
def O3.f : O3 → Int → Int → Int
  | .add, a, b => a + b
  | .sub, a, b => a - b
  | .mul, a, b => a * b
inductive Sm (α : Type) where
  | num (i : Int)
  | name (x : α)
  | op (o : O3) (a b : Sm α)
section
variable {α : Type} [DecidableEq α]
def Sm.val (ns : List α) (ps : List Int) : Sm α → Int
  | .num i => i
  | .name x => match lastIx ns x with
    | some i => ps.getD i 0
    | none => 0
  | .op o a b => o.f (a.val ns ps) (b.val ns ps)
/-- how many leaves -/
def Sm.lv : Sm α → Nat
  | .num _ => 1
  | .name _ => 1
  | .op _ a b => a.lv + b.lv
def Sm.dp : Sm α → Nat
  | .num _ => 1
  | .name _ => 1
  | .op _ a b => max a.dp b.dp + 1
theorem Sm.lv_pos : ∀ s : Sm α, 1 ≤ s.lv
  | .num _ => Nat.le_refl _
  | .name _ => Nat.le_refl _
  | .op _ a b => Nat.le_trans a.lv_pos (Nat.le_add_right _ _)
end
section
variable {α : Type} [DecidableEq α]
end
end J

set_option Elab.async false
set_option linter.all false
set_option maxRecDepth 100000
set_option maxHeartbeats 4000000
namespace J
open PySem L2

/-! ### built-in names -/
theorem bt_list : bootBuiltins "list" = some (.type "list") := by decide +kernel
theorem bt_tuple : bootBuiltins "tuple" = some (.type "tuple") := by decide +kernel
theorem bt_str : bootBuiltins "str" = some (.type "str") := by decide +kernel
theorem bt_int : bootBuiltins "int" = some (.type "int") := by decide +kernel
theorem bt_bool : bootBuiltins "bool" = some (.type "bool") := by decide +kernel
theorem bt_isinstance : bootBuiltins "isinstance" = some (.builtin "isinstance") := by decide +kernel

/-- a def of the text, as a caller wants it -/
structure Def (K : PySem.W.Frag) (mg : Str → Option Value) (x : Str) (st : Stmt) (ps : List Str) (f : Addr) (fd : FuncData) : Prop where
  F : Fun K x x st f fd
  b : Binds K fd ps []
  m : mg x = some (.ref f)

/-! ### heaps that grow -/
theorem same_new {H : Hp} {p : Addr} (h : H p = none) (o : HO) : Same H (upd H p o) := fun b u q => by rw [upd_ne (ne_of_none q h)]; exact q
theorem _root_.L2.Same.at {H H' : Hp} (S : Same H H') {l : Addr} (h : H l = none) (o : HO) : Same H (upd H' l o) := fun b u q => by rw [upd_ne (ne_of_none q h)]; exact S b u q
/-- tuples stay -/
def TupLe (H H' : Hp) : Prop := ∀ a xs, H a = some (.tup xs) → H' a = some (.tup xs)
theorem _root_.L2.Same.tup {H H' : Hp} (S : Same H H') : TupLe H H' := fun a xs h => S a _ h
/-- all but l stays -/
def But (l : Addr) (H H' : Hp) : Prop := ∀ b o, b ≠ l → H b = some o → H' b = some o
theorem but_upd {H : Hp} {l : Addr} (o : HO) : But l H (upd H l o) := fun b u n h => by rw [upd_ne n]; exact h
theorem But.tup {l : Addr} {H H' : Hp} {ys : List V} (B : But l H H') (hl : H l = some (.lst ys)) : TupLe H H' := fun a xs h => B a _ (ne_of h hl (by intro z; cases z)) h

/-! ### loops downwards -/
theorem for_rangeD {hi : Int} {n : Nat} {g : TG} {tb : TS} {D : Ends} {σ : St} {H : Hp} (Pv : Nat → St → Hp → Prop) (h0 : Pv 0 σ H)
    (hs : ∀ i σ H, i < n → Pv i σ H → g (.int (hi - i)) σ H fun σ2 H2 => tb { D with nx := Pv (i + 1), ct := Pv (i + 1), bk := D.nx } σ2 H2) (hd : ∀ σ H, Pv n σ H → D.nx σ H) :
    ∃ W : Nat → Nat → St → Hp → Prop, (∃ m, W 0 m σ H) ∧ ∀ i m σ H, W i m σ H →
      ((Itd hi n).stop i H ∧ D.nx σ H) ∨ ((Itd hi n).go i H ∧ ∃ N : St → Hp → Prop, (∀ σ' H', N σ' H' → ∃ m', m' < m ∧ W (i + 1) m' σ' H') ∧ ∀ x H', (Itd hi n).yld i H x H' → g x σ H' fun σ2 H2 => tb { D with nx := N, ct := N, bk := D.nx } σ2 H2) := by
  refine ⟨fun i m σ H => m = n - i ∧ i ≤ n ∧ Pv i σ H, ⟨n, by simp, Nat.zero_le _, h0⟩, ?_⟩
  rintro i m σ H ⟨rfl, hi', p⟩
  by_cases hlt : i < n
  · refine .inr ⟨hlt, Pv (i + 1), fun σ' H' p' => ⟨n - (i + 1), by omega, rfl, hlt, p'⟩, fun x H' y => ?_⟩
    obtain ⟨e, y⟩ := y
    subst e y
    exact hs i σ _ hlt p
  · have e : i = n := by omega
    subst e
    exact .inl ⟨Nat.le_refl _, hd σ H p⟩

/-! ### comprehensions: what one uses; Pv i H: i items taken; D: the list's place -/
section
variable {js : List Nat} {tc : TT} {te : TE} {σ : St} {H : Hp} {R : V → Hp → Prop} {D : Addr}
abbrev compBody (js : List Nat) (tc : TT) (te : TE) (σ : St) (D : Addr) (x : V) (H' : Hp) (N : Hp → Prop) : Prop :=
  tc (cSt js (some x) σ) H' fun c H2 => if c = true then te (cSt js (some x) σ) H2 fun y H3 => ∃ ys, H3 D = some (.lst ys) ∧ ys.length < sizeLine ∧ N (upd H3 D (.lst (ys ++ [y]))) else N H2
theorem comp_all {x : V} {H' : Hp} {N : Hp → Prop} (h : te (cSt js (some x) σ) H' fun y H3 => ∃ ys, H3 D = some (.lst ys) ∧ ys.length < sizeLine ∧ N (upd H3 D (.lst (ys ++ [y])))) : compBody js tTrue te σ D x H' N := by
  unfold compBody tTrue
  exact iteT (B := N H') h
theorem comp_by {J : It} {n : Nat} (Pv : Nat → Hp → Prop) (h0 : Pv 0 (upd H D (.lst []))) (hgo : ∀ i H, i < n → Pv i H → J.go i H) (hstop : ∀ H, Pv n H → J.stop n H)
    (hs : ∀ i H x H', i < n → Pv i H → J.yld i H x H' → compBody js tc te σ D x H' (Pv (i + 1))) (hd : ∀ H, Pv n H → R (.ref D) H) :
    CompW J js tc te σ R D H := by
  refine ⟨fun i m H => m = n - i ∧ i ≤ n ∧ Pv i H, ⟨n, by simp, Nat.zero_le _, h0⟩, ?_⟩
  rintro i m H ⟨rfl, hi, p⟩
  by_cases hlt : i < n
  · exact .inr ⟨hgo i H hlt p, Pv (i + 1), fun H' p' => ⟨n - (i + 1), by omega, rfl, hlt, p'⟩, fun x H' y => hs i H x H' hlt p y⟩
  · have e : i = n := by omega
    subst e
    exact .inl ⟨hstop H p, hd H p⟩
theorem comp_list {K : PySem.W.Frag} {a : Addr} {xs : List V} (Pv : Nat → Hp → Prop) (h0 : Pv 0 (upd H D (.lst []))) (hl : ∀ i H, Pv i H → SqL K H a xs) (hs : ∀ i x H, xs[i]? = some x → Pv i H → compBody js tc te σ D x H (Pv (i + 1))) (hd : ∀ H, Pv xs.length H → R (.ref D) H) :
    CompW (Itl K a) js tc te σ R D H :=
  comp_by (n := xs.length) Pv h0 (fun i H h p => ⟨xs, xs[i], hl i H p, by simp [h]⟩) (fun H p => ⟨xs, hl _ H p, Nat.le_refl _⟩) (fun i H x H' h p y => by obtain ⟨e, y⟩ := y; subst e; exact hs i x _ (y xs (hl i _ p)) p) hd
end

/-! ### sums as they lie on the heap -/
def O3.w : O3 → Str
  | .add => "add"
  | .sub => "sub"
  | .mul => "mul"
inductive IsSum (H : Hp) : V → Sm Str → Prop where
  | num {a : Addr} {i : Int} : H a = some (.tup [.str "num", .int i]) → IsSum H (.ref a) (.num i)
  | name {a : Addr} {x : Str} : H a = some (.tup [.str "name", .str x]) → IsSum H (.ref a) (.name x)
  | op {a : Addr} {o : O3} {u v : V} {s t : Sm Str} : H a = some (.tup [.str o.w, u, v]) → IsSum H u s → IsSum H v t → IsSum H (.ref a) (.op o s t)
theorem IsSum.mono {H H' : Hp} (L : TupLe H H') {v : V} {s : Sm Str} (h : IsSum H v s) : IsSum H' v s := by
  induction h with
  | num e => exact .num (L _ _ e)
  | name e => exact .name (L _ _ e)
  | op e _ _ i1 i2 => exact .op (L _ _ e) i1 i2

/-! ### two things that are alike, and how many steps it takes to see it -/
end J

set_option Elab.async false
set_option linter.all false
set_option maxRecDepth 100000
set_option maxHeartbeats 4000000
namespace J
open PySem L2
theorem iteT' {b : Bool} {A B : Prop} (e : b = true) (h : A) : if b = true then A else B := by rw [e]; exact iteT h
theorem iteF' {b : Bool} {A B : Prop} (e : b = false) (h : B) : if b = true then A else B := by rw [e]; exact iteF h
theorem last_get {α : Type} (xs : List α) (x : α) : (xs ++ [x])[(xs ++ [x]).length - 1]? = some x := by simp
theorem cdiv {i : Int} {j : Int} (h : decide (0 < j ∧ j < 1073741824) = true) : CDiv i j := show 0 < j ∧ j < 1073741824 from of_decide_eq_true h
theorem mul_small {a b : Int} (h : decide (-(2 ^ 64) < a ∧ a < 2 ^ 64) = true) : IntMulOk a b := CMul.ok (.inl (of_decide_eq_true h))
theorem mul_smallR {a b : Int} (h : decide (-(2 ^ 64) < b ∧ b < 2 ^ 64) = true) : IntMulOk a b := CMul.ok (.inr (of_decide_eq_true h))
theorem cutV_ints (ns : List Int) (lo hi : Option Int) : ∃ cs : List Int, cutV (ns.map V.int) lo hi = cs.map V.int ∧ cs.length ≤ ns.length := by
  refine ⟨(ns.drop (HT.sIx (ns.map V.int).length 0 lo)).take (HT.sIx (ns.map V.int).length (ns.map V.int).length hi - HT.sIx (ns.map V.int).length 0 lo), ?_, ?_⟩
  · unfold cutV
    rw [List.map_take, List.map_drop]
  · rw [List.length_take, List.length_drop]; omega

/-! ### tests -/
inductive Ts where
  | less (a b : Sm Str)
  | same (a b : Sm Str)
  | not (t : Ts)
  | both (t u : Ts)
def Ts.val (ns : List Str) (ps : List Int) : Ts → Bool
  | .less a b => decide (a.val ns ps < b.val ns ps)
  | .same a b => decide (a.val ns ps = b.val ns ps)
  | .not t => !t.val ns ps
  | .both t u => t.val ns ps && u.val ns ps
inductive IsTest (H : Hp) : V → Ts → Prop where
  | less {a : Addr} {u v : V} {s t : Sm Str} : H a = some (.tup [.str "less", u, v]) → IsSum H u s → IsSum H v t → IsTest H (.ref a) (.less s t)
  | same {a : Addr} {u v : V} {s t : Sm Str} : H a = some (.tup [.str "same", u, v]) → IsSum H u s → IsSum H v t → IsTest H (.ref a) (.same s t)
  | not {a : Addr} {u : V} {t : Ts} : H a = some (.tup [.str "not", u]) → IsTest H u t → IsTest H (.ref a) (.not t)
  | both {a : Addr} {u v : V} {s t : Ts} : H a = some (.tup [.str "both", u, v]) → IsTest H u s → IsTest H v t → IsTest H (.ref a) (.both s t)
theorem IsTest.mono {H H' : Hp} (L : TupLe H H') {v : V} {t : Ts} (h : IsTest H v t) : IsTest H' v t := by
  induction h with
  | less e h1 h2 => exact .less (L _ _ e) (h1.mono L) (h2.mono L)
  | same e h1 h2 => exact .same (L _ _ e) (h1.mono L) (h2.mono L)
  | not e _ ih => exact .not (L _ _ e) ih
  | both e _ _ i1 i2 => exact .both (L _ _ e) i1 i2
end J

set_option linter.all false
namespace J
deriving instance DecidableEq for Sm
section
variable {α : Type} [DecidableEq α]
def shortPair (o : O3) (a b : Sm α) : Sm α :=
  match a, b with
  | .num i, .num j => .num (o.f i j)
  | a, b =>
    if o = .mul ∧ (a = .num 0 ∨ b = .num 0) then .num 0
    else if b = (if o = .mul then .num 1 else .num 0) then a
    else if a = (if o = .mul then .num 1 else .num 0) ∧ o ≠ .sub then b
    else .op o a b
def Sm.short : Sm α → Sm α
  | .op o a b => shortPair o a.short b.short
  | s => s
def Sm.nm (ns : List α) : Sm α → Prop
  | .num _ => True
  | .name x => x ∈ ns
  | .op _ a b => a.nm ns ∧ b.nm ns
end
end J

set_option Elab.async false
set_option linter.all false
set_option maxRecDepth 100000
set_option maxHeartbeats 4000000
namespace L2
open PySem PySem.Spec PyProof.Rows

/-! ### a list is unpacked -/
section
variable {prog : Program} {w : World} {A : Around} {E : Value → Shared → Prop} {s : Shared}
end
section
variable {X : Cx} {pos : Pos}
end

/-! ### tuples of the heap, or the module's own -/
def TpK (K : PySem.W.Frag) (H : Hp) (a : Addr) (xs : List V) : Prop :=
  H a = some (.tup xs) ∨ ∃ (o : Obj) (its : Array Value) (n : Nat), K.lookup a = some o ∧ o.cls = .type "tuple" ∧ o.data = .seq its n ∧ its.size ≤ sizeLine ∧ Vals xs its.toList
theorem TpK.sq {K : PySem.W.Frag} {H : Hp} {a : Addr} {xs : List V} (h : TpK K H a xs) : SqT K H a xs := by
  rcases h with h | h
  · exact SqT.of h
  · exact .inr h
def TyT (K : PySem.W.Frag) (H : Hp) (x : V) (T : String) : Prop := TyOf K H x (.type T) ∨ T = "tuple" ∧ ∃ a xs, x = .ref a ∧ TpK K H a xs
section
variable {X : Cx}
theorem kitx_tyT {H : Hp} {pins : List (Addr × Obj)} {σ : St} {s : Shared} {x : V} {u : Value} {T : String} (I : Inv X pins σ H s) (rx : RelV x u) (ty : TyT X.K H x T) :
    ∃ P : Heap → Prop, PySem.W.KitX X.K u (.type T) P ∧ P s.heap ∧ u ≠ .builtin "__main__.__loader__#opaque" := by
  rcases ty with ty | ⟨rfl, a, xs, rfl, h⟩
  · exact kitx_ty I rx ty
  · cases (show u = Value.ref a from rx)
    obtain ⟨its, _, ⟨o, h1, h2, _⟩, _⟩ := I.tuple h.sq
    exact ⟨_, PySem.W.kitx_tuple, ⟨o, h1, h2⟩, fun z => nomatch z⟩
def rIsiP (K : PySem.W.Frag) : List V → Hp → VK → Prop := fun xs H Q => ∃ x T c b, xs = [x, .ty c] ∧ TyT K H x T ∧ isT T c = some b ∧ Q (.bl b) H
def rIsiTP (K : PySem.W.Frag) : List V → Hp → VK → Prop := fun xs H Q => ∃ x T tp cs b, xs = [x, .ref tp] ∧ TyT K H x T ∧ H tp = some (.tup (cs.map V.ty)) ∧ isAny T cs = some b ∧ Q (.bl b) H
theorem call_isiP : CallR X (.builtin "isinstance") (rIsiP X.K) := by
  intro pins s σ H xs us Q I r h
  obtain ⟨x, T, c, b, rfl, ty, e, q⟩ := h
  obtain ⟨u, w', rfl, r1, r2⟩ := vals2 r
  cases (show w' = Value.type c from r2)
  obtain ⟨P, Z, hP, hx⟩ := kitx_tyT I r1 ty
  exact PySem.W.kia_one Z I.kIn hP ((kitOne_type _ _ _).trans e) hx fun tk => ⟨.bl b, H, I.tok tk, rfl, q⟩
theorem call_isiTP : CallR X (.builtin "isinstance") (rIsiTP X.K) := by
  intro pins s σ H xs us Q I r h
  obtain ⟨x, T, tp, cs, b, rfl, ty, ht, e, q⟩ := h
  obtain ⟨u, w', rfl, r1, r2⟩ := vals2 r
  cases (show w' = Value.ref tp from r2)
  obtain ⟨P, Z, hP, hx⟩ := kitx_tyT I r1 ty
  obtain ⟨_, its, rv, o, ho, hc, n, hd⟩ := (show ObjOk X.prog X.w H s.heap tp (.tup (cs.map V.ty)) from I.hok tp _ ht)
  obtain ⟨c0, dd, data, sl⟩ := o
  simp only at hc hd
  subst hc hd
  have hi := vals_types rv
  subst hi
  exact PySem.W.kia_tup Z I.kIn hP ho ((kitAny_type _ _ _).trans e) hx fun tk => ⟨.bl b, H, I.tok tk, rfl, q⟩
def rExtendP (K : PySem.W.Frag) : V → List V → Hp → VK → Prop := fun x vs H Q => ∃ l b xs zs, x = .ref l ∧ vs = [.ref b] ∧ H l = some (.lst xs) ∧ (H b = some (.lst zs) ∨ TpK K H b zs) ∧ xs.length + zs.length ≤ sizeLine ∧ Q .non (upd H l (.lst (xs ++ zs)))
theorem mt_extendP : MtM X "list.extend" (rExtendP X.K) := by
  intro pins s σ H x vs v us Q I rx rv h
  obtain ⟨l, b, xs, zs, rfl, rfl, hH, hB, hz, q⟩ := h
  rcases hB with hB | hB
  · exact mt_extend pins s σ H _ _ v us Q I rx rv ⟨l, b, xs, zs, rfl, rfl, hH, hB, hz, q⟩
  cases rx
  obtain ⟨u, rfl, ru⟩ := rv.one
  cases ru
  obtain ⟨z, its, n, r, hl, e⟩ := I.lstM hH
  obtain ⟨its2, r2, ⟨⟨c0, dd, data, sl⟩, ho, hc, n2, hd⟩, z2⟩ := I.tuple hB.sq
  simp only at hc hd
  subst hc hd
  have hl2 := r2.length
  have hsz : its.toArray.size + its2.toArray.size ≤ sizeLine := by rw [List.size_toArray, List.size_toArray]; omega
  have hlong : ¬ (!its.toArray.isEmpty && Builtin.List.listTooLong (its.toArray.size + its2.toArray.size)) = true := by
    rw [notLongL hsz, Bool.and_false]
    exact Bool.false_ne_true
  refine call_meets F.slot_list_extend ⟨_, e, rfl⟩ F.entry_list_extend (F.args_list_extend_2 _ _)
    (HT.ext_tup l its.toArray n b its2.toArray n2 dd sl hlong (by rw [List.size_toArray]; omega) (by omega)) ⟨e, ho, ?_⟩
  refine ⟨.non, _, I.lset (its' := its ++ its2) hH e (by simp) (r.append r2) ?_, rfl, q⟩
  rw [List.length_append]
  omega
end
end L2

namespace J
open PySem L2
theorem _root_.L2.TpK.mono {K : PySem.W.Frag} {H H' : Hp} (L : TupLe H H') {a : Addr} {xs : List V} (h : TpK K H a xs) : TpK K H' a xs := by
  rcases h with h | h
  · exact .inl (L _ _ h)
  · exact .inr h
inductive SumK (K : PySem.W.Frag) (H : Hp) : V → Sm Str → Prop where
  | num {a : Addr} {i : Int} : TpK K H a [.str "num", .int i] → SumK K H (.ref a) (.num i)
  | name {a : Addr} {x : Str} : TpK K H a [.str "name", .str x] → SumK K H (.ref a) (.name x)
  | op {a : Addr} {o : O3} {u v : V} {s t : Sm Str} : TpK K H a [.str o.w, u, v] → SumK K H u s → SumK K H v t → SumK K H (.ref a) (.op o s t)
theorem IsSum.k {K : PySem.W.Frag} {H : Hp} {v : V} {s : Sm Str} (h : IsSum H v s) : SumK K H v s := by
  induction h with
  | num e => exact .num (.inl e)
  | name e => exact .name (.inl e)
  | op e _ _ i1 i2 => exact .op (.inl e) i1 i2

/-! ### a sum against ("num", n) -/
section
variable {X : Cx}
end

/-! ### two sums alike -/
inductive AlkK (K : PySem.W.Frag) (H : Hp) : List V → List V → Nat → Prop where
  | nil : AlkK K H [] [] 0
  | int {i : Int} {xs ys : List V} {n : Nat} : AlkK K H xs ys n → AlkK K H (.int i :: xs) (.int i :: ys) (n + 1)
  | str {z : Str} {xs ys : List V} {n : Nat} : AlkK K H xs ys n → AlkK K H (.str z :: xs) (.str z :: ys) (n + 1)
  | tup {a b : Addr} {us vs xs ys : List V} {m n : Nat} : TpK K H a us → TpK K H b vs → AlkK K H us vs m → AlkK K H xs ys n → AlkK K H (.ref a :: xs) (.ref b :: ys) (m + n + 1)
theorem AlkK.app {K : PySem.W.Frag} {H : Hp} {xs ys us vs : List V} {m n : Nat} (h : AlkK K H xs ys m) (g : AlkK K H us vs n) : AlkK K H (xs ++ us) (ys ++ vs) (m + n) := by
  induction h with
  | nil => rw [Nat.zero_add]; exact g
  | @int i xs ys k _ ih => rw [show k + 1 + n = (k + n) + 1 by omega]; exact .int ih
  | @str z xs ys k _ ih => rw [show k + 1 + n = (k + n) + 1 by omega]; exact .str ih
  | @tup a b us vs xs ys m' n' e1 e2 h1 _ _ ih => rw [show m' + n' + 1 + n = m' + (n' + n) + 1 by omega]; exact .tup e1 e2 h1 ih
inductive AlkK1 (K : PySem.W.Frag) (H : Hp) : V → V → Nat → Prop where
  | int (i : Int) : AlkK1 K H (.int i) (.int i) 1
  | str (z : Str) : AlkK1 K H (.str z) (.str z) 1
  | tup {a b : Addr} {us vs : List V} {m : Nat} : TpK K H a us → TpK K H b vs → AlkK K H us vs m → AlkK1 K H (.ref a) (.ref b) (m + 1)
theorem AlkK.cons1 {K : PySem.W.Frag} {H : Hp} {x y : V} {xs ys : List V} {k n : Nat} (h : AlkK1 K H x y k) (g : AlkK K H xs ys n) : AlkK K H (x :: xs) (y :: ys) (k + n) := by
  cases h with
  | int i => rw [Nat.add_comm]; exact .int g
  | str i => rw [Nat.add_comm]; exact .str g
  | @tup a b us vs m e1 e2 h => rw [show m + 1 + n = m + n + 1 by omega]; exact .tup e1 e2 h g
/-- two of one sum are alike -/
theorem SumK.alk {K : PySem.W.Frag} {H : Hp} {u v : V} {s : Sm Str} (h : SumK K H u s) : SumK K H v s → ∃ n, n + 2 ≤ 5 * s.lv ∧ AlkK1 K H u v n := by
  induction h generalizing v with
  | num e =>
    intro g
    cases g with
    | num e' => exact ⟨3, by show 3 + 2 ≤ 5 * 1; decide, .tup e e' (.str (.int .nil))⟩
  | name e =>
    intro g
    cases g with
    | name e' => exact ⟨3, by show 3 + 2 ≤ 5 * 1; decide, .tup e e' (.str (.str .nil))⟩
  | @op a o u v s t e _ _ i1 i2 =>
    intro g
    cases g with
    | @op a' _ u' v' _ _ e' g1 g2 =>
      obtain ⟨n1, l1, q1⟩ := i1 g1
      obtain ⟨n2, l2, q2⟩ := i2 g2
      refine ⟨_, ?_, .tup e e' (.str (.cons1 q1 (.cons1 q2 .nil)))⟩
      show n1 + (n2 + 0) + 1 + 1 + 2 ≤ 5 * (s.lv + t.lv)
      omega
end J
namespace L2
theorem Room.units1 {k : Nat} {A : PySem.Around} (r : Room k A) : A.units + 1 < PySem.cLine := by have := r.un; omega
end L2
namespace J
open PySem L2
theorem at0 {x : V} {xs : List V} : atI (x :: xs) 0 = some x := atI_nat (j := 0) rfl
end J
namespace J
end J
namespace J
end J

set_option Elab.async false
set_option linter.all false
set_option maxRecDepth 100000
set_option maxHeartbeats 4000000
namespace L2
open PySem PySem.Spec PyProof.Rows
/-! ### two lists of the same numbers -/
section
variable {X : Cx}
end
end L2
namespace J
open PySem L2
/-! ### two things alike: numbers, texts, tuples (also the module's own), lists -/
inductive AlkL (K : PySem.W.Frag) (H : Hp) : List V → List V → Nat → Prop where
  | nil : AlkL K H [] [] 0
  | int {i : Int} {xs ys : List V} {n : Nat} : AlkL K H xs ys n → AlkL K H (.int i :: xs) (.int i :: ys) (n + 1)
  | str {z : Str} {xs ys : List V} {n : Nat} : AlkL K H xs ys n → AlkL K H (.str z :: xs) (.str z :: ys) (n + 1)
  | tup {a b : Addr} {us vs xs ys : List V} {m n : Nat} : TpK K H a us → TpK K H b vs → AlkL K H us vs m → AlkL K H xs ys n → AlkL K H (.ref a :: xs) (.ref b :: ys) (m + n + 1)
  | lst {a b : Addr} {us vs xs ys : List V} {m n : Nat} : H a = some (.lst us) → H b = some (.lst vs) → AlkL K H us vs m → AlkL K H xs ys n → AlkL K H (.ref a :: xs) (.ref b :: ys) (m + n + 1)
theorem AlkL.len {K : PySem.W.Frag} {H : Hp} {xs ys : List V} {n : Nat} (h : AlkL K H xs ys n) : xs.length = ys.length ∧ xs.length ≤ n := by
  induction h with
  | nil => exact ⟨rfl, Nat.le_refl _⟩
  | int _ ih => simp only [List.length_cons]; omega
  | str _ ih => simp only [List.length_cons]; omega
  | tup _ _ _ _ i1 i2 => simp only [List.length_cons]; omega
  | lst _ _ _ _ i1 i2 => simp only [List.length_cons]; omega
theorem AlkL.app {K : PySem.W.Frag} {H : Hp} {xs ys us vs : List V} {m n : Nat} (h : AlkL K H xs ys m) (g : AlkL K H us vs n) : AlkL K H (xs ++ us) (ys ++ vs) (m + n) := by
  induction h with
  | nil => rw [Nat.zero_add]; exact g
  | @int i xs ys k _ ih => rw [show k + 1 + n = (k + n) + 1 by omega]; exact .int ih
  | @str z xs ys k _ ih => rw [show k + 1 + n = (k + n) + 1 by omega]; exact .str ih
  | @tup a b us vs xs ys m' n' e1 e2 h1 _ _ ih => rw [show m' + n' + 1 + n = m' + (n' + n) + 1 by omega]; exact .tup e1 e2 h1 ih
  | @lst a b us vs xs ys m' n' e1 e2 h1 _ _ ih => rw [show m' + n' + 1 + n = m' + (n' + n) + 1 by omega]; exact .lst e1 e2 h1 ih
inductive AlkL1 (K : PySem.W.Frag) (H : Hp) : V → V → Nat → Prop where
  | int (i : Int) : AlkL1 K H (.int i) (.int i) 1
  | str (z : Str) : AlkL1 K H (.str z) (.str z) 1
  | tup {a b : Addr} {us vs : List V} {m : Nat} : TpK K H a us → TpK K H b vs → AlkL K H us vs m → AlkL1 K H (.ref a) (.ref b) (m + 1)
  | lst {a b : Addr} {us vs : List V} {m : Nat} : H a = some (.lst us) → H b = some (.lst vs) → AlkL K H us vs m → AlkL1 K H (.ref a) (.ref b) (m + 1)
theorem AlkL.last {K : PySem.W.Frag} {H : Hp} {xs ys : List V} {n : Nat} (h : AlkL K H xs ys n) : xs = [] ∧ ys = [] ∨ ∃ xs' ys' x y m k, xs = xs' ++ [x] ∧ ys = ys' ++ [y] ∧ AlkL K H xs' ys' m ∧ AlkL1 K H x y k ∧ n = m + k := by
  induction h with
  | nil => exact .inl ⟨rfl, rfl⟩
  | @int i xs ys k h ih =>
    refine .inr ?_
    rcases ih with ⟨rfl, rfl⟩ | ⟨xs', ys', x, y, m, k', rfl, rfl, h1, h2, rfl⟩
    · cases h
      exact ⟨[], [], _, _, 0, 1, rfl, rfl, .nil, .int i, by omega⟩
    · exact ⟨_ :: xs', _ :: ys', x, y, m + 1, k', rfl, rfl, .int h1, h2, by omega⟩
  | @str i xs ys k h ih =>
    refine .inr ?_
    rcases ih with ⟨rfl, rfl⟩ | ⟨xs', ys', x, y, m, k', rfl, rfl, h1, h2, rfl⟩
    · cases h
      exact ⟨[], [], _, _, 0, 1, rfl, rfl, .nil, .str i, by omega⟩
    · exact ⟨_ :: xs', _ :: ys', x, y, m + 1, k', rfl, rfl, .str h1, h2, by omega⟩
  | @tup a b us vs xs ys m n e1 e2 h1 h _ ih =>
    refine .inr ?_
    rcases ih with ⟨rfl, rfl⟩ | ⟨xs', ys', x, y, m', k', rfl, rfl, g1, g2, rfl⟩
    · cases h
      exact ⟨[], [], _, _, 0, m + 1, rfl, rfl, .nil, .tup e1 e2 h1, by omega⟩
    · exact ⟨_ :: xs', _ :: ys', x, y, m + m' + 1, k', rfl, rfl, .tup e1 e2 h1 g1, g2, by omega⟩
  | @lst a b us vs xs ys m n e1 e2 h1 h _ ih =>
    refine .inr ?_
    rcases ih with ⟨rfl, rfl⟩ | ⟨xs', ys', x, y, m', k', rfl, rfl, g1, g2, rfl⟩
    · cases h
      exact ⟨[], [], _, _, 0, m + 1, rfl, rfl, .nil, .lst e1 e2 h1, by omega⟩
    · exact ⟨_ :: xs', _ :: ys', x, y, m + m' + 1, k', rfl, rfl, .lst e1 e2 h1 g1, g2, by omega⟩
theorem AlkL.cons1 {K : PySem.W.Frag} {H : Hp} {x y : V} {xs ys : List V} {k n : Nat} (h : AlkL1 K H x y k) (g : AlkL K H xs ys n) : AlkL K H (x :: xs) (y :: ys) (k + n) := by
  cases h with
  | int i => rw [Nat.add_comm]; exact .int g
  | str i => rw [Nat.add_comm]; exact .str g
  | @tup a b us vs m e1 e2 h => rw [show m + 1 + n = m + n + 1 by omega]; exact .tup e1 e2 h g
  | @lst a b us vs m e1 e2 h => rw [show m + 1 + n = m + n + 1 by omega]; exact .lst e1 e2 h g
theorem AlkL.strs {K : PySem.W.Frag} {H : Hp} : ∀ xs : List Str, AlkL K H (xs.map V.str) (xs.map V.str) xs.length
  | [] => .nil
  | _ :: r => .str (AlkL.strs r)

/-! ### cards -/
inductive Cd where
  | push (i : Int) | load (k : Int) | store (k : Int) | drop | op (o : O3) | less | same | flip | say | skip (k : Int) | fork (k : Int) | burn | back (k : Int)
theorem papp {α β : Type} {F : α → β → Prop} : ∀ {vs ws : List α} {rs ts : List β}, Paired F vs rs → Paired F ws ts → Paired F (vs ++ ws) (rs ++ ts)
  | _, _, _, _, .nil, h => h
  | _, _, _, _, .cons q t, h => .cons q (papp t h)

/-! ### the cards of a sum and of a test -/
def Sm.cards (ns : List Str) : Sm Str → List Cd
  | .num i => [.push i]
  | .name x => [.load (((lastIx ns x).getD 0 : Nat) : Int)]
  | .op o a b => a.cards ns ++ b.cards ns ++ [.op o]
def Ts.cards (ns : List Str) : Ts → List Cd
  | .less a b => a.cards ns ++ b.cards ns ++ [.less]
  | .same a b => a.cards ns ++ b.cards ns ++ [.same]
  | .not t => t.cards ns ++ [.flip]
  | .both t u => t.cards ns ++ [.fork (((u.cards ns).length : Int) + 1)] ++ u.cards ns ++ [.skip 1, .push 0]
def Ts.dp : Ts → Nat
  | .less a b => max a.dp b.dp + 1
  | .same a b => max a.dp b.dp + 1
  | .not t => t.dp + 1
  | .both t u => max t.dp u.dp + 1
def Ts.nm (ns : List Str) : Ts → Prop
  | .less a b => a.nm ns ∧ b.nm ns
  | .same a b => a.nm ns ∧ b.nm ns
  | .not t => t.nm ns
  | .both t u => t.nm ns ∧ u.nm ns
/-- a sum or a test -/
inductive Th where
  | s (x : Sm Str)
  | t (x : Ts)
def Th.cards (ns : List Str) : Th → List Cd
  | .s x => x.cards ns
  | .t x => x.cards ns
def Th.dp : Th → Nat
  | .s x => x.dp
  | .t x => x.dp
def IsTh (H : Hp) (v : V) : Th → Prop
  | .s s => IsSum H v s
  | .t t => IsTest H v t
theorem IsTh.mono {H H' : Hp} (L : TupLe H H') {v : V} : ∀ {t : Th}, IsTh H v t → IsTh H' v t
  | .s _, h => IsSum.mono L h
  | .t _, h => IsTest.mono L h
end J

set_option Elab.async false
set_option linter.all false
set_option maxRecDepth 100000
set_option maxHeartbeats 4000000
namespace J
open PySem L2
end J
namespace J
open PySem L2
theorem psnoc {α β : Type} {F : α → β → Prop} : ∀ {vs : List α} {rs : List β} {v : α} {r : β}, Paired F vs rs → F v r → Paired F (vs ++ [v]) (rs ++ [r])
  | _, _, _, _, .nil, h => .cons h .nil
  | _, _, _, _, .cons q t, h => .cons q (psnoc t h)
theorem plast {α β : Type} {F : α → β → Prop} : ∀ {vs : List α} {rs : List β}, Paired F vs rs → vs = [] ∧ rs = [] ∨ ∃ vs' v rs' r, vs = vs' ++ [v] ∧ rs = rs' ++ [r] ∧ Paired F vs' rs' ∧ F v r
  | _, _, .nil => .inl ⟨rfl, rfl⟩
  | _, _, .cons (a := x) (b := y) q t => by
    rcases plast t with ⟨rfl, rfl⟩ | ⟨vs', v, rs', r, e1, e2, h1, h2⟩
    · exact .inr ⟨[], x, [], y, rfl, rfl, .nil, q⟩
    · exact .inr ⟨x :: vs', v, y :: rs', r, by rw [e1]; rfl, by rw [e2]; rfl, .cons q h1, h2⟩
theorem plen {α β : Type} {F : α → β → Prop} : ∀ {vs : List α} {rs : List β}, Paired F vs rs → vs.length = rs.length
  | _, _, .nil => rfl
  | _, _, .cons _ t => by rw [List.length_cons, List.length_cons, plen t]
theorem pget {α β : Type} {F : α → β → Prop} : ∀ {vs : List α} {rs : List β} {i : Nat} {v : α}, Paired F vs rs → vs[i]? = some v → ∃ r, rs[i]? = some r ∧ F v r
  | _, _, i, v, .nil, h => by simp at h
  | _, _, 0, v, .cons q _, h => by simp at h; subst h; exact ⟨_, rfl, q⟩
  | _, _, i + 1, v, .cons _ t, h => by simpa using pget t (by simpa using h)
/-! ### t[1:] -/
theorem cutV_tail (x : V) (us : List V) : cutV (x :: us) (some 1) none = us := by
  unfold cutV HT.sIx
  simp
theorem not_whole (n : Nat) : ¬ (HT.sIx (n + 1) 0 (some 1) = 0 ∧ HT.sIx (n + 1) (n + 1) none = n + 1) := by
  unfold HT.sIx
  simp
end J
namespace J
open PySem L2
end J
namespace J
open PySem L2
end J

set_option Elab.async false
set_option linter.all false
set_option maxRecDepth 100000
set_option maxHeartbeats 4000000
namespace J
open PySem L2
/-! ### tests made shorter; their tuples may be the module's own -/
def Ts.mkNot : Ts → Ts
  | .not x => x
  | y => .not y
def Ts.short : Ts → Ts
  | .less a b => .less a.short b.short
  | .same a b => .same a.short b.short
  | .not t => Ts.mkNot t.short
  | .both t u => .both t.short u.short
inductive TestK (K : PySem.W.Frag) (H : Hp) : V → Ts → Prop where
  | less {a : Addr} {u v : V} {s t : Sm Str} : TpK K H a [.str "less", u, v] → SumK K H u s → SumK K H v t → TestK K H (.ref a) (.less s t)
  | same {a : Addr} {u v : V} {s t : Sm Str} : TpK K H a [.str "same", u, v] → SumK K H u s → SumK K H v t → TestK K H (.ref a) (.same s t)
  | not {a : Addr} {u : V} {t : Ts} : TpK K H a [.str "not", u] → TestK K H u t → TestK K H (.ref a) (.not t)
  | both {a : Addr} {u v : V} {s t : Ts} : TpK K H a [.str "both", u, v] → TestK K H u s → TestK K H v t → TestK K H (.ref a) (.both s t)
theorem IsTest.k {K : PySem.W.Frag} {H : Hp} {v : V} {t : Ts} (h : IsTest H v t) : TestK K H v t := by
  induction h with
  | less e h1 h2 => exact .less (.inl e) h1.k h2.k
  | same e h1 h2 => exact .same (.inl e) h1.k h2.k
  | not e _ ih => exact .not (.inl e) ih
  | both e _ _ i1 i2 => exact .both (.inl e) i1 i2
/-- how much there is to compare -/
def Ts.sz : Ts → Nat
  | .less a b => a.lv + b.lv + 1
  | .same a b => a.lv + b.lv + 1
  | .not t => t.sz + 1
  | .both t u => t.sz + u.sz + 1
theorem AlkK.toL {K : PySem.W.Frag} {H : Hp} {xs ys : List V} {n : Nat} (h : AlkK K H xs ys n) : AlkL K H xs ys n := by
  induction h with
  | nil => exact .nil
  | int _ ih => exact .int ih
  | str _ ih => exact .str ih
  | tup e1 e2 _ _ i1 i2 => exact .tup e1 e2 i1 i2
theorem AlkK1.toL {K : PySem.W.Frag} {H : Hp} {x y : V} {n : Nat} (h : AlkK1 K H x y n) : AlkL1 K H x y n := by
  cases h with
  | int i => exact .int i
  | str z => exact .str z
  | tup e1 e2 h => exact .tup e1 e2 h.toL
theorem TestK.alk {K : PySem.W.Frag} {H : Hp} {u v : V} {t : Ts} (h : TestK K H u t) : TestK K H v t → ∃ n, n ≤ 5 * t.sz ∧ AlkL1 K H u v n := by
  induction h generalizing v with
  | @less a u1 v1 s t e h1 h2 =>
    intro g
    cases g with
    | less e' g1 g2 =>
      obtain ⟨n1, l1, q1⟩ := h1.alk g1
      obtain ⟨n2, l2, q2⟩ := h2.alk g2
      refine ⟨_, ?_, .tup e e' (.str (.cons1 q1.toL (.cons1 q2.toL .nil)))⟩
      show n1 + (n2 + 0) + 1 + 1 ≤ 5 * (s.lv + t.lv + 1)
      omega
  | @same a u1 v1 s t e h1 h2 =>
    intro g
    cases g with
    | same e' g1 g2 =>
      obtain ⟨n1, l1, q1⟩ := h1.alk g1
      obtain ⟨n2, l2, q2⟩ := h2.alk g2
      refine ⟨_, ?_, .tup e e' (.str (.cons1 q1.toL (.cons1 q2.toL .nil)))⟩
      show n1 + (n2 + 0) + 1 + 1 ≤ 5 * (s.lv + t.lv + 1)
      omega
  | @not a u1 t e _ ih =>
    intro g
    cases g with
    | not e' g1 =>
      obtain ⟨n1, l1, q1⟩ := ih g1
      refine ⟨_, ?_, .tup e e' (.str (.cons1 q1 .nil))⟩
      show n1 + 0 + 1 + 1 ≤ 5 * (t.sz + 1)
      omega
  | @both a u1 v1 s t e _ _ i1 i2 =>
    intro g
    cases g with
    | both e' g1 g2 =>
      obtain ⟨n1, l1, q1⟩ := i1 g1
      obtain ⟨n2, l2, q2⟩ := i2 g2
      refine ⟨_, ?_, .tup e e' (.str (.cons1 q1 (.cons1 q2 .nil)))⟩
      show n1 + (n2 + 0) + 1 + 1 ≤ 5 * (s.sz + t.sz + 1)
      omega
end J

set_option Elab.async false
set_option linter.all false
set_option maxRecDepth 100000
set_option maxHeartbeats 4000000
namespace L2
open PySem PySem.Spec PyProof.Rows
/-! ### a text so many times -/
section
variable {X : Cx}
def repS (x : Str) (n : Int) : Str := if n < 1 then Str.empty else if (n == 1 || x.length == 0) = true then x else ⟨(List.replicate n.toNat x.cps).foldl (· ++ ·) #[]⟩
def rRepS : R2 := fun x y H Q => ∃ z n, x = .str z ∧ y = .int n ∧ (0 ≤ n ∧ n ≤ 1000 ∧ z.length ≤ 1000) ∧ (repS z n).length ≤ sizeLine ∧ Q (.str (repS z n)) H
theorem op_rep_str : OpR X (binaryOp .Mult) rRepS := by
  intro pins s σ H x y v u Q I rx ry h
  obtain ⟨z, n, rfl, rfl, ⟨h0, h1, h2⟩, hl, q⟩ := h
  obtain ⟨t, rfl⟩ := rx
  obtain ⟨t', rfl⟩ := ry
  refine P.mul_str (by simp; omega) (fun c _ => ?_) (fun c _ => ?_) ?_
  · have hn : 0 < n := by omega
    have : (1000 : Int) ≤ (2 ^ 63 - 1) / n := (Int.le_ediv_iff_mul_le hn).mpr (by omega)
    omega
  · have hle : z.length * n.toNat ≤ 1000 * 1000 := Nat.mul_le_mul h2 (by omega)
    unfold Builtin.Str.tooLong
    rw [decide_eq_false]
    rw [sizeLine_eq]
    omega
  · unfold repS at hl q
    by_cases c : n < 1
    · rw [if_pos c] at hl q ⊢
      exact ⟨hl, ⟨.str _, H, I.tok _, ⟨_, rfl⟩, q⟩⟩
    · rw [if_neg c] at hl q ⊢
      by_cases d : (n == 1 || z.length == 0) = true
      · rw [if_pos d] at hl q ⊢
        exact ⟨.str _, H, I, ⟨_, rfl⟩, q⟩
      · rw [if_neg d] at hl q ⊢
        exact ⟨hl, ⟨.str _, H, I.tok _, ⟨_, rfl⟩, q⟩⟩
end
theorem atI_any {α : Type} {l : List α} {i : Int} (h0 : 0 ≤ i) (h1 : i < (l.length : Int)) : ∃ c, atI l i = some c := by
  obtain ⟨j, rfl⟩ := Int.eq_ofNat_of_zero_le h0
  have hlt : j < l.length := by omega
  exact ⟨l[j], atI_nat (List.getElem?_eq_getElem hlt)⟩
end L2

set_option Elab.async false
set_option linter.all false
set_option maxRecDepth 100000
set_option maxHeartbeats 4000000
namespace J
open PySem L2
/-! ### blocks of orders -/
inductive Bk where
  | nil
  | set (x : Str) (a : Sm Str) (r : Bk)
  | say (a : Sm Str) (r : Bk)
  | when (t : Ts) (b c r : Bk)
  | whil (t : Ts) (b r : Bk)
  | wit (x : Str) (a : Sm Str) (b r : Bk)
def Bk.app : Bk → Bk → Bk
  | .nil, k => k
  | .set x a r, k => .set x a (r.app k)
  | .say a r, k => .say a (r.app k)
  | .when t b c r, k => .when t b c (r.app k)
  | .whil t b r, k => .whil t b (r.app k)
  | .wit x a b r, k => .wit x a b (r.app k)
/-- how many orders there are in all -/
def Bk.n : Bk → Nat
  | .nil => 0
  | .set _ _ r => r.n + 1
  | .say _ r => r.n + 1
  | .when _ b c r => b.n + c.n + r.n + 1
  | .whil _ b r => b.n + r.n + 1
  | .wit _ _ b r => b.n + r.n + 1
theorem Bk.n_app : ∀ b c : Bk, (b.app c).n = b.n + c.n
  | .nil, c => by show c.n = 0 + c.n; omega
  | .set x a r, c => by show (r.app c).n + 1 = r.n + 1 + c.n; rw [Bk.n_app r c]; omega
  | .say a r, c => by show (r.app c).n + 1 = r.n + 1 + c.n; rw [Bk.n_app r c]; omega
  | .when t b d r, c => by show b.n + d.n + (r.app c).n + 1 = b.n + d.n + r.n + 1 + c.n; rw [Bk.n_app r c]; omega
  | .whil t b r, c => by show b.n + (r.app c).n + 1 = b.n + r.n + 1 + c.n; rw [Bk.n_app r c]; omega
  | .wit x a b r, c => by show b.n + (r.app c).n + 1 = b.n + r.n + 1 + c.n; rw [Bk.n_app r c]; omega
/-- a block as it lies on the heap; M: the lists that may still change -/
inductive IsBk (H : Hp) (M : Addr → Prop) : List V → Bk → Prop where
  | nil : IsBk H M [] .nil
  | set {a : Addr} {x : Str} {u : V} {s : Sm Str} {vs : List V} {r : Bk} : H a = some (.tup [.str "set", .str x, u]) → IsSum H u s → IsBk H M vs r → IsBk H M (.ref a :: vs) (.set x s r)
  | say {a : Addr} {u : V} {s : Sm Str} {vs : List V} {r : Bk} : H a = some (.tup [.str "say", u]) → IsSum H u s → IsBk H M vs r → IsBk H M (.ref a :: vs) (.say s r)
  | when {a p q : Addr} {u : V} {t : Ts} {vb vc vs : List V} {b c r : Bk} : H a = some (.tup [.str "when", u, .ref p, .ref q]) → IsTest H u t → ¬ M p → H p = some (.lst vb) → IsBk H M vb b → ¬ M q → H q = some (.lst vc) → IsBk H M vc c → IsBk H M vs r → IsBk H M (.ref a :: vs) (.when t b c r)
  | whil {a p : Addr} {u : V} {t : Ts} {vb vs : List V} {b r : Bk} : H a = some (.tup [.str "while", u, .ref p]) → IsTest H u t → ¬ M p → H p = some (.lst vb) → IsBk H M vb b → IsBk H M vs r → IsBk H M (.ref a :: vs) (.whil t b r)
  | wit {a p : Addr} {x : Str} {u : V} {s : Sm Str} {vb vs : List V} {b r : Bk} : H a = some (.tup [.str "with", .str x, u, .ref p]) → IsSum H u s → ¬ M p → H p = some (.lst vb) → IsBk H M vb b → IsBk H M vs r → IsBk H M (.ref a :: vs) (.wit x s b r)
/-- what may change is of M -/
def Out (M : Addr → Prop) (H H' : Hp) : Prop := ∀ a o, ¬ M a → H a = some o → H' a = some o
theorem Out.of {M : Addr → Prop} {H H' : Hp} (S : Same H H') : Out M H H' := fun a o _ h => S a o h
theorem out_upd {M : Addr → Prop} {H : Hp} {l : Addr} (h : M l) (o : HO) : Out M H (upd H l o) := fun b u n q => by
  have hbl : b ≠ l := fun e => n (by rw [e]; exact h)
  rw [upd_ne hbl]; exact q
theorem IsBk.mono {H H' : Hp} {M M' : Addr → Prop} (B : Out M H H') (L : TupLe H H') (W : ∀ a, H a ≠ none → M' a → M a) {vs : List V} {b : Bk} (h : IsBk H M vs b) : IsBk H' M' vs b := by
  induction h with
  | nil => exact .nil
  | set e s _ ih => exact .set (L _ _ e) (s.mono L) ih
  | say e s _ ih => exact .say (L _ _ e) (s.mono L) ih
  | when e t n1 e1 _ n2 e2 _ _ i1 i2 i3 => exact .when (L _ _ e) (t.mono L) (fun z => n1 (W _ (by rw [e1]; exact fun z => nomatch z) z)) (B _ _ n1 e1) i1 (fun z => n2 (W _ (by rw [e2]; exact fun z => nomatch z) z)) (B _ _ n2 e2) i2 i3
  | whil e t n1 e1 _ _ i1 i2 => exact .whil (L _ _ e) (t.mono L) (fun z => n1 (W _ (by rw [e1]; exact fun z => nomatch z) z)) (B _ _ n1 e1) i1 i2
  | wit e t n1 e1 _ _ i1 i2 => exact .wit (L _ _ e) (t.mono L) (fun z => n1 (W _ (by rw [e1]; exact fun z => nomatch z) z)) (B _ _ n1 e1) i1 i2
theorem IsBk.app {H : Hp} {M : Addr → Prop} {vs ws : List V} {b c : Bk} (h : IsBk H M vs b) (g : IsBk H M ws c) : IsBk H M (vs ++ ws) (b.app c) := by
  induction h with
  | nil => exact g
  | set e s _ ih => exact .set e s ih
  | say e s _ ih => exact .say e s ih
  | when e t n1 e1 h1 n2 e2 h2 _ _ _ i3 => exact .when e t n1 e1 h1 n2 e2 h2 i3
  | whil e t n1 e1 h1 _ _ i2 => exact .whil e t n1 e1 h1 i2
  | wit e t n1 e1 h1 _ _ i2 => exact .wit e t n1 e1 h1 i2
theorem IsBk.len {H : Hp} {M : Addr → Prop} {vs : List V} {b : Bk} (h : IsBk H M vs b) : vs.length ≤ b.n := by
  induction h with
  | nil => exact Nat.le_refl _
  | set _ _ _ ih => show _ + 1 ≤ _ + 1; omega
  | say _ _ _ ih => show _ + 1 ≤ _ + 1; omega
  | when _ _ _ _ _ _ _ _ _ _ _ i3 => show _ + 1 ≤ _ + _ + _ + 1; omega
  | whil _ _ _ _ _ _ _ i2 => show _ + 1 ≤ _ + _ + 1; omega
  | wit _ _ _ _ _ _ _ i2 => show _ + 1 ≤ _ + _ + 1; omega
/-- no list may change any more -/
abbrev noM : Addr → Prop := fun _ => False
theorem IsBk.same {H H' : Hp} (S : Same H H') {vs : List V} {b : Bk} (h : IsBk H noM vs b) : IsBk H' noM vs b := h.mono (.of S) S.tup fun _ _ z => z

/-! ### how the law draws its programs -/
def drw (n p m : Int) : Int := n * 48271 % p % m
theorem drw_lo {n p m : Int} (h : 0 < m) : 0 ≤ drw n p m := Int.emod_nonneg _ (by omega)
theorem drw_hi {n p m : Int} (h : 0 < m) : drw n p m < m := Int.emod_lt_of_pos _ h
def leafN (salt p2 : Int) : Int := if drw salt p2 13 - 3 = 9 then 10 ^ 30 + 7 else if drw salt p2 13 - 3 = 8 then salt * 48271 % 10 ^ 30 - 5 * 10 ^ 29 else drw salt p2 13 - 3
def leafF (salt p1 p2 : Int) (sc : List Str) : Sm Str :=
  if drw salt p1 ((sc.length : Int) + 2) < (sc.length : Int) then .name ((sc[(drw salt p1 ((sc.length : Int) + 2)).toNat]?).getD "") else .num (leafN salt p2)
def turned (o : Sm Str) (l : Int) : Nat → Sm Str
  | 0 => o
  | k + 1 => .op (if k % 2 = 0 then .add else .sub) (turned o l k) (.num l)
def sumF (salt : Int) (sc : List Str) : Sm Str :=
  let way := drw salt 1051 8
  let less := drw salt 1061 4
  let one := leafF salt 1009 1013 sc
  let two := leafF salt 1019 1021 sc
  if way < 2 then one
  else if way = 2 then .op .add one two
  else if way = 3 then .op .sub one two
  else if way = 4 then .op .mul one (.num (less - 1))
  else if way = 7 then turned one less (less + 3).toNat
  else if way = 6 then .op .sub (.op .add (.op .mul (.num less) (.op .sub two one)) two) (.op .sub one (.num less))
  else .op .sub (.op .add one two) (.op .mul (.num less) two)
def testF (salt : Int) (sc : List Str) : Ts :=
  let way := drw salt 1063 7
  let one := if drw salt 1097 3 = 1 then sumF salt sc else leafF salt 1009 1013 sc
  let least := Ts.less one (.num (drw salt 1069 9 - 1))
  let other := Ts.same one (leafF salt 1019 1021 sc)
  if way = 3 then other
  else if way = 4 then .not least
  else if way = 6 then .both (.both least other) (.not (.both other least))
  else if way = 5 then .both (.not (.not least)) (.less (.num (-6)) one)
  else least
inductive Hd where
  | whil (t : Ts)
  | when (t : Ts)
  | els (t : Ts) (b : Bk)
  | wit (x : Str) (a : Sm Str)
def jarsF (sc : List Str) : List Str := sc.take 3 ++ [("aa" : Str), ("quill" : Str)]
def jarF (salt : Int) (sc : List Str) : Str := ((jarsF sc)[(drw salt 1087 ((jarsF sc).length : Int)).toNat]?).getD ""
def headF (way salt : Int) (sc : List Str) : Hd :=
  if way = 0 then .whil (testF salt sc) else if way = 1 then .when (testF salt sc) else .wit (jarF salt sc) (sumF salt sc)
/-- what a while over a name gets at its end -/
def endF (salt : Int) : Ts → Bk
  | .less (.name x) _ => if drw salt 1093 4 > 0 then .set x (.op .add (.name x) (.num 1)) .nil else .nil
  | _ => .nil
structure Gs where
  bs : List Bk
  hs : List Hd
  sc : List Str
/-- the innermost first -/
def closeF (salt : Int) (g : Gs) : Gs :=
  match g.hs, g.bs with
  | .when t :: hs, b :: bs => ⟨.nil :: bs, .els t b :: hs, g.sc⟩
  | .els t b0 :: hs, b :: b1 :: bs => ⟨b1.app (.when t b0 b .nil) :: bs, hs, g.sc⟩
  | .whil t :: hs, b :: b1 :: bs => ⟨b1.app (.whil t (b.app (endF salt t)) .nil) :: bs, hs, g.sc⟩
  | .wit x a :: hs, b :: b1 :: bs => ⟨b1.app (.wit x a b .nil) :: bs, hs, g.sc.dropLast⟩
  | _, _ => g
def addF (o : Bk) (g : Gs) : Gs :=
  match g.bs with
  | b :: bs => ⟨b.app o :: bs, g.hs, g.sc⟩
  | [] => g
def stepF (more : List Str) (k : Nat) (cell : Int) (g : Gs) : Gs :=
  let way := cell % 9
  let salt := cell + 7919 * k
  let near := g.sc ++ more
  if way < 3 then ⟨.nil :: g.bs, headF way salt near :: g.hs, if way = 2 then g.sc ++ [jarF salt near] else g.sc⟩
  else if way < 6 ∧ g.hs ≠ [] then closeF salt g
  else if way < 8 ∧ near ≠ [] then addF (.set ((near[(drw salt 1091 (near.length : Int)).toNat]?).getD "") (sumF salt near) .nil) g
  else addF (.say (sumF salt near) .nil) g
def foldF (more : List Str) : Nat → List Int → Gs → Gs
  | _, [], g => g
  | k, c :: cs, g => foldF more (k + 1) cs (stepF more k c g)
def closes : Nat → Gs → Gs
  | 0, g => g
  | n + 1, g => closes n (closeF 1 g)
def grownF (cells : List Int) (names more : List Str) : Bk :=
  match (closes 400 (foldF more 0 cells ⟨[.nil], [], names⟩)).bs with
  | b :: _ => b
  | [] => .nil
theorem closeF_nil (salt : Int) (g : Gs) (h : g.hs = []) : closeF salt g = g := by
  unfold closeF
  rw [h]
theorem closes_nil : ∀ (n : Nat) (g : Gs), g.hs = [] → closes n g = g
  | 0, _, _ => rfl
  | n + 1, g, h => by
    show closes n (closeF 1 g) = g
    rw [closeF_nil 1 g h, closes_nil n g h]
/-- how often it is closed until it is whole -/
def Hd.wt : Hd → Nat
  | .when _ => 2
  | _ => 1
def Gs.wt (g : Gs) : Nat := (g.hs.map Hd.wt).sum
def Hd.n : Hd → Nat
  | .els _ b => b.n
  | _ => 0
def Gs.n (g : Gs) : Nat := (g.bs.map Bk.n).sum + (g.hs.map Hd.n).sum
def Hd.w : Hd → Nat
  | .wit _ _ => 1
  | _ => 0
def Gs.w (g : Gs) : Nat := (g.hs.map Hd.w).sum
/-- the shape and size of it -/
structure Gs.Ok (g : Gs) (k : Nat) : Prop where
  len : g.bs.length = g.hs.length + 1
  wt : g.wt ≤ 2 * k
  n : g.n + 2 * g.wt ≤ 4 * k
  sc : g.sc.length ≤ 9 + k
  wl : g.w ≤ g.sc.length
theorem endF_n (salt : Int) (t : Ts) : (endF salt t).n ≤ 1 := by
  unfold endF
  split
  · split
    · exact Nat.le_refl _
    · exact Nat.zero_le _
  · exact Nat.zero_le _
theorem closeF_ok {salt : Int} {g : Gs} {k : Nat} (h : g.Ok k) (hh : g.hs ≠ []) : (closeF salt g).Ok k ∧ (closeF salt g).wt + 1 = g.wt := by
  obtain ⟨bs, hs, sc⟩ := g
  obtain ⟨len, wt, n, hsc, hwl⟩ := h
  simp only [Gs.wt, Gs.n, Gs.w] at len wt n hsc hwl ⊢
  match hs, bs, hh, len with
  | .when t :: hs, b :: bs, _, len =>
    simp only [closeF, List.map_cons, List.sum_cons, Hd.wt, Hd.n, Hd.w, Bk.n, List.length_cons] at len wt n hwl ⊢
    exact ⟨⟨by simp only [List.length_cons]; omega, by simp only [Gs.wt, List.map_cons, List.sum_cons, Hd.wt]; omega, by simp only [Gs.wt, Gs.n, List.map_cons, List.sum_cons, Hd.wt, Hd.n, Bk.n]; omega, hsc, by simp only [Gs.w, List.map_cons, List.sum_cons, Hd.w]; omega⟩, by omega⟩
  | .els t b0 :: hs, b :: b1 :: bs, _, len =>
    simp only [closeF, List.map_cons, List.sum_cons, Hd.wt, Hd.n, Hd.w, List.length_cons] at len wt n hwl ⊢
    have e := Bk.n_app b1 (.when t b0 b .nil)
    simp only [Bk.n] at e
    exact ⟨⟨by simp only [List.length_cons]; omega, by simp only [Gs.wt]; omega, by simp only [Gs.wt, Gs.n, List.map_cons, List.sum_cons]; omega, hsc, by simp only [Gs.w]; omega⟩, by omega⟩
  | .whil t :: hs, b :: b1 :: bs, _, len =>
    simp only [closeF, List.map_cons, List.sum_cons, Hd.wt, Hd.n, Hd.w, List.length_cons] at len wt n hwl ⊢
    have e := Bk.n_app b1 (.whil t (b.app (endF salt t)) .nil)
    have e2 := Bk.n_app b (endF salt t)
    have e3 := endF_n salt t
    simp only [Bk.n] at e
    exact ⟨⟨by simp only [List.length_cons]; omega, by simp only [Gs.wt]; omega, by simp only [Gs.wt, Gs.n, List.map_cons, List.sum_cons]; omega, hsc, by simp only [Gs.w]; omega⟩, by omega⟩
  | .wit x a :: hs, b :: b1 :: bs, _, len =>
    simp only [closeF, List.map_cons, List.sum_cons, Hd.wt, Hd.n, Hd.w, List.length_cons] at len wt n hwl ⊢
    have e := Bk.n_app b1 (.wit x a b .nil)
    simp only [Bk.n] at e
    exact ⟨⟨by simp only [List.length_cons]; omega, by simp only [Gs.wt]; omega, by simp only [Gs.wt, Gs.n, List.map_cons, List.sum_cons]; omega, by simp only [List.length_dropLast]; omega, by simp only [Gs.w, List.length_dropLast]; omega⟩, by omega⟩
  | .els _ _ :: _, [_], _, len => simp at len
  | .whil _ :: _, [_], _, len => simp at len
  | .wit _ _ :: _, [_], _, len => simp at len
  | _ :: _, [], _, len => simp at len
theorem headF_wt (way salt : Int) (sc : List Str) : (headF way salt sc).wt ≤ 2 ∧ (headF way salt sc).n = 0 ∧ 1 ≤ (headF way salt sc).wt := by
  unfold headF
  split
  · exact ⟨by simp [Hd.wt], rfl, by simp [Hd.wt]⟩
  · split
    · exact ⟨by simp [Hd.wt], rfl, by simp [Hd.wt]⟩
    · exact ⟨by simp [Hd.wt], rfl, by simp [Hd.wt]⟩
theorem headF_w (way salt : Int) (sc : List Str) (h0 : 0 ≤ way) (h3 : way < 3) : (headF way salt sc).w = (if way = 2 then 1 else 0) := by
  unfold headF
  by_cases e : way = 0
  · rw [if_pos e, if_neg (by omega)]; rfl
  · rw [if_neg e]
    by_cases e1 : way = 1
    · rw [if_pos e1, if_neg (by omega)]; rfl
    · rw [if_neg e1, if_pos (by omega)]; rfl
theorem addF_ok {o : Bk} {g : Gs} {k : Nat} (h : g.Ok k) (ho : o.n ≤ 1) : (addF o g).Ok (k + 1) := by
  obtain ⟨bs, hs, sc⟩ := g
  obtain ⟨len, wt, n, hsc, hwl⟩ := h
  simp only [Gs.wt, Gs.n, Gs.w] at len wt n hsc hwl
  match bs, len with
  | b :: bs, len =>
    have e := Bk.n_app b o
    simp only [List.map_cons, List.sum_cons, List.length_cons] at len n
    exact ⟨by simp only [addF, List.length_cons]; omega, by simp only [addF, Gs.wt]; omega, by simp only [addF, Gs.wt, Gs.n, List.map_cons, List.sum_cons]; omega, by simp only [addF]; omega, by simp only [addF, Gs.w]; omega⟩
theorem Gs.Ok.up {g : Gs} {k : Nat} (h : g.Ok k) : g.Ok (k + 1) := ⟨h.len, by have := h.wt; omega, by have := h.n; omega, by have := h.sc; omega, h.wl⟩
theorem stepF_ok {more : List Str} {k : Nat} {cell : Int} {g : Gs} (h : g.Ok k) : (stepF more k cell g).Ok (k + 1) := by
  unfold stepF
  dsimp only
  split
  · rename_i hlt
    have hw := headF_wt (cell % 9) (cell + 7919 * k) (g.sc ++ more)
    have hw2 := headF_w (cell % 9) (cell + 7919 * k) (g.sc ++ more) (by omega) (by omega)
    obtain ⟨len, wt, n, hsc, hwl⟩ := h
    simp only [Gs.wt, Gs.n, Gs.w] at len wt n hsc hwl
    have hl2 : (if cell % 9 = 2 then g.sc ++ [jarF (cell + 7919 * k) (g.sc ++ more)] else g.sc).length = g.sc.length + (if cell % 9 = 2 then 1 else 0) := by
      split
      · rw [List.length_append]; rfl
      · rfl
    have hl3 : (if cell % 9 = 2 then 1 else 0 : Nat) ≤ 1 := by split <;> decide
    refine ⟨by simp only [List.length_cons]; omega, by simp only [Gs.wt, List.map_cons, List.sum_cons]; omega, by simp only [Gs.wt, Gs.n, List.map_cons, List.sum_cons, Bk.n]; omega, ?_, ?_⟩
    · show (if cell % 9 = 2 then g.sc ++ [jarF (cell + 7919 * k) (g.sc ++ more)] else g.sc).length ≤ _
      omega
    · show ((headF (cell % 9) (cell + 7919 * k) (g.sc ++ more) :: g.hs).map Hd.w).sum ≤ (if cell % 9 = 2 then g.sc ++ [jarF (cell + 7919 * k) (g.sc ++ more)] else g.sc).length
      rw [List.map_cons, List.sum_cons]
      omega
  · split
    · rename_i hh
      exact (closeF_ok h hh.2).1.up
    · split
      · exact addF_ok h (Nat.le_refl _)
      · exact addF_ok h (Nat.le_refl _)
theorem foldF_ok {more : List Str} : ∀ (cs : List Int) {k : Nat} {g : Gs}, g.Ok k → (foldF more k cs g).Ok (k + cs.length)
  | [], _, _, h => h
  | c :: cs, k, g, h => by
    have := foldF_ok (more := more) cs (stepF_ok (more := more) (cell := c) h)
    rw [List.length_cons, show k + (cs.length + 1) = k + 1 + cs.length by omega]
    exact this
end J
namespace J
open PySem L2
theorem atI_str {sc : List Str} {i : Int} (h0 : 0 ≤ i) (h1 : i < (sc.length : Int)) : atI (sc.map V.str) i = some (.str ((sc[i.toNat]?).getD "")) := by
  obtain ⟨j, rfl⟩ := Int.eq_ofNat_of_zero_le h0
  have hlt : j < sc.length := by omega
  have e : ((j : Int)).toNat = j := rfl
  rw [e, List.getElem?_eq_getElem hlt]
  exact atI_nat (by rw [List.getElem?_map, List.getElem?_eq_getElem hlt]; rfl)
end J
namespace J
open PySem L2
theorem cut_take (sc : List Str) (n : Nat) : cutV (sc.map V.str) none (some (n : Int)) = (sc.take n).map V.str := by
  have e : HT.sIx (sc.map V.str).length (sc.map V.str).length (some (n : Int)) = min n sc.length := by
    unfold HT.sIx
    simp
    omega
  unfold cutV
  rw [e]
  have e0 : HT.sIx (sc.map V.str).length 0 none = 0 := rfl
  rw [e0]
  simp
end J

set_option Elab.async false
set_option linter.all false
set_option maxRecDepth 100000
set_option maxHeartbeats 4000000
namespace J
open PySem L2
/-! ### what is begun, as it lies on the heap -/
inductive IsHd (H : Hp) (M : Addr → Prop) : V → Hd → Prop where
  | whil {a : Addr} {u : V} {t : Ts} : H a = some (.tup [.str "while", u]) → IsTest H u t → IsHd H M (.ref a) (.whil t)
  | when {a : Addr} {u : V} {t : Ts} : H a = some (.tup [.str "when", u]) → IsTest H u t → IsHd H M (.ref a) (.when t)
  | els {a p : Addr} {u : V} {t : Ts} {vs : List V} {b : Bk} : H a = some (.tup [.str "else", u, .ref p]) → IsTest H u t → ¬ M p → H p = some (.lst vs) → IsBk H M vs b → IsHd H M (.ref a) (.els t b)
  | wit {a : Addr} {x : Str} {u : V} {s : Sm Str} : H a = some (.tup [.str "with", .str x, u]) → IsSum H u s → IsHd H M (.ref a) (.wit x s)
theorem IsHd.mono {H H' : Hp} {M M' : Addr → Prop} (B : Out M H H') (L : TupLe H H') (W : ∀ a, H a ≠ none → M' a → M a) {v : V} {h : Hd} (g : IsHd H M v h) : IsHd H' M' v h := by
  cases g with
  | whil e t => exact .whil (L _ _ e) (t.mono L)
  | when e t => exact .when (L _ _ e) (t.mono L)
  | els e t n1 e1 h1 => exact .els (L _ _ e) (t.mono L) (fun z => n1 (W _ (by rw [e1]; exact fun z => nomatch z) z)) (B _ _ n1 e1) (h1.mono B L W)
  | wit e t => exact .wit (L _ _ e) (t.mono L)
/-- a block that is begun -/
def OB (H0 : Hp) (lb lh ls : Addr) (H : Hp) (M : Addr → Prop) (v : V) (b : Bk) : Prop := ∃ p vs, v = .ref p ∧ p ≠ lb ∧ p ≠ lh ∧ p ≠ ls ∧ H0 p = none ∧ H p = some (.lst vs) ∧ IsBk H M vs b
theorem OB.mono {H0 : Hp} {lb lh ls : Addr} {H H' : Hp} {M M' : Addr → Prop} (B : Out M H H') (L : TupLe H H') (W : ∀ a, H a ≠ none → M' a → M a) {v : V} {b : Bk} (hv : ∀ p vs, v = .ref p → p ≠ lb → p ≠ lh → p ≠ ls → H p = some (.lst vs) → H' p = some (.lst vs)) (h : OB H0 lb lh ls H M v b) : OB H0 lb lh ls H' M' v b := by
  obtain ⟨p, vs, rfl, n1, n2, n3, h0, e, hb⟩ := h
  exact ⟨p, vs, rfl, n1, n2, n3, h0, hv p vs rfl n1 n2 n3 e, hb.mono B L W⟩
def GM (lb lh ls : Addr) (vbs : List V) (X : Addr → Prop) : Addr → Prop := fun a => a = lb ∨ a = lh ∨ a = ls ∨ .ref a ∈ vbs ∨ X a
structure GRel (H0 H : Hp) (lb lh ls : Addr) (X : Addr → Prop) (g : Gs) (vbs vhs : List V) : Prop where
  S : Same H0 H
  nb : H0 lb = none
  nh : H0 lh = none
  ns : H0 ls = none
  ne1 : lb ≠ lh
  ne2 : lb ≠ ls
  ne3 : lh ≠ ls
  eb : H lb = some (.lst vbs)
  eh : H lh = some (.lst vhs)
  es : H ls = some (.lst (g.sc.map V.str))
  nd : vbs.Nodup
  bs : Paired (OB H0 lb lh ls H (GM lb lh ls vbs X)) vbs.reverse g.bs
  hs : Paired (IsHd H (GM lb lh ls vbs X)) vhs.reverse g.hs
theorem tup_upd {H : Hp} {l : Addr} {ys : List V} (h : H l = some (.lst ys)) (o : HO) : TupLe H (upd H l o) := (but_upd (l := l) o).tup h
theorem GRel.grow {H0 H H' : Hp} {lb lh ls : Addr} {X : Addr → Prop} {g : Gs} {vbs vhs : List V} (S : Same H H') (h : GRel H0 H lb lh ls X g vbs vhs) : GRel H0 H' lb lh ls X g vbs vhs where
  S := h.S.trans S
  nb := h.nb
  nh := h.nh
  ns := h.ns
  ne1 := h.ne1
  ne2 := h.ne2
  ne3 := h.ne3
  eb := S _ _ h.eb
  eh := S _ _ h.eh
  es := S _ _ h.es
  nd := h.nd
  bs := Paired.mapP h.bs fun v b z => z.mono (.of S) S.tup (fun _ _ z => z) fun p vs _ _ _ _ e => S _ _ e
  hs := Paired.mapP h.hs fun v b z => z.mono (.of S) S.tup fun _ _ z => z
/-- one more is begun -/
theorem GRel.push {H0 H : Hp} {lb lh ls : Addr} {X : Addr → Prop} {g : Gs} {vbs vhs : List V} (h : GRel H0 H lb lh ls X g vbs vhs) {u : V} {hd : Hd} (hu : IsHd H (GM lb lh ls vbs X) u hd) {p : Addr} (hp : upd H lh (.lst (vhs ++ [u])) p = none) :
    GRel H0 (upd (upd (upd H lh (.lst (vhs ++ [u]))) p (.lst [])) lb (.lst (vbs ++ [.ref p]))) lb lh ls X ⟨.nil :: g.bs, hd :: g.hs, g.sc⟩ (vbs ++ [.ref p]) (vhs ++ [u]) := by
  have hpH : H p = none := by
    by_cases e : p = lh
    · subst e; rw [upd_same] at hp; cases hp
    · rwa [upd_ne e] at hp
  have pb : p ≠ lb := fun e => by rw [e, h.eb] at hpH; cases hpH
  have ph : p ≠ lh := fun e => by rw [e, h.eh] at hpH; cases hpH
  have psn : p ≠ ls := fun e => by rw [e, h.es] at hpH; cases hpH
  have p0 : H0 p = none := by
    cases e : H0 p with
    | none => rfl
    | some o => rw [h.S _ _ e] at hpH; cases hpH
  have hM : ∀ a, H a ≠ none → GM lb lh ls (vbs ++ [.ref p]) X a → GM lb lh ls vbs X a := fun a ha z => by
    rcases z with z | z | z | z | z
    · exact .inl z
    · exact .inr (.inl z)
    · exact .inr (.inr (.inl z))
    · rcases List.mem_append.mp z with z | z
      · exact .inr (.inr (.inr (.inl z)))
      · have := List.mem_singleton.mp z
        injection this with this
        rw [this] at ha
        exact absurd hpH ha
    · exact .inr (.inr (.inr (.inr z)))
  have keep : ∀ a, a ≠ lb → a ≠ lh → ∀ o, H a = some o → upd (upd (upd H lh (.lst (vhs ++ [u]))) p (.lst [])) lb (.lst (vbs ++ [.ref p])) a = some o := fun a n1 n2 o e => by
    rw [upd_ne n1, upd_ne (fun z => by rw [z, hpH] at e; cases e), upd_ne n2]; exact e
  have B : Out (GM lb lh ls vbs X) H (upd (upd (upd H lh (.lst (vhs ++ [u]))) p (.lst [])) lb (.lst (vbs ++ [.ref p]))) := fun a o n e => keep a (fun z => n (.inl z)) (fun z => n (.inr (.inl z))) o e
  have L : TupLe H (upd (upd (upd H lh (.lst (vhs ++ [u]))) p (.lst [])) lb (.lst (vbs ++ [.ref p]))) := fun a xs e => keep a (fun z => by rw [z, h.eb] at e; cases e) (fun z => by rw [z, h.eh] at e; cases e) _ e
  refine ⟨fun a o e => ?_, h.nb, h.nh, h.ns, h.ne1, h.ne2, h.ne3, upd_same, ?_, ?_, ?_, ?_, ?_⟩
  · exact keep a (fun z => by rw [z, h.nb] at e; cases e) (fun z => by rw [z, h.nh] at e; cases e) _ (h.S _ _ e)
  · rw [upd_ne h.ne1.symm, upd_ne ph.symm, upd_same]
  · exact keep ls h.ne2.symm h.ne3.symm _ h.es
  · refine List.nodup_append.mpr ⟨h.nd, by simp, fun a ha b hb e => ?_⟩
    have := List.mem_singleton.mp hb
    subst this
    subst e
    obtain ⟨i, hi⟩ := List.getElem?_of_mem (List.mem_reverse.mpr ha)
    obtain ⟨b, _, p', vs, e1, _, _, _, _, e2, _⟩ := pget h.bs hi
    injection e1 with e1
    rw [← e1, hpH] at e2
    cases e2
  · rw [List.reverse_append]
    refine .cons ⟨p, [], rfl, pb, ph, psn, p0, by rw [upd_ne pb, upd_same], .nil⟩ (Paired.mapP h.bs fun v b z => z.mono B L hM fun q vs _ n1 n2 _ e => keep q n1 n2 _ e)
  · rw [List.reverse_append]
    exact .cons (hu.mono B L hM) (Paired.mapP h.hs fun v b z => z.mono B L hM)
theorem GRel.scope {H0 H : Hp} {lb lh ls : Addr} {X : Addr → Prop} {g : Gs} {vbs vhs : List V} (h : GRel H0 H lb lh ls X g vbs vhs) (sc : List Str) : GRel H0 (upd H ls (.lst (sc.map V.str))) lb lh ls X ⟨g.bs, g.hs, sc⟩ vbs vhs := by
  have B : Out (GM lb lh ls vbs X) H (upd H ls (.lst (sc.map V.str))) := out_upd (.inr (.inr (.inl rfl))) _
  have L := tup_upd h.es (.lst (sc.map V.str))
  refine ⟨Same.at h.S h.ns _, h.nb, h.nh, h.ns, h.ne1, h.ne2, h.ne3, by rw [upd_ne h.ne2]; exact h.eb, by rw [upd_ne h.ne3]; exact h.eh, upd_same, h.nd, ?_, ?_⟩
  · exact Paired.mapP h.bs fun v b z => z.mono B L (fun _ _ z => z) fun q vs _ _ _ n3 e => by rw [upd_ne n3]; exact e
  · exact Paired.mapP h.hs fun v b z => z.mono B L fun _ _ z => z
theorem prev {α β : Type} {F : α → β → Prop} {vs : List α} {b : β} {bs : List β} (h : Paired F vs.reverse (b :: bs)) : ∃ vs' v, vs = vs' ++ [v] ∧ F v b ∧ Paired F vs'.reverse bs := by
  cases e : vs.reverse with
  | nil => rw [e] at h; cases h
  | cons v w =>
    rw [e] at h
    cases h with
    | cons h1 h2 =>
      refine ⟨w.reverse, v, ?_, h1, ?_⟩
      · have := congrArg List.reverse e
        rw [List.reverse_reverse, List.reverse_cons] at this
        exact this
      · rw [List.reverse_reverse]; exact h2
/-- the innermost block gets more orders -/
theorem GRel.add {H0 H : Hp} {lb lh ls : Addr} {X : Addr → Prop} {b : Bk} {bs : List Bk} {hs : List Hd} {sc : List Str} {vbs vhs : List V} (h : GRel H0 H lb lh ls X ⟨b :: bs, hs, sc⟩ vbs vhs) {ws : List V} {o : Bk} (ho : IsBk H (GM lb lh ls vbs X) ws o) :
    ∃ vbs' p vs, vbs = vbs' ++ [.ref p] ∧ H p = some (.lst vs) ∧ vs.length ≤ b.n ∧ GRel H0 (upd H p (.lst (vs ++ ws))) lb lh ls X ⟨b.app o :: bs, hs, sc⟩ vbs vhs := by
  obtain ⟨vbs', v, rfl, hv, hr⟩ := prev h.bs
  obtain ⟨p, vs, rfl, n1, n2, n3, h0, e, hb⟩ := hv
  have hMp : GM lb lh ls (vbs' ++ [.ref p]) X p := .inr (.inr (.inr (.inl (by simp))))
  have B : Out (GM lb lh ls (vbs' ++ [.ref p]) X) H (upd H p (.lst (vs ++ ws))) := out_upd hMp _
  have L := tup_upd e (.lst (vs ++ ws))
  have nd := List.nodup_append.mp h.nd
  refine ⟨vbs', p, vs, rfl, e, hb.len, Same.at h.S h0 _, h.nb, h.nh, h.ns, h.ne1, h.ne2, h.ne3, by rw [upd_ne n1.symm]; exact h.eb, by rw [upd_ne n2.symm]; exact h.eh, by rw [upd_ne n3.symm]; exact h.es, h.nd, ?_, ?_⟩
  · rw [List.reverse_append]
    refine .cons ⟨p, vs ++ ws, rfl, n1, n2, n3, h0, upd_same, (hb.app ho).mono B L fun _ _ z => z⟩ ?_
    have hr' : Paired (fun v b => OB H0 lb lh ls H (GM lb lh ls (vbs' ++ [.ref p]) X) v b ∧ v ∈ vbs') vbs'.reverse bs := by
      have : ∀ {xs : List V} {ys : List Bk}, Paired (OB H0 lb lh ls H (GM lb lh ls (vbs' ++ [.ref p]) X)) xs ys → (∀ x ∈ xs, x ∈ vbs') → Paired (fun v b => OB H0 lb lh ls H (GM lb lh ls (vbs' ++ [.ref p]) X) v b ∧ v ∈ vbs') xs ys := by
        intro xs ys hh
        induction hh with
        | nil => exact fun _ => .nil
        | cons a _ ih => exact fun hm => .cons ⟨a, hm _ (by simp)⟩ (ih fun x hx => hm x (by simp [hx]))
      exact this hr fun x hx => List.mem_reverse.mp hx
    refine Paired.mapP hr' fun v b z => z.1.mono B L (fun _ _ z => z) fun q vs' eq _ _ _ e' => ?_
    have : q ≠ p := fun z' => by
      subst z'
      exact nd.2.2 v z.2 (.ref q) (by simp) eq
    rw [upd_ne this]; exact e'
  · exact Paired.mapP h.hs fun v b z => z.mono B L fun _ _ z => z
/-- the innermost one is taken off -/
theorem GRel.pop {H0 H : Hp} {lb lh ls : Addr} {b : Bk} {bs : List Bk} {hd : Hd} {hs : List Hd} {sc : List Str} {vbs vhs : List V} (h : GRel H0 H lb lh ls noM ⟨b :: bs, hd :: hs, sc⟩ vbs vhs) :
    ∃ vbs' p vs vhs' u, vbs = vbs' ++ [.ref p] ∧ vhs = vhs' ++ [u] ∧ GRel H0 (upd (upd H lh (.lst vhs')) lb (.lst vbs')) lb lh ls (fun a => a = p) ⟨bs, hs, sc⟩ vbs' vhs' ∧ IsHd (upd (upd H lh (.lst vhs')) lb (.lst vbs')) (GM lb lh ls vbs' fun a => a = p) u hd ∧
      upd (upd H lh (.lst vhs')) lb (.lst vbs') p = some (.lst vs) ∧ IsBk (upd (upd H lh (.lst vhs')) lb (.lst vbs')) (GM lb lh ls vbs' fun a => a = p) vs b ∧ p ≠ lb ∧ p ≠ lh ∧ p ≠ ls ∧ H0 p = none ∧ V.ref p ∉ vbs' := by
  obtain ⟨vbs', v, rfl, hv, hr⟩ := prev h.bs
  obtain ⟨vhs', u, rfl, hu, hr2⟩ := prev h.hs
  obtain ⟨p, vs, rfl, n1, n2, n3, h0, e, hb⟩ := hv
  have nd := List.nodup_append.mp h.nd
  have hM : ∀ a, GM lb lh ls vbs' (fun a => a = p) a → GM lb lh ls (vbs' ++ [.ref p]) noM a := fun a z => by
    rcases z with z | z | z | z | z
    · exact .inl z
    · exact .inr (.inl z)
    · exact .inr (.inr (.inl z))
    · exact .inr (.inr (.inr (.inl (List.mem_append_left _ z))))
    · exact .inr (.inr (.inr (.inl (by rw [z]; simp))))
  have keep : ∀ a, a ≠ lb → a ≠ lh → ∀ o, H a = some o → upd (upd H lh (.lst vhs')) lb (.lst vbs') a = some o := fun a m1 m2 o e => by rw [upd_ne m1, upd_ne m2]; exact e
  have B : Out (GM lb lh ls (vbs' ++ [.ref p]) noM) H (upd (upd H lh (.lst vhs')) lb (.lst vbs')) := fun a o n e => keep a (fun z => n (.inl z)) (fun z => n (.inr (.inl z))) o e
  have L : TupLe H (upd (upd H lh (.lst vhs')) lb (.lst vbs')) := fun a xs e => keep a (fun z => by rw [z, h.eb] at e; cases e) (fun z => by rw [z, h.eh] at e; cases e) _ e
  refine ⟨vbs', p, vs, vhs', u, rfl, rfl, ⟨fun a o e => ?_, h.nb, h.nh, h.ns, h.ne1, h.ne2, h.ne3, upd_same, by rw [upd_ne h.ne1.symm, upd_same], keep ls h.ne2.symm h.ne3.symm _ h.es, nd.1, ?_, ?_⟩, hu.mono B L fun a _ z => hM a z, keep p n1 n2 _ e, hb.mono B L fun a _ z => hM a z, n1, n2, n3, h0, fun z => nd.2.2 _ z _ (by simp) rfl⟩
  · exact keep a (fun z => by rw [z, h.nb] at e; cases e) (fun z => by rw [z, h.nh] at e; cases e) _ (h.S _ _ e)
  · exact Paired.mapP hr fun v b z => z.mono B L (fun a _ z => hM a z) fun q vs _ m1 m2 _ e => keep q m1 m2 _ e
  · exact Paired.mapP hr2 fun v b z => z.mono B L fun a _ z => hM a z
/-- what was taken off may not change any more -/
theorem gm_less {lb lh ls : Addr} {vbs : List V} {X : Addr → Prop} (a : Addr) (z : GM lb lh ls vbs noM a) : GM lb lh ls vbs X a := by
  rcases z with z | z | z | z | z
  · exact .inl z
  · exact .inr (.inl z)
  · exact .inr (.inr (.inl z))
  · exact .inr (.inr (.inr (.inl z)))
  · exact z.elim
theorem GRel.close {H0 H : Hp} {lb lh ls : Addr} {X : Addr → Prop} {g : Gs} {vbs vhs : List V} (h : GRel H0 H lb lh ls X g vbs vhs) : GRel H0 H lb lh ls noM g vbs vhs where
  S := h.S
  nb := h.nb
  nh := h.nh
  ns := h.ns
  ne1 := h.ne1
  ne2 := h.ne2
  ne3 := h.ne3
  eb := h.eb
  eh := h.eh
  es := h.es
  nd := h.nd
  bs := Paired.mapP h.bs fun v b z => z.mono (fun _ _ _ e => e) (fun _ _ e => e) (fun a _ z => gm_less a z) fun p vs _ _ _ _ e => e
  hs := Paired.mapP h.hs fun v b z => z.mono (fun _ _ _ e => e) (fun _ _ e => e) fun a _ z => gm_less a z
/-- an order more in the block that was taken off -/
theorem GRel.more {H0 H : Hp} {lb lh ls p : Addr} {g : Gs} {vbs vhs vs : List V} {b : Bk} (h : GRel H0 H lb lh ls (fun a => a = p) g vbs vhs) (n1 : p ≠ lb) (n2 : p ≠ lh) (n3 : p ≠ ls) (h0 : H0 p = none) (hn : V.ref p ∉ vbs) (e : H p = some (.lst vs)) (hb : IsBk H (GM lb lh ls vbs fun a => a = p) vs b)
    {ws : List V} {o : Bk} (ho : IsBk H (GM lb lh ls vbs fun a => a = p) ws o) :
    GRel H0 (upd H p (.lst (vs ++ ws))) lb lh ls (fun a => a = p) g vbs vhs ∧ IsBk (upd H p (.lst (vs ++ ws))) (GM lb lh ls vbs fun a => a = p) (vs ++ ws) (b.app o) ∧ Out (GM lb lh ls vbs fun a => a = p) H (upd H p (.lst (vs ++ ws))) := by
  have B : Out (GM lb lh ls vbs fun a => a = p) H (upd H p (.lst (vs ++ ws))) := out_upd (.inr (.inr (.inr (.inr rfl)))) _
  have L := tup_upd e (.lst (vs ++ ws))
  refine ⟨⟨Same.at h.S h0 _, h.nb, h.nh, h.ns, h.ne1, h.ne2, h.ne3, by rw [upd_ne n1.symm]; exact h.eb, by rw [upd_ne n2.symm]; exact h.eh, by rw [upd_ne n3.symm]; exact h.es, h.nd, ?_, ?_⟩, (hb.app ho).mono B L fun _ _ z => z, B⟩
  · have hm : ∀ {xs : List V} {ys : List Bk}, Paired (OB H0 lb lh ls H (GM lb lh ls vbs fun a => a = p)) xs ys → (∀ x ∈ xs, x ∈ vbs) → Paired (OB H0 lb lh ls (upd H p (.lst (vs ++ ws))) (GM lb lh ls vbs fun a => a = p)) xs ys := by
      intro xs ys hh
      induction hh with
      | nil => exact fun _ => .nil
      | cons a _ ih =>
        intro hm
        refine .cons (a.mono B L (fun _ _ z => z) fun q vs' eq _ _ _ e' => ?_) (ih fun x hx => hm x (by simp [hx]))
        have : q ≠ p := fun z' => by
          subst z'
          exact hn (eq ▸ hm _ (by simp))
        rw [upd_ne this]; exact e'
    exact hm h.bs fun x hx => List.mem_reverse.mp hx
  · exact Paired.mapP h.hs fun v b z => z.mono B L fun _ _ z => z
end J
namespace J
open PySem L2
theorem Bk.app_nil : ∀ b : Bk, b.app .nil = b
  | .nil => rfl
  | .set x a r => by show Bk.set x a (r.app .nil) = _; rw [Bk.app_nil r]
  | .say a r => by show Bk.say a (r.app .nil) = _; rw [Bk.app_nil r]
  | .when t b c r => by show Bk.when t b c (r.app .nil) = _; rw [Bk.app_nil r]
  | .whil t b r => by show Bk.whil t b (r.app .nil) = _; rw [Bk.app_nil r]
  | .wit x a b r => by show Bk.wit x a b (r.app .nil) = _; rw [Bk.app_nil r]
theorem GRel.top {H0 H : Hp} {lb lh ls : Addr} {X : Addr → Prop} {b : Bk} {bs : List Bk} {hs : List Hd} {sc : List Str} {vbs vhs : List V} (h : GRel H0 H lb lh ls X ⟨b :: bs, hs, sc⟩ vbs vhs) :
    ∃ vbs' p vs, vbs = vbs' ++ [.ref p] ∧ H p = some (.lst vs) ∧ vs.length ≤ b.n ∧ ∀ H', Same H H' → ∀ ws o, IsBk H' (GM lb lh ls vbs X) ws o → GRel H0 (upd H' p (.lst (vs ++ ws))) lb lh ls X ⟨b.app o :: bs, hs, sc⟩ vbs vhs := by
  obtain ⟨vbs', v, e0, hv, hr⟩ := prev h.bs
  obtain ⟨p, vs, rfl, n1, n2, n3, h0, e, hb⟩ := hv
  refine ⟨vbs', p, vs, e0, e, hb.len, fun H' S ws o ho => ?_⟩
  obtain ⟨vb2, p2, vs2, e2, e3, _, g⟩ := (h.grow S).add ho
  rw [e0] at e2
  have e4 := List.append_inj_right' e2 rfl
  have e5 : p = p2 := by
    have := (List.cons.inj e4).1
    injection this
  subst e5
  rw [S _ _ e] at e3
  have : vs = vs2 := by injection e3 with z; injection z
  subst this
  exact g
/-- a list that is no open one -/
theorem GRel.not_M {H0 H : Hp} {lb lh ls p : Addr} {vbs : List V} (n1 : p ≠ lb) (n2 : p ≠ lh) (n3 : p ≠ ls) (hn : V.ref p ∉ vbs) : ¬ GM lb lh ls vbs noM p := fun z => by
  rcases z with z | z | z | z | z
  · exact n1 z
  · exact n2 z
  · exact n3 z
  · exact hn z
  · exact z
end J

set_option Elab.async false
set_option linter.all false
set_option maxRecDepth 100000
set_option maxHeartbeats 4000000
namespace L2
open PySem PySem.Spec PyProof.Rows
/-! ### list(reversed(xs)) -/
theorem lri_len :
    typeLookup (.type "list_reverseiterator") "__len__" = pure none := by
  rw [typeLookup_type, builtinLookup_eq_fast]
  kernel_rfl
theorem lri_hint : typeLookup (.type "list_reverseiterator")
    "__length_hint__" = pure (some (.builtin "list_reverseiterator.__length_hint__")) := by
  rw [typeLookup_type, builtinLookup_eq_fast]
  kernel_rfl
/-- where the walk from the end stands -/
def RevAt (it l : Addr) (xs : Array Value) : Nat → Shared → Prop := fun i z => i ≤ xs.size ∧ z.heap.IsRevIter it l ((xs.size : Int) - 1 - (i : Int)) ∧ z.heap.IsList l xs
theorem rev_walks {pr : Program} {wd : World} {Ar : Around} (hd : Ar.handled = none) (it l : Addr) (ne : l ≠ it) (xs : Array Value) :
    WalksS pr wd Ar it [it, l] [it] (fun a b => b = a) xs.size (fun i v => xs[xs.size - 1 - i]? = some v) (RevAt it l xs) := (Walks.listRev hd it l ne xs).toS
section
variable {pr : Program} {wd : World} {Ar : Around} {z : Shared} {R : Result → Shared → Prop} {it l : Addr} {xs : Array Value}
theorem ext_rev (hd : Ar.handled = none) (ne : l ≠ it) (D : Addr) (res : Value) (c : Nat) (st : RevAt it l xs 0 z) (nit : D ≠ it) (nl : D ≠ l)
    (hD : z.heap.get? D = some { cls := .type "list", data := .seq #[] c }) (hn : xs.size ≤ sizeLine)
    (hR : ∀ z' acc c', Moved (D :: [it]) (fun a b => b = a) z z' → z'.heap.get? D = some { cls := .type "list", dict := none, data := .seq acc c', slots := #[] } →
      ItemsOf (fun i v => xs[xs.size - 1 - i]? = some v) acc xs.size → R (.ok (.ret res)) z') :
    wpAny (model pr wd) Ar.in1 (Builtin.List.listExtendWith (.ref D) (.ref it) res)
      (fun fin z' => match fin with
        | .done f => R (.ok f) z'
        | .again k => k.quiet = true ∧ codeAny (model pr wd) Ar k R z')
      (fun e z' => R (.error e) z') z := by
  have W := rev_walks (pr := pr) (wd := wd) (Ar := Ar.in1) hd it l ne xs
  have hty : ∀ i z, RevAt it l xs i z → z.TypeIs (.ref it) "list_reverseiterator" := fun i z q => q.2.1.typeIs
  have hnf : D ∉ [it, l] := fun m => by
    rcases List.mem_cons.mp m with e | m
    · exact nit e
    · exact nl (List.mem_singleton.mp m)
  have e1 : Builtin.List.listSameRef (.ref D) (.ref it) = false := by
    simp [Builtin.List.listSameRef, nit]
  unfold Builtin.List.listExtendWith
  refine wpAny_bind (wpAny_typeOf (hty 0 _ st) ?_)
  rw [if_neg (by rw [e1]; decide)]
  refine wpAny_bind (W.self 0 _ _ _ st ?_)
  refine wpAny_bind (wpAny_holding ?_)
  unfold Builtin.List.listLengthHint
  refine wpAny_bind (wpAny_specialOf (hty 0 _ st) lri_len ?_)
  show wpAny _ Ar.in1
    (specialOf (Value.ref it) (Str.ofString "__length_hint__") >>= _) _ _ _
  refine wpAny_bind (wpAny_specialOf (hty 0 _ st) lri_hint ?_)
  generalize hid : ("list_reverseiterator.__length_hint__" : String) = idn
  wp_delta
  rw [show splitId idn = some ("list_reverseiterator", "__length_hint__") from by subst hid; decide +kernel]
  subst hid
  refine wpAny_bind (wpAny_isInstance (b := true)
    (hty 0 _ st) (by rw [isSubtype_type]; kernel_rfl) ?_)
  refine wpAny_pure ?_
  rw [if_neg (by decide)]
  exact wpAny_pure ⟨plainId_quiet F.plain_extend_loop _,
    codeAny_extend_loopS W hn _ hnf _ xs.size 0 _ _ _ rfl (Nat.zero_le _) st hD (ItemsOf.nil _) hR⟩
theorem init_rev (hd : Ar.handled = none) (ne : l ≠ it) (D : Addr) (st : RevAt it l xs 0 z) (nit : D ≠ it) (nl : D ≠ l)
    (hD : z.heap.get? D = some { cls := .type "list", data := .seq #[] }) (hn : xs.size ≤ sizeLine)
    (hR : ∀ z' acc c', Moved (D :: [it]) (fun a b => b = a) z z' → z'.heap.get? D = some { cls := .type "list", dict := none, data := .seq acc c', slots := #[] } →
      ItemsOf (fun i v => xs[xs.size - 1 - i]? = some v) acc xs.size → R (.ok (.ret .none)) z') :
    wpAny (model pr wd) Ar.in1 (Builtin.«list.__init__» ⟨[.ref D, .ref it], []⟩)
      (fun fin z' => match fin with
        | .done f => R (.ok f) z'
        | .again k => k.quiet = true ∧ codeAny (model pr wd) Ar k R z')
      (fun e z' => R (.error e) z') z := by
  show wpAny _ Ar.in1 (do
    let old ← Builtin.List.listItems (.ref D)
    Builtin.List.listUpdate (.ref D) (fun _ => #[])
    letGo old.toList.reverse
    Builtin.List.listExtendWith (.ref D) (.ref it) .none) _ _ z
  refine wpAny_bind ?_
  unfold Builtin.List.listItems
  refine wpAny_bind (wpAny_seqItems hD rfl (wpAny_pure ?_))
  show wpAny _ Ar.in1 (updateSeq D (fun _ => #[]) >>= fun _ =>
    letGo (#[] : Array Value).toList.reverse >>= fun _ => Builtin.List.listExtendWith (.ref D) (.ref it) .none) _ _ z
  refine wpAny_bind (wpAny_updateSeq hD rfl ?_)
  have hD2 := Heap.get?_update_self (Obj.mapSeq
    (fun _ => (#[] : Array Value))) hD rfl
  have ot : ∀ b o, b ≠ D → z.heap.get? b = some o → (z.heap.update D
      (Obj.mapSeq (fun _ => (#[] : Array Value)))).get? b = some o :=
    fun b o nb e => (Heap.get?_update_other _ _ (Ne.symm nb)).trans e
  refine wpAny_bind (wpAny_letGo ?_)
  have st2 : RevAt it l xs 0 { z with heap := z.heap.update D (Obj.mapSeq (fun _ => (#[] : Array Value))) } :=
    ⟨st.1, st.2.1.at fun o e => ot it o nit.symm e, st.2.2.at fun o e => ot l o nl.symm e⟩
  refine ext_rev hd ne D .none _ st2 nit nl hD2 hn fun z' acc c' hm h1 h2 => hR z' acc c' ?_ h1 h2
  have m1 : Moved (D :: [it]) (fun a b => b = a) z { z with heap := z.heap.update D (Obj.mapSeq (fun _ => (#[] : Array Value))) } :=
    ⟨fun b o nb e => ot b o (fun q => nb (by rw [q]; exact List.mem_cons_self)) e, rfl, rfl, rfl, Nat.le_refl _⟩
  exact Moved.trans (fun _ _ _ p q => q.trans p) m1 hm
end
theorem list_of_rev {pr : Program} {wd : World} {Ar : Around} {z : Shared} {E : Value → Shared → Prop} {it l : Addr} {xs : Array Value} {Q : Value → Shared → Prop} (hd : Ar.handled = none) (ne : l ≠ it) (st : RevAt it l xs 0 z) (hn : xs.size ≤ sizeLine)
    (hQ : ∀ z' acc c', Moved (z.heap.objs.size :: [it]) (fun a b => b = a) { z with heap := z.heap.push { cls := .type "list", data := .seq #[] } } z' →
      z'.heap.get? z.heap.objs.size = some { cls := .type "list", dict := none, data := .seq acc c', slots := #[] } → ItemsOf (fun i v => xs[xs.size - 1 - i]? = some v) acc xs.size → Q (.ref z.heap.objs.size) z') :
    wpAny (model pr wd) Ar (call (.type "list") [.ref it]) Q E z := by
  have n1 : z.heap.objs.size ≠ it := fun e => by
    obtain ⟨o, ho, _⟩ := st.2.1
    have := Heap.lt_size ho
    rw [e] at this
    exact Nat.lt_irrefl _ this
  have n2 : z.heap.objs.size ≠ l := fun e => by
    obtain ⟨o, ho, _⟩ := st.2.2
    have := Heap.lt_size ho
    rw [e] at this
    exact Nat.lt_irrefl _ this
  refine callType_codes (Q₁ := fun v z1 => v = .ref z.heap.objs.size ∧ z1 = { z with heap := z.heap.push { cls := .type "list", data := .seq #[] } })
    F.called_list (F.typeCall_list_1 _) F.entry_list_init (code_list_new _ ⟨rfl, rfl⟩) fun v z1 h1 => ?_
  obtain ⟨rfl, rfl⟩ := h1
  have hD : (z.heap.push { cls := .type "list", data := .seq #[] }).get? z.heap.objs.size =
    some { cls := .type "list", data := .seq #[] } := Heap.get?_push_size _ rfl
  have st2 : RevAt it l xs 0 { z with heap := z.heap.push { cls := .type "list", data := .seq #[] } } :=
    ⟨st.1, st.2.1.at fun o e => Heap.get?_push_of_some _ e, st.2.2.at fun o e => Heap.get?_push_of_some _ e⟩
  refine ⟨⟨_, hD, rfl⟩, F.args_list_init_2 _ _, init_rev (Ar := Ar.in1) hd ne _ st2 n1 n2 hD hn fun z' acc c' hm h1 h2 => ?_⟩
  exact ⟨rfl, hQ z' acc c' hm h1 h2⟩
theorem items_rev {xs acc : Array Value} (h : ItemsOf (fun i v => xs[xs.size - 1 - i]? = some v) acc xs.size) : acc.toList = xs.toList.reverse := by
  obtain ⟨h1, h2⟩ := h
  refine List.ext_getElem? fun i => ?_
  by_cases hi : i < acc.size
  · have e : acc[i]? = some acc[i] := Array.getElem?_eq_getElem hi
    have := h2 i _ e
    rw [Array.getElem?_toList, e, ← this, List.getElem?_reverse (by simp; omega)]
    simp
  · rw [List.getElem?_eq_none (by simp; omega), List.getElem?_eq_none (by simp; omega)]
section
variable {X : Cx} {e : Expr} {te : TE} {p1 p2 pos1 pos2 : Pos}
def tListRev (te : TE) : TE := fun σ H Q => te σ H fun x H1 => ∃ l xs, x = .ref l ∧ H1 l = some (.lst xs) ∧ ∀ p, H1 p = none → Q (.ref p) (upd H1 p (.lst xs.reverse))
theorem vals_rev {xs : List V} {us : List Value} (h : Vals xs us) : Vals xs.reverse us.reverse := by
  induction h with
  | nil => exact .nil
  | cons a _ ih =>
    rw [List.reverse_cons, List.reverse_cons]
    exact Paired.snoc ih a
theorem pe_listRev (hc : X.calm = true) (hg : Gl X "list") (hm : X.mg "list" = none) (hg2 : Gl X "reversed") (hm2 : X.mg "reversed" = none) (hb2 : bootBuiltins "reversed" = some (.type "reversed")) (he : PE X e te)
    (hs1 : starEach [Expr.Call (.Name "reversed" p2) [e] [] pos2] X.env = (false, eval (Expr.Call (.Name "reversed" p2) [e] [] pos2) X.env) :: starEach [] X.env := by rfl) (hs2 : starEach [e] X.env = (false, eval e X.env) :: starEach [] X.env := by rfl) :
    PE X (.Call (.Name "list" p1) [.Call (.Name "reversed" p2) [e] [] pos2] [] pos1) (tListRev te) := by
  intro pins s σ H Q I h
  refine wpAny_Call_Name_kw (ld_blt I hg hm (show bootBuiltins "list" = some (.type "list") by decide +kernel) ?_ (by decide) (by decide))
  refine PyProof.Rows.callWith_type1 ?_ hs1 (by rfl)
  rw [hs1]
  show wpAny _ _ (spliced ((false, eval (Expr.Call (.Name "reversed" p2) [e] [] pos2) X.env) :: backTo pos1 (starEach [] X.env))) _ _ s
  refine Calls.spliced_cons ?_
  refine wpAny_Call_Name_kw (ld_blt I hg2 hm2 hb2 ?_ (by decide) (by decide))
  refine PyProof.Rows.callWith_type1 ?_ hs2 (by rfl)
  rw [hs2]
  show wpAny _ _ (spliced ((false, eval e X.env) :: backTo pos2 (starEach [] X.env))) _ _ s
  refine Calls.spliced_cons (thn (he pins s σ H _ I h) fun u s1 ⟨x, H1, I1, r1, q1⟩ => ?_)
  refine Calls.spliced_nil ?_
  obtain ⟨l, xs, rfl, hl, q⟩ := q1
  cases r1
  obtain ⟨hz, its, n, rv, hlen, ho⟩ := I1.lstM hl
  have il : s1.heap.IsList l its.toArray := ⟨_, ho, rfl, n, rfl⟩
  refine call_reversed_list il ?_
  refine Calls.spliced_nil ?_
  have llt : l < s1.heap.objs.size := Heap.lt_size ho
  have st : RevAt s1.heap.objs.size l its.toArray 0 { s1 with heap := s1.heap.push (revObj l ((its.toArray.size : Int) - 1)) } :=
    ⟨Nat.zero_le _, ⟨_, Heap.get?_push_size _ rfl, rfl, by show Data.fields _ = Data.fields _; simp⟩, il.push _⟩
  refine list_of_rev (I1.ok.hd hc) (Nat.ne_of_lt llt) st (by simp; omega) fun z' acc c' hmv h1 h2 => ?_
  have ea := items_rev h2
  obtain ⟨hp, g, d, tk, os⟩ := z'
  have eg : g = s1.gens := hmv.gens
  have ed : d = s1.drawn := hmv.drawn
  have eo : os = s1.os := hmv.os
  subst eg ed eo
  have kp : ∀ b u, s1.heap.get? b = some u → hp.get? b = some u := fun b u e => by
    have lt := Heap.lt_size e
    refine hmv.heap b u (fun m => ?_) (Heap.get?_push_of_some _ (Heap.get?_push_of_some _ e))
    rcases List.mem_cons.mp m with q | m
    · have l2 : s1.heap.objs.size < (s1.heap.push (revObj l ((its.toArray.size : Int) - 1))).objs.size := by simp [Heap.push]
      rw [q] at lt
      exact Nat.lt_irrefl _ (Nat.lt_trans lt l2)
    · rw [List.mem_singleton.mp m] at lt
      exact Nat.lt_irrefl _ lt
  have hsz : s1.heap.objs.size ≤ (s1.heap.push (revObj l ((its.toArray.size : Int) - 1))).objs.size := by simp [Heap.push]
  refine ⟨.ref _, _, I1.laid (t' := tk) kp hsz (show ObjOk X.prog X.w _ hp _ (.lst xs.reverse) from ⟨by rw [List.length_reverse]; exact hz, acc.toList, c', ?_, h1⟩), rfl, q _ (I1.hok.fresh hsz)⟩
  rw [ea]
  exact vals_rev rv
end
theorem bt_reversed : bootBuiltins "reversed" = some (.type "reversed") := by decide +kernel
end L2

set_option Elab.async false
set_option linter.all false
set_option maxRecDepth 100000
set_option maxHeartbeats 4000000
namespace L2
open PySem PySem.Spec PyProof.Rows
/-! ### sep.join(xs) -/
section
variable {X : Cx}
end
/-! ### sep.join(reversed(xs)) -/
section
variable {pr : Program} {wd : World} {Ar : Around} {z : Shared} {E : Value → Shared → Prop} {it l : Addr} {xs : Array Value}
end
section
variable {X : Cx} {e : Expr} {te : TE} {z : Str} {j : Nat} {p0 p2 pos2 apos cpos : Pos}
end
end L2

set_option Elab.async false
set_option linter.all false
set_option maxRecDepth 100000
set_option maxHeartbeats 4000000
namespace J
open PySem L2
/-! ### words and rows -/
def numT (i : Int) : Str := Str.ofString (toString i)
def Sm.words : Sm Str → List Str
  | .num i => [numT i]
  | .name x => [x]
  | .op o a b => o.w :: (a.words ++ b.words)
def Ts.words : Ts → List Str
  | .less a b => "less" :: (a.words ++ b.words)
  | .same a b => "same" :: (a.words ++ b.words)
  | .not t => "not" :: t.words
  | .both t u => "both" :: (t.words ++ u.words)
def Th.words : Th → List Str
  | .s x => x.words
  | .t x => x.words
/-- depth of blocks -/
def Bk.dp : Bk → Nat
  | .nil => 1
  | .set _ _ r => r.dp
  | .say _ r => r.dp
  | .when _ b c r => max (max (b.dp + 1) (c.dp + 1)) r.dp
  | .whil _ b r => max (b.dp + 1) r.dp
  | .wit _ _ b r => max (b.dp + 1) r.dp
theorem Bk.dp_pos : ∀ b : Bk, 1 ≤ b.dp
  | .nil => Nat.le_refl _
  | .set _ _ r => r.dp_pos
  | .say _ r => r.dp_pos
  | .when _ b c r => by have := r.dp_pos; show 1 ≤ max (max (b.dp + 1) (c.dp + 1)) r.dp; omega
  | .whil _ b r => by have := r.dp_pos; show 1 ≤ max (b.dp + 1) r.dp; omega
  | .wit _ _ b r => by have := r.dp_pos; show 1 ≤ max (b.dp + 1) r.dp; omega
/-- how long words may be, and how many -/
def Fits (w n : Nat) (ws : List Str) : Prop := ws.length ≤ n ∧ ∀ x ∈ ws, x.length ≤ w
theorem Fits.app {w m n : Nat} {a b : List Str} (h : Fits w m a) (g : Fits w n b) : Fits w (m + n) (a ++ b) := by
  refine ⟨by rw [List.length_append]; have := h.1; have := g.1; omega, fun x hx => ?_⟩
  rcases List.mem_append.mp hx with z | z
  · exact h.2 x z
  · exact g.2 x z
theorem Fits.cons {w n : Nat} {x : Str} {a : List Str} (hx : x.length ≤ w) (h : Fits w n a) : Fits w (n + 1) (x :: a) := by
  refine ⟨by rw [List.length_cons]; have := h.1; omega, fun y hy => ?_⟩
  rcases List.mem_cons.mp hy with z | z
  · rw [z]; exact hx
  · exact h.2 y z
/-- a number's figures -/
theorem numT_neg (n : Nat) : numT (-((n : Int) + 1)) = "-" ++ numT ((n : Int) + 1) := by
  show Str.ofString ("-" ++ toString (n + 1)) = Str.ofString "-" ++ Str.ofString (toString (n + 1))
  rw [Str.ofString_eq_toList, Str.ofString_eq_toList, Str.ofString_eq_toList]
  refine Str.ext' ?_
  rw [Str.cps_append]
  simp
theorem numT_len {i : Int} (h : i.natAbs < 10 ^ 40) : (numT i).length ≤ 60 := by
  by_cases h0 : 0 ≤ i
  · have h1 : i < 10 ^ 40 := by omega
    have := PyProof.Rows.toString_length_le h0 (k := 40) (by decide) h1
    show (Str.ofString (toString i)).length ≤ 60
    omega
  · obtain ⟨n, rfl⟩ : ∃ n : Nat, i = -((n : Int) + 1) := ⟨(-i - 1).toNat, by omega⟩
    rw [numT_neg, Str.length_append]
    have h1 : ((n : Int) + 1) < 10 ^ 40 := by omega
    have := PyProof.Rows.toString_length_le (v := (n : Int) + 1) (by omega) (k := 40) (by decide) h1
    have e1 : (Str.ofString "-").length = 1 := by decide
    have : (numT ((n : Int) + 1)).length ≤ 40 := this
    omega
/-! ### texts of a sum or a test fit -/
def Sm.tx : Sm Str → Prop
  | .num i => i.natAbs < 10 ^ 40
  | .name x => x.length ≤ 100
  | .op _ a b => a.tx ∧ b.tx
def Ts.tx : Ts → Prop
  | .less a b => a.tx ∧ b.tx
  | .same a b => a.tx ∧ b.tx
  | .not t => t.tx
  | .both t u => t.tx ∧ u.tx
def Th.tx : Th → Prop
  | .s x => x.tx
  | .t x => x.tx
theorem O3.w_len (o : O3) : o.w.length ≤ 100 := by cases o <;> decide
theorem Sm.words_len : ∀ s : Sm Str, s.words.length + 1 = 2 * s.lv
  | .num _ => rfl
  | .name _ => rfl
  | .op _ a b => by
    have h1 := a.words_len
    have h2 := b.words_len
    show (a.words ++ b.words).length + 1 + 1 = 2 * (a.lv + b.lv)
    rw [List.length_append]
    omega
theorem Sm.fits : ∀ {s : Sm Str}, s.tx → Fits 100 (2 * s.lv) s.words
  | .num i, h => ⟨by show 1 ≤ 2 * 1; decide, fun x hx => by
      have := List.mem_singleton.mp hx
      subst this
      have := numT_len h
      omega⟩
  | .name x, h => ⟨by show 1 ≤ 2 * 1; decide, fun y hy => by
      have := List.mem_singleton.mp hy
      subst this
      exact h⟩
  | .op o a b, h => by
    have h1 := Sm.fits h.1
    have h2 := Sm.fits h.2
    have h3 := (h1.app h2).cons o.w_len
    have l1 := a.lv_pos
    have l2 := b.lv_pos
    -- one word more than the leaves' twice less one each
    refine ⟨?_, h3.2⟩
    have e1 := a.words_len
    have e2 := b.words_len
    show (a.words ++ b.words).length + 1 ≤ 2 * (a.lv + b.lv)
    rw [List.length_append]
    omega
/-! ### the parts of a sum or a test -/
end J
namespace L2
open PySem
end L2

set_option Elab.async false
set_option linter.all false
set_option maxRecDepth 100000
set_option maxHeartbeats 4000000
namespace J
open PySem L2
def Th.fit (th : Th) : Prop := th.tx ∧ th.dp ≤ 20 ∧ Fits 100 190 th.words
def Bk.fit : Bk → Prop
  | .nil => True
  | .set x a r => x.length ≤ 100 ∧ (Th.s a).fit ∧ r.fit
  | .say a r => (Th.s a).fit ∧ r.fit
  | .when t b c r => (Th.t t).fit ∧ b.fit ∧ c.fit ∧ r.fit
  | .whil t b r => (Th.t t).fit ∧ b.fit ∧ r.fit
  | .wit x a b r => x.length ≤ 100 ∧ (Th.s a).fit ∧ b.fit ∧ r.fit
end J

set_option Elab.async false
set_option linter.all false
set_option maxRecDepth 100000
set_option maxHeartbeats 4000000
namespace J
open PySem L2
theorem leaf_ways (salt p1 p2 : Int) (sc : List Str) : (∃ x, leafF salt p1 p2 sc = .name x ∧ (x ∈ sc)) ∨ ∃ i, leafF salt p1 p2 sc = .num i ∧ i.natAbs < 10 ^ 40 := by
  unfold leafF
  by_cases h : drw salt p1 ((sc.length : Int) + 2) < (sc.length : Int)
  · rw [if_pos h]
    have h0 := drw_lo (n := salt) (p := p1) (m := (sc.length : Int) + 2) (by omega)
    have hlt : (drw salt p1 ((sc.length : Int) + 2)).toNat < sc.length := by omega
    refine .inl ⟨_, rfl, ?_⟩
    rw [List.getElem?_eq_getElem hlt]
    exact List.getElem_mem _
  · rw [if_neg h]
    refine .inr ⟨_, rfl, ?_⟩
    unfold leafN
    have h0 := drw_lo (n := salt) (p := p2) (m := 13) (by decide)
    have h1 := drw_hi (n := salt) (p := p2) (m := 13) (by decide)
    have e0 := Int.emod_nonneg (salt * 48271) (show (10 ^ 30 : Int) ≠ 0 by decide)
    have e1 := Int.emod_lt_of_pos (salt * 48271) (show (0 : Int) < 10 ^ 30 by decide)
    split
    · decide
    · split
      · have : (10 : Int) ^ 30 ≤ 10 ^ 39 := by decide
        have : (10 : Nat) ^ 40 = 10 * 10 ^ 39 := by decide
        have c1 : (5 * 10 ^ 29 : Int) ≤ 10 ^ 39 := by decide
        have c2 : (10 : Int) ^ 39 = ((10 ^ 39 : Nat) : Int) := by decide
        have c3 : 0 < (10 : Nat) ^ 39 := by decide
        omega
      · exact Nat.lt_of_le_of_lt (show (drw salt p2 13 - 3).natAbs ≤ 10 by omega) (by decide)
/-- small leaves: one word, depth one -/
theorem leaf_small (salt p1 p2 : Int) (sc : List Str) : (leafF salt p1 p2 sc).dp = 1 ∧ (leafF salt p1 p2 sc).lv = 1 := by
  rcases leaf_ways salt p1 p2 sc with ⟨x, e, _⟩ | ⟨i, e, _⟩ <;> rw [e] <;> exact ⟨rfl, rfl⟩
theorem leaf_tx {salt p1 p2 : Int} {sc : List Str} (h : ∀ x ∈ sc, x.length ≤ 100) : (leafF salt p1 p2 sc).tx := by
  rcases leaf_ways salt p1 p2 sc with ⟨x, e, hx⟩ | ⟨i, e, hi⟩ <;> rw [e]
  · exact h x hx
  · exact hi
theorem turned_small {o : Sm Str} {l : Int} (ho : o.dp = 1 ∧ o.lv = 1) : ∀ k : Nat, (turned o l k).dp ≤ k + 1 ∧ (turned o l k).lv = k + 1
  | 0 => ⟨by show o.dp ≤ 1; omega, ho.2⟩
  | k + 1 => by
    obtain ⟨h1, h2⟩ := turned_small (l := l) ho k
    refine ⟨?_, ?_⟩
    · show max (turned o l k).dp 1 + 1 ≤ _; omega
    · show (turned o l k).lv + 1 = _; omega
theorem turned_tx {o : Sm Str} {l : Int} (ho : o.tx) (hl : l.natAbs < 10 ^ 40) : ∀ k : Nat, (turned o l k).tx
  | 0 => ho
  | k + 1 => ⟨turned_tx ho hl k, hl⟩
theorem small40 {i : Int} (h : i.natAbs ≤ 100) : i.natAbs < 10 ^ 40 := Nat.lt_of_le_of_lt h (by decide)
theorem sum_small (salt : Int) (sc : List Str) : (sumF salt sc).dp ≤ 7 ∧ (sumF salt sc).lv ≤ 7 := by
  have a := leaf_small salt 1009 1013 sc
  have b := leaf_small salt 1019 1021 sc
  have l0 := drw_lo (n := salt) (p := 1061) (show (0 : Int) < 4 by decide)
  have l4 := drw_hi (n := salt) (p := 1061) (show (0 : Int) < 4 by decide)
  have t := turned_small (l := drw salt 1061 4) a (drw salt 1061 4 + 3).toNat
  unfold sumF
  dsimp only
  split
  · omega
  · split
    · simp only [Sm.dp, Sm.lv]; omega
    · split
      · simp only [Sm.dp, Sm.lv]; omega
      · split
        · simp only [Sm.dp, Sm.lv]; omega
        · split
          · omega
          · split
            · simp only [Sm.dp, Sm.lv]; omega
            · simp only [Sm.dp, Sm.lv]; omega
theorem sum_tx {salt : Int} {sc : List Str} (h : ∀ x ∈ sc, x.length ≤ 100) : (sumF salt sc).tx := by
  have a := leaf_tx (salt := salt) (p1 := 1009) (p2 := 1013) h
  have b := leaf_tx (salt := salt) (p1 := 1019) (p2 := 1021) h
  have l0 := drw_lo (n := salt) (p := 1061) (show (0 : Int) < 4 by decide)
  have l4 := drw_hi (n := salt) (p := 1061) (show (0 : Int) < 4 by decide)
  have c := small40 (i := drw salt 1061 4) (by omega)
  have c1 := small40 (i := drw salt 1061 4 - 1) (by omega)
  unfold sumF
  dsimp only
  split
  · exact a
  · split
    · exact ⟨a, b⟩
    · split
      · exact ⟨a, b⟩
      · split
        · exact ⟨a, c1⟩
        · split
          · exact turned_tx a c _
          · split
            · exact ⟨⟨⟨c, b, a⟩, b⟩, a, c⟩
            · exact ⟨⟨a, b⟩, c, b⟩
theorem sum_fit {salt : Int} {sc : List Str} (h : ∀ x ∈ sc, x.length ≤ 100) : (Th.s (sumF salt sc)).fit := by
  have a := sum_small salt sc
  have f := Sm.fits (sum_tx (salt := salt) h)
  exact ⟨sum_tx h, by show (sumF salt sc).dp ≤ 20; omega, Nat.le_trans f.1 (by omega), f.2⟩
/-- how many words -/
def Ts.wn : Ts → Nat
  | .less a b => 2 * a.lv + 2 * b.lv + 1
  | .same a b => 2 * a.lv + 2 * b.lv + 1
  | .not t => t.wn + 1
  | .both t u => t.wn + u.wn + 1
theorem Ts.fits : ∀ {t : Ts}, t.tx → Fits 100 t.wn t.words
  | .less a b, h => ((Sm.fits h.1).app (Sm.fits h.2)).cons (by decide)
  | .same a b, h => ((Sm.fits h.1).app (Sm.fits h.2)).cons (by decide)
  | .not t, h => (Ts.fits (t := t) h).cons (by decide)
  | .both t u, h => ((Ts.fits h.1).app (Ts.fits h.2)).cons (by decide)
theorem test_small (salt : Int) (sc : List Str) : (testF salt sc).dp ≤ 12 ∧ (testF salt sc).wn ≤ 190 := by
  have a := leaf_small salt 1009 1013 sc
  have b := leaf_small salt 1019 1021 sc
  have s := sum_small salt sc
  have one : (if drw salt 1097 3 = 1 then sumF salt sc else leafF salt 1009 1013 sc).dp ≤ 7 ∧ (if drw salt 1097 3 = 1 then sumF salt sc else leafF salt 1009 1013 sc).lv ≤ 7 := by
    split
    · exact s
    · omega
  unfold testF
  dsimp only
  generalize (if drw salt 1097 3 = 1 then sumF salt sc else leafF salt 1009 1013 sc) = o at one
  split
  · simp only [Ts.dp, Ts.wn, Sm.dp, Sm.lv]; omega
  · split
    · simp only [Ts.dp, Ts.wn, Sm.dp, Sm.lv]; omega
    · split
      · simp only [Ts.dp, Ts.wn, Sm.dp, Sm.lv]; omega
      · split
        · simp only [Ts.dp, Ts.wn, Sm.dp, Sm.lv]; omega
        · simp only [Ts.dp, Ts.wn, Sm.dp, Sm.lv]; omega
theorem test_tx {salt : Int} {sc : List Str} (h : ∀ x ∈ sc, x.length ≤ 100) : (testF salt sc).tx := by
  have a := leaf_tx (salt := salt) (p1 := 1009) (p2 := 1013) h
  have b := leaf_tx (salt := salt) (p1 := 1019) (p2 := 1021) h
  have s := sum_tx (salt := salt) h
  have l0 := drw_lo (n := salt) (p := 1069) (show (0 : Int) < 9 by decide)
  have l4 := drw_hi (n := salt) (p := 1069) (show (0 : Int) < 9 by decide)
  have c := small40 (i := drw salt 1069 9 - 1) (by omega)
  have d := small40 (i := -6) (by decide)
  have one : (if drw salt 1097 3 = 1 then sumF salt sc else leafF salt 1009 1013 sc).tx := by
    split
    · exact s
    · exact a
  unfold testF
  dsimp only
  generalize (if drw salt 1097 3 = 1 then sumF salt sc else leafF salt 1009 1013 sc) = o at one
  split
  · exact ⟨one, b⟩
  · split
    · exact ⟨one, c⟩
    · split
      · exact ⟨⟨⟨one, c⟩, one, b⟩, ⟨one, b⟩, one, c⟩
      · split
        · exact ⟨⟨one, c⟩, d, one⟩
        · exact ⟨one, c⟩
theorem test_fit {salt : Int} {sc : List Str} (h : ∀ x ∈ sc, x.length ≤ 100) : (Th.t (testF salt sc)).fit := by
  have a := test_small salt sc
  have f := Ts.fits (test_tx (salt := salt) h)
  exact ⟨test_tx h, by show (testF salt sc).dp ≤ 20; omega, Nat.le_trans f.1 (by omega), f.2⟩
/-! ### all that is begun fits -/
def Hd.fit : Hd → Prop
  | .whil t => (Th.t t).fit
  | .when t => (Th.t t).fit
  | .els t b => (Th.t t).fit ∧ b.fit
  | .wit x a => x.length ≤ 100 ∧ (Th.s a).fit
theorem Bk.fit_app : ∀ {b c : Bk}, b.fit → c.fit → (b.app c).fit
  | .nil, _, _, h => h
  | .set _ _ _, _, h, g => ⟨h.1, h.2.1, Bk.fit_app h.2.2 g⟩
  | .say _ _, _, h, g => ⟨h.1, Bk.fit_app h.2 g⟩
  | .when _ _ _ _, _, h, g => ⟨h.1, h.2.1, h.2.2.1, Bk.fit_app h.2.2.2 g⟩
  | .whil _ _ _, _, h, g => ⟨h.1, h.2.1, Bk.fit_app h.2.2 g⟩
  | .wit _ _ _ _, _, h, g => ⟨h.1, h.2.1, h.2.2.1, Bk.fit_app h.2.2.2 g⟩
theorem end_fit {salt : Int} {t : Ts} (h : (Th.t t).fit) : (endF salt t).fit := by
  unfold endF
  split
  · rename_i x s2
    split
    · have hx : x.length ≤ 100 := (show (Ts.less (.name x) s2).tx from h.1).1
      have ht : (Sm.op .add (.name x) (.num 1)).tx := ⟨hx, small40 (i := 1) (by decide)⟩
      have hs : (Th.s (Sm.op .add (.name x) (.num 1))).fit := by
        have f := Sm.fits ht
        exact ⟨ht, by show (2 : Nat) ≤ 20; decide, Nat.le_trans f.1 (by show 2 * 2 ≤ 190; decide), f.2⟩
      exact ⟨hx, hs, trivial⟩
    · trivial
  · trivial
structure Gs.Fit (g : Gs) : Prop where
  bs : ∀ b ∈ g.bs, b.fit
  hs : ∀ h ∈ g.hs, h.fit
  sc : ∀ x ∈ g.sc, x.length ≤ 100
theorem all2 {α : Type} {P : α → Prop} {x : α} {l : List α} (h : ∀ y ∈ x :: l, P y) : P x ∧ ∀ y ∈ l, P y := ⟨h x (by simp), fun y hy => h y (by simp [hy])⟩
theorem cons2 {α : Type} {P : α → Prop} {x : α} {l : List α} (h : P x) (g : ∀ y ∈ l, P y) : ∀ y ∈ x :: l, P y := fun y hy => by
  rcases List.mem_cons.mp hy with rfl | hy
  · exact h
  · exact g y hy
theorem closeF_fit {salt : Int} {g : Gs} (h : g.Fit) : (closeF salt g).Fit := by
  obtain ⟨bs, hs, sc⟩ := g
  obtain ⟨h1, h2, h3⟩ := h
  unfold closeF
  split
  · rename_i t hs' b bs' e1 e2
    simp only at e1 e2
    subst e1 e2
    exact ⟨cons2 trivial (all2 h1).2, cons2 ⟨(all2 h2).1, (all2 h1).1⟩ (all2 h2).2, h3⟩
  · rename_i t b0 hs' b b1 bs' e1 e2
    simp only at e1 e2
    subst e1 e2
    have q := all2 (all2 h1).2
    exact ⟨cons2 (Bk.fit_app q.1 ⟨(all2 h2).1.1, (all2 h2).1.2, (all2 h1).1, trivial⟩) q.2, (all2 h2).2, h3⟩
  · rename_i t hs' b b1 bs' e1 e2
    simp only at e1 e2
    subst e1 e2
    have q := all2 (all2 h1).2
    exact ⟨cons2 (Bk.fit_app q.1 ⟨(all2 h2).1, Bk.fit_app (all2 h1).1 (end_fit (all2 h2).1), trivial⟩) q.2, (all2 h2).2, h3⟩
  · rename_i x a hs' b b1 bs' e1 e2
    simp only at e1 e2
    subst e1 e2
    have q := all2 (all2 h1).2
    exact ⟨cons2 (Bk.fit_app q.1 ⟨(all2 h2).1.1, (all2 h2).1.2, (all2 h1).1, trivial⟩) q.2, (all2 h2).2, fun y hy => h3 y (List.dropLast_subset _ hy)⟩
  · exact ⟨h1, h2, h3⟩
theorem addF_fit {o : Bk} {g : Gs} (h : g.Fit) (ho : o.fit) : (addF o g).Fit := by
  obtain ⟨bs, hs, sc⟩ := g
  obtain ⟨h1, h2, h3⟩ := h
  unfold addF
  split
  · rename_i b bs' e
    simp only at e
    subst e
    exact ⟨cons2 (Bk.fit_app (all2 h1).1 ho) (all2 h1).2, h2, h3⟩
  · exact ⟨h1, h2, h3⟩
theorem getD_len {l : List Str} {i : Nat} (h : ∀ x ∈ l, x.length ≤ 100) : ((l[i]?).getD "").length ≤ 100 := by
  cases e : l[i]? with
  | none => decide
  | some x => exact h x (List.mem_of_getElem? e)
theorem jar_len {salt : Int} {sc : List Str} (h : ∀ x ∈ sc, x.length ≤ 100) : (jarF salt sc).length ≤ 100 := by
  unfold jarF
  refine getD_len fun x hx => ?_
  unfold jarsF at hx
  rcases List.mem_append.mp hx with hx | hx
  · exact h x (List.take_subset _ _ hx)
  · rcases List.mem_cons.mp hx with rfl | hx
    · decide
    · rw [List.mem_singleton.mp hx]; decide
theorem stepF_fit {more : List Str} {k : Nat} {cell : Int} {g : Gs} (h : g.Fit) (hm : ∀ x ∈ more, x.length ≤ 100) : (stepF more k cell g).Fit := by
  have hn : ∀ x ∈ g.sc ++ more, x.length ≤ 100 := fun x hx => by
    rcases List.mem_append.mp hx with hx | hx
    · exact h.sc x hx
    · exact hm x hx
  unfold stepF
  dsimp only
  split
  · refine ⟨cons2 trivial h.bs, cons2 ?_ h.hs, ?_⟩
    · unfold headF
      split
      · exact test_fit hn
      · split
        · exact test_fit hn
        · exact ⟨jar_len hn, sum_fit hn⟩
    · show ∀ x ∈ (if cell % 9 = 2 then g.sc ++ [jarF (cell + 7919 * k) (g.sc ++ more)] else g.sc), x.length ≤ 100
      split
      · intro x hx
        rcases List.mem_append.mp hx with hx | hx
        · exact h.sc x hx
        · rw [List.mem_singleton.mp hx]; exact jar_len hn
      · exact h.sc
  · split
    · exact closeF_fit h
    · split
      · exact addF_fit h ⟨getD_len hn, sum_fit hn, trivial⟩
      · exact addF_fit h ⟨sum_fit hn, trivial⟩
theorem foldF_fit {more : List Str} (hm : ∀ x ∈ more, x.length ≤ 100) : ∀ (cs : List Int) {k : Nat} {g : Gs}, g.Fit → (foldF more k cs g).Fit
  | [], _, _, h => h
  | c :: cs, k, g, h => foldF_fit hm cs (stepF_fit (k := k) (cell := c) h hm)
theorem closes_fit : ∀ (n : Nat) {g : Gs}, g.Fit → (closes n g).Fit
  | 0, _, h => h
  | n + 1, g, h => closes_fit n (closeF_fit h)
theorem grown_fit {cells : List Int} {names more : List Str} (hn : ∀ x ∈ names, x.length ≤ 100) (hm : ∀ x ∈ more, x.length ≤ 100) : (grownF cells names more).fit := by
  have h := closes_fit 400 (foldF_fit hm cells (k := 0) (g := ⟨[.nil], [], names⟩) ⟨cons2 trivial (by simp), by simp, hn⟩)
  unfold grownF
  split
  · rename_i b bs e
    exact h.bs b (by rw [e]; simp)
  · trivial
/-! ### how deep and how many -/
def dpOk (K : Nat) : List Bk → List Hd → Prop
  | [], _ => True
  | b :: bs, hs => b.dp + hs.length ≤ K + 1 ∧ (match hs with | .els _ b0 :: _ => b0.dp + hs.length ≤ K + 1 | _ => True) ∧ dpOk K bs hs.tail
theorem Bk.dp_app : ∀ b c : Bk, (b.app c).dp = max b.dp c.dp
  | .nil, c => by have := c.dp_pos; show c.dp = max 1 c.dp; omega
  | .set _ _ r, c => by show (r.app c).dp = max r.dp c.dp; exact Bk.dp_app r c
  | .say _ r, c => by show (r.app c).dp = max r.dp c.dp; exact Bk.dp_app r c
  | .when _ b d r, c => by show max (max (b.dp + 1) (d.dp + 1)) (r.app c).dp = max (max (max (b.dp + 1) (d.dp + 1)) r.dp) c.dp; rw [Bk.dp_app r c]; omega
  | .whil _ b r, c => by show max (b.dp + 1) (r.app c).dp = max (max (b.dp + 1) r.dp) c.dp; rw [Bk.dp_app r c]; omega
  | .wit _ _ b r, c => by show max (b.dp + 1) (r.app c).dp = max (max (b.dp + 1) r.dp) c.dp; rw [Bk.dp_app r c]; omega
theorem endF_dp (salt : Int) (t : Ts) : (endF salt t).dp = 1 := by
  unfold endF
  split
  · split <;> rfl
  · rfl
theorem dpOk_mono {K K' : Nat} (h : K ≤ K') : ∀ {bs : List Bk} {hs : List Hd}, dpOk K bs hs → dpOk K' bs hs
  | [], _, _ => trivial
  | b :: bs, hs, ⟨h1, h2, h3⟩ => by
    refine ⟨by omega, ?_, dpOk_mono h h3⟩
    split
    · have h2' := h2
      simp only at h2'
      omega
    · trivial
theorem closeF_dp {salt : Int} {g : Gs} {K : Nat} (h : dpOk K g.bs g.hs) : dpOk K (closeF salt g).bs (closeF salt g).hs := by
  obtain ⟨bs, hs, sc⟩ := g
  unfold closeF
  split
  · rename_i t hs' b bs' e1 e2
    simp only at e1 e2
    subst e1 e2
    obtain ⟨h1, h2, h3⟩ := h
    simp only [List.length_cons] at h1
    have := b.dp_pos
    exact ⟨by show 1 + (hs'.length + 1) ≤ K + 1; omega, by show b.dp + (hs'.length + 1) ≤ K + 1; omega, h3⟩
  · rename_i t b0 hs' b b1 bs' e1 e2
    simp only at e1 e2
    subst e1 e2
    obtain ⟨h1, h2, h3, h4, h5⟩ := h
    simp only [List.length_cons, List.tail_cons] at h1 h2 h3 h4 h5
    refine ⟨?_, h4, h5⟩
    show (b1.app (.when t b0 b .nil)).dp + hs'.length ≤ K + 1
    rw [Bk.dp_app]
    show max b1.dp (max (max (b0.dp + 1) (b.dp + 1)) 1) + hs'.length ≤ K + 1
    omega
  · rename_i t hs' b b1 bs' e1 e2
    simp only at e1 e2
    subst e1 e2
    obtain ⟨h1, h2, h3, h4, h5⟩ := h
    simp only [List.length_cons, List.tail_cons] at h1 h2 h3 h4 h5
    refine ⟨?_, h4, h5⟩
    show (b1.app (.whil t (b.app (endF salt t)) .nil)).dp + hs'.length ≤ K + 1
    rw [Bk.dp_app]
    show max b1.dp (max ((b.app (endF salt t)).dp + 1) 1) + hs'.length ≤ K + 1
    rw [Bk.dp_app, endF_dp]
    have := b.dp_pos
    omega
  · rename_i x a hs' b b1 bs' e1 e2
    simp only at e1 e2
    subst e1 e2
    obtain ⟨h1, h2, h3, h4, h5⟩ := h
    simp only [List.length_cons, List.tail_cons] at h1 h2 h3 h4 h5
    refine ⟨?_, h4, h5⟩
    show (b1.app (.wit x a b .nil)).dp + hs'.length ≤ K + 1
    rw [Bk.dp_app]
    show max b1.dp (max (b.dp + 1) 1) + hs'.length ≤ K + 1
    omega
  · exact h
theorem addF_dp {o : Bk} {g : Gs} {K : Nat} (h : dpOk K g.bs g.hs) (ho : o.dp = 1) : dpOk K (addF o g).bs (addF o g).hs := by
  obtain ⟨bs, hs, sc⟩ := g
  unfold addF
  split
  · rename_i b bs' e
    simp only at e
    subst e
    obtain ⟨h1, h2, h3⟩ := h
    refine ⟨?_, h2, h3⟩
    show (b.app o).dp + hs.length ≤ K + 1
    rw [Bk.dp_app, ho]
    have := b.dp_pos
    simp only at h1
    omega
  · exact h
theorem stepF_dp {more : List Str} {k : Nat} {cell : Int} {g : Gs} {K : Nat} (h : dpOk K g.bs g.hs) (hK : g.hs.length ≤ K) : dpOk (K + 1) (stepF more k cell g).bs (stepF more k cell g).hs := by
  unfold stepF
  dsimp only
  split
  · refine ⟨by show 1 + (g.hs.length + 1) ≤ K + 1 + 1; omega, ?_, dpOk_mono (Nat.le_succ _) h⟩
    unfold headF
    split
    · rename_i e; split at e
      · cases e
      · split at e <;> cases e
    · trivial
  · split
    · exact dpOk_mono (Nat.le_succ _) (closeF_dp h)
    · split
      · exact dpOk_mono (Nat.le_succ _) (addF_dp h rfl)
      · exact dpOk_mono (Nat.le_succ _) (addF_dp h rfl)
theorem stepF_hs {more : List Str} {k : Nat} {cell : Int} {g : Gs} : (stepF more k cell g).hs.length ≤ g.hs.length + 1 := by
  have hc : ∀ s, (closeF s g).hs.length ≤ g.hs.length + 1 := fun s => by
    obtain ⟨bs, hs, sc⟩ := g
    unfold closeF
    split
    · rename_i t hs' b bs' e1 e2; simp only at e1 e2; subst e1 e2; simp only [List.length_cons]; omega
    · rename_i t b0 hs' b b1 bs' e1 e2; simp only at e1 e2; subst e1 e2; simp only [List.length_cons]; omega
    · rename_i t hs' b b1 bs' e1 e2; simp only at e1 e2; subst e1 e2; simp only [List.length_cons]; omega
    · rename_i x a hs' b b1 bs' e1 e2; simp only at e1 e2; subst e1 e2; simp only [List.length_cons]; omega
    · exact Nat.le_succ _
  have ha : ∀ o, (addF o g).hs.length ≤ g.hs.length + 1 := fun o => by
    unfold addF
    split <;> exact Nat.le_succ _
  unfold stepF
  dsimp only
  split
  · exact Nat.le_refl _
  · split
    · exact hc _
    · split
      · exact ha _
      · exact ha _
theorem foldF_dp {more : List Str} : ∀ (cs : List Int) {k K : Nat} {g : Gs}, dpOk K g.bs g.hs → g.hs.length ≤ K → dpOk (K + cs.length) (foldF more k cs g).bs (foldF more k cs g).hs
  | [], _, _, _, h, _ => h
  | c :: cs, k, K, g, h, hK => by
    have := foldF_dp (more := more) cs (k := k + 1) (stepF_dp (more := more) (k := k) (cell := c) h hK) (Nat.le_trans stepF_hs (by omega))
    rw [List.length_cons, show K + (cs.length + 1) = K + 1 + cs.length by omega]
    exact this
theorem closes_dp : ∀ (n : Nat) {K : Nat} {g : Gs}, dpOk K g.bs g.hs → dpOk K (closes n g).bs (closes n g).hs
  | 0, _, _, h => h
  | n + 1, K, g, h => closes_dp n (closeF_dp h)
theorem grown_dp {cells : List Int} {names more : List Str} : (grownF cells names more).dp ≤ cells.length + 1 := by
  have h := closes_dp 400 (foldF_dp (more := more) cells (k := 0) (K := 0) (g := ⟨[.nil], [], names⟩) ⟨by show 1 + 0 ≤ 0 + 1; omega, trivial, trivial⟩ (Nat.le_refl _))
  rw [Nat.zero_add] at h
  unfold grownF
  split
  · rename_i b bs e
    rw [e] at h
    have := h.1
    omega
  · exact Nat.succ_le_succ (Nat.zero_le _)
theorem closes_ok : ∀ (n : Nat) {k : Nat} {g : Gs}, g.Ok k → (closes n g).Ok k
  | 0, _, _, h => h
  | n + 1, k, g, h => by
    by_cases hh : g.hs = []
    · rw [closes_nil (n + 1) g hh]; exact h
    · exact closes_ok n (closeF_ok h hh).1
theorem grown_n {cells : List Int} {names more : List Str} (hn : names.length ≤ 9) : (grownF cells names more).n ≤ 4 * cells.length := by
  have h := closes_ok 400 (foldF_ok (more := more) cells (k := 0) (g := ⟨[.nil], [], names⟩) ⟨rfl, by simp [Gs.wt], by simp [Gs.n, Gs.wt, Bk.n], by show names.length ≤ 9 + 0; omega, by simp [Gs.w]⟩)
  rw [Nat.zero_add] at h
  have hn := h.n
  unfold grownF
  split
  · rename_i b bs e
    simp only [Gs.n] at hn
    rw [e, List.map_cons, List.sum_cons] at hn
    omega
  · exact Nat.zero_le _
end J

set_option Elab.async false
set_option linter.all false
set_option maxRecDepth 100000
set_option maxHeartbeats 4000000
namespace J
open PySem L2
/-! ### blanks ahead -/
/-! ### the rows of what is begun -/
/-! ### things that have words -/
end J
namespace J
open PySem L2
end J
namespace J
open PySem L2
end J

set_option Elab.async false
set_option linter.all false
set_option maxRecDepth 100000
set_option maxHeartbeats 4000000
namespace J
open PySem L2
/-- a def of a class, as a caller wants it -/
structure MDef (K : PySem.W.Frag) (m q : Str) (st : Stmt) (ps : List Str) (f : Addr) (fd : FuncData) : Prop where
  F : Fun K m q st f fd
  b : Binds K fd ps []
/-! ### attributes by name -/
/-- these attributes and no others -/
structure Has (fs m : List (Str × V)) : Prop where
  at_ : ∀ f, fs.lookup f = m.lookup f
  len : fs.length ≤ 50
theorem Has.nil : Has [] [] := ⟨fun _ => rfl, by decide⟩
theorem keysL {f : Str} : ∀ {fs : List (Str × V)} {v w : V}, fs.lookup f = some w → (putF f v fs).length = fs.length
  | [], _, _, h => by simp at h
  | (k, x) :: r, v, w, h => by
    rw [show putF f v ((k, x) :: r) = (if k = f then (k, v) :: r else (k, x) :: putF f v r) from rfl]
    by_cases e : k = f
    · rw [if_pos e]; rfl
    · rw [if_neg e, List.length_cons, List.length_cons]
      have h' : r.lookup f = some w := by
        rw [List.lookup_cons] at h
        have : (f == k) = false := by
          rw [beq_eq_false_iff_ne]; exact fun z => e z.symm
        rw [this] at h
        exact h
      rw [keysL h']
theorem Has.put {fs m m' : List (Str × V)} {f : Str} {v w : V} (h : Has fs m) (hw : m.lookup f = some w) (hm : ∀ g, m'.lookup g = if g = f then some v else m.lookup g) : Has (putF f v fs) m' :=
  ⟨fun g => by rw [lookup_putF, hm, h.at_], by rw [keysL ((h.at_ f).trans hw)]; exact h.len⟩
theorem Has.new {fs m m' : List (Str × V)} {f : Str} {v : V} (h : Has fs m) (hl : fs.length ≤ 49) (hm : ∀ g, m'.lookup g = if g = f then some v else m.lookup g) : Has (putF f v fs) m' ∧ (putF f v fs).length ≤ fs.length + 1 :=
  ⟨⟨fun g => by rw [lookup_putF, hm, h.at_], by have := length_putF f v fs; omega⟩, length_putF f v fs⟩
/-! ### the machine's object -/
theorem lk_cons (f g : Str) (v : V) (r : List (Str × V)) : List.lookup f ((g, v) :: r) = if f = g then some v else List.lookup f r := by
  rw [List.lookup_cons]
  by_cases h : f = g
  · subst h; simp
  · have : (f == g) = false := by rw [beq_eq_false_iff_ne]; exact h
    rw [this, if_neg h]
/-! ### a run of the machine, in n cards, to its end -/
end J
namespace J
open PySem L2
theorem lk_snoc {m : List (Str × V)} {f : Str} {v : V} (h : m.lookup f = none) (g : Str) : (m ++ [(f, v)]).lookup g = if g = f then some v else m.lookup g := by
  induction m with
  | nil => rw [List.nil_append, lk_cons]
  | cons x m ih =>
    obtain ⟨k, y⟩ := x
    rw [lk_cons] at h
    rw [List.cons_append, lk_cons, lk_cons]
    by_cases e : f = k
    · rw [if_pos e] at h; cases h
    · rw [if_neg e] at h
      by_cases e1 : g = k
      · rw [if_pos e1, if_pos e1]
        rw [if_neg]
        intro z
        exact e (z.symm.trans e1)
      · rw [if_neg e1, if_neg e1]
        exact ih h
theorem Has.snoc {fs m : List (Str × V)} {f : Str} {v : V} (h : Has fs m) (hl : fs.length ≤ 49) (hn : m.lookup f = none) : Has (putF f v fs) (m ++ [(f, v)]) ∧ (putF f v fs).length ≤ fs.length + 1 := h.new hl (lk_snoc hn)
end J

set_option Elab.async false
set_option linter.all false
set_option maxRecDepth 100000
set_option maxHeartbeats 4000000
namespace J
open PySem L2
/-! ### orders, one by one -/
inductive Od where
  | set (x : Str) (a : Sm Str)
  | say (a : Sm Str)
  | when (t : Ts) (b c : Bk)
  | whil (t : Ts) (b : Bk)
  | wit (x : Str) (a : Sm Str) (b : Bk)
def Bk.ods : Bk → List Od
  | .nil => []
  | .set x a r => .set x a :: r.ods
  | .say a r => .say a :: r.ods
  | .when t b c r => .when t b c :: r.ods
  | .whil t b r => .whil t b :: r.ods
  | .wit x a b r => .wit x a b :: r.ods
/-! ### the cards of a block -/
def whenC (t b c : List Cd) : List Cd := t ++ [.fork ((b.length : Int) + 1)] ++ b ++ [.skip (c.length : Int)] ++ c
def whilC (t b : List Cd) : List Cd := t ++ [.fork ((b.length : Int) + 1)] ++ b ++ [.back ((t.length : Int) + 1 + (b.length : Int))]
def ixC (ns : List Str) (x : Str) : Int := (((lastIx ns x).getD 0 : Nat) : Int)
def Bk.cards : List Str → Bk → List Cd
  | _, .nil => []
  | ns, .set x a r => .burn :: (a.cards ns ++ [.store (ixC ns x)] ++ r.cards ns)
  | ns, .say a r => .burn :: (a.cards ns ++ [.say] ++ r.cards ns)
  | ns, .when t b c r => .burn :: (whenC (t.cards ns) (b.cards ns) (c.cards ns) ++ r.cards ns)
  | ns, .whil t b r => .burn :: (whilC (t.cards ns) (b.cards ns) ++ r.cards ns)
  | ns, .wit x a b r => .burn :: (a.cards ns ++ b.cards (ns ++ [x]) ++ [.drop] ++ r.cards ns)
def Od.cards (ns : List Str) : Od → List Cd
  | .set x a => a.cards ns ++ [.store (ixC ns x)]
  | .say a => a.cards ns ++ [.say]
  | .when t b c => whenC (t.cards ns) (b.cards ns) (c.cards ns)
  | .whil t b => whilC (t.cards ns) (b.cards ns)
  | .wit x a b => a.cards ns ++ b.cards (ns ++ [x]) ++ [.drop]
/-! ### a walk by single orders -/
inductive Wi where
  | o (x : Od)
  | gone
structure WFin where
  word : Bool
  told : List Int
  pots : List Int
  left : Nat
abbrev wis (b : Bk) : List Wi := b.ods.map Wi.o
inductive Walk : Nat → List Wi → List Str → List Int → List Int → Nat → WFin → Prop where
  | done {ns : List Str} {ps s : List Int} {l : Nat} : Walk 0 [] ns ps s l ⟨true, s, ps, l⟩
  | dry {x : Od} {r : List Wi} {ns : List Str} {ps s : List Int} : Walk 0 (.o x :: r) ns ps s 0 ⟨false, s, ps, 0⟩
  | gone {m : Nat} {r : List Wi} {ns : List Str} {x : Str} {ps : List Int} {i : Int} {s : List Int} {l : Nat} {f : WFin} : Walk m r ns ps s l f → Walk (m + 1) (.gone :: r) (ns ++ [x]) (ps ++ [i]) s l f
  | set {m : Nat} {x : Str} {a : Sm Str} {j : Nat} {r : List Wi} {ns : List Str} {ps s : List Int} {l : Nat} {f : WFin} : lastIx ns x = some j → Walk m r ns (ps.set j (a.val ns ps)) s l f → Walk (m + 1) (.o (.set x a) :: r) ns ps s (l + 1) f
  | say {m : Nat} {a : Sm Str} {r : List Wi} {ns : List Str} {ps s : List Int} {l : Nat} {f : WFin} : Walk m r ns ps (s ++ [a.val ns ps]) l f → Walk (m + 1) (.o (.say a) :: r) ns ps s (l + 1) f
  | when1 {m : Nat} {t : Ts} {b c : Bk} {r : List Wi} {ns : List Str} {ps s : List Int} {l : Nat} {f : WFin} : t.val ns ps = true → Walk m (wis b ++ r) ns ps s l f → Walk (m + 1) (.o (.when t b c) :: r) ns ps s (l + 1) f
  | when0 {m : Nat} {t : Ts} {b c : Bk} {r : List Wi} {ns : List Str} {ps s : List Int} {l : Nat} {f : WFin} : t.val ns ps = false → Walk m (wis c ++ r) ns ps s l f → Walk (m + 1) (.o (.when t b c) :: r) ns ps s (l + 1) f
  | whil1 {m : Nat} {t : Ts} {b : Bk} {r : List Wi} {ns : List Str} {ps s : List Int} {l : Nat} {f : WFin} : t.val ns ps = true → Walk m (wis b ++ .o (.whil t b) :: r) ns ps s l f → Walk (m + 1) (.o (.whil t b) :: r) ns ps s (l + 1) f
  | whil0 {m : Nat} {t : Ts} {b : Bk} {r : List Wi} {ns : List Str} {ps s : List Int} {l : Nat} {f : WFin} : t.val ns ps = false → Walk m r ns ps s l f → Walk (m + 1) (.o (.whil t b) :: r) ns ps s (l + 1) f
  | wit {m : Nat} {x : Str} {a : Sm Str} {b : Bk} {r : List Wi} {ns : List Str} {ps s : List Int} {l : Nat} {f : WFin} : Walk m (wis b ++ .gone :: r) (ns ++ [x]) (ps ++ [a.val ns ps]) s l f → Walk (m + 1) (.o (.wit x a b) :: r) ns ps s (l + 1) f
/-! ### what is in scope, and how its products are -/
def Sm.tiny : Sm Str → Prop
  | .num i => i.natAbs ≤ 100
  | _ => False
/-- its names are of the row, each product has a small number as a factor -/
def Sm.lin (ns : List Str) : Sm Str → Prop
  | .num _ => True
  | .name x => x ∈ ns
  | .op o a b => a.lin ns ∧ b.lin ns ∧ (o = .mul → a.tiny ∨ b.tiny)
def Ts.lin (ns : List Str) : Ts → Prop
  | .less a b => a.lin ns ∧ b.lin ns ∧ a.dp ≤ 20 ∧ b.dp ≤ 20
  | .same a b => a.lin ns ∧ b.lin ns ∧ a.dp ≤ 20 ∧ b.dp ≤ 20
  | .not t => t.lin ns
  | .both t u => t.lin ns ∧ u.lin ns
def Sm.fin (ns : List Str) (a : Sm Str) : Prop := a.lin ns ∧ a.dp ≤ 20 ∧ a.lv ≤ 20
def Ts.fin (ns : List Str) (t : Ts) : Prop := t.lin ns ∧ t.dp ≤ 20 ∧ t.wn ≤ 200
def Bk.lin : List Str → Bk → Prop
  | _, .nil => True
  | ns, .set x a r => x ∈ ns ∧ a.fin ns ∧ r.lin ns
  | ns, .say a r => a.fin ns ∧ r.lin ns
  | ns, .when t b c r => t.fin ns ∧ b.lin ns ∧ c.lin ns ∧ r.lin ns
  | ns, .whil t b r => t.fin ns ∧ b.lin ns ∧ r.lin ns
  | ns, .wit x a b r => a.fin ns ∧ ns.length < 500 ∧ b.lin (ns ++ [x]) ∧ r.lin ns
def Od.lin (ns : List Str) : Od → Prop
  | .set x a => x ∈ ns ∧ a.fin ns
  | .say a => a.fin ns
  | .when t b c => t.fin ns ∧ b.lin ns ∧ c.lin ns
  | .whil t b => t.fin ns ∧ b.lin ns
  | .wit x a b => a.fin ns ∧ ns.length < 500 ∧ b.lin (ns ++ [x])
theorem mul_small100 {i j : Int} (h : i.natAbs ≤ 100) : IntMulOk i j := CMul.ok (.inl ⟨by omega, by omega⟩)
theorem mul_small100R {i j : Int} (h : j.natAbs ≤ 100) : IntMulOk i j := CMul.ok (.inr ⟨by omega, by omega⟩)
theorem tiny_val {ns : List Str} {ps : List Int} : ∀ {a : Sm Str}, a.tiny → (a.val ns ps).natAbs ≤ 100
  | .num i, h => h
  | .name _, h => h.elim
  | .op _ _ _, h => h.elim
theorem lin_op {ns : List Str} {ps : List Int} {o : O3} {a b : Sm Str} (h : (Sm.op o a b).lin ns) : a.lin ns ∧ b.lin ns ∧ (o = .mul → IntMulOk (a.val ns ps) (b.val ns ps)) :=
  ⟨h.1, h.2.1, fun e => (h.2.2 e).elim (fun z => mul_small100 (tiny_val z)) (fun z => mul_small100R (tiny_val z))⟩
/-! ### sums and tests on the machine -/
/-! ### where the rest of a walk lies among the cards -/
/-! ### the cards do as the walk does -/
end J

set_option Elab.async false
set_option linter.all false
set_option maxRecDepth 100000
set_option maxHeartbeats 4000000
namespace J
open PySem L2
/-! ### what the law draws is in scope -/
theorem leaf_lin (salt p1 p2 : Int) (sc : List Str) : (leafF salt p1 p2 sc).lin sc := by
  rcases leaf_ways salt p1 p2 sc with ⟨x, e, h⟩ | ⟨i, e, _⟩ <;> rw [e]
  · exact h
  · trivial
theorem turned_lin {o : Sm Str} {l : Int} {sc : List Str} (ho : o.lin sc) : ∀ k : Nat, (turned o l k).lin sc
  | 0 => ho
  | k + 1 => by
    have := turned_lin (l := l) ho k
    show (Sm.op (if k % 2 = 0 then .add else .sub) (turned o l k) (.num l)).lin sc
    split
    · exact ⟨this, trivial, fun z => nomatch z⟩
    · exact ⟨this, trivial, fun z => nomatch z⟩
theorem sum_lin (salt : Int) (sc : List Str) : (sumF salt sc).lin sc := by
  have a := leaf_lin salt 1009 1013 sc
  have b := leaf_lin salt 1019 1021 sc
  have l0 := drw_lo (n := salt) (p := 1061) (show (0 : Int) < 4 by decide)
  have l4 := drw_hi (n := salt) (p := 1061) (show (0 : Int) < 4 by decide)
  unfold sumF
  dsimp only
  split
  · exact a
  · split
    · exact ⟨a, b, fun z => nomatch z⟩
    · split
      · exact ⟨a, b, fun z => nomatch z⟩
      · split
        · exact ⟨a, trivial, fun _ => .inr (by show (drw salt 1061 4 - 1).natAbs ≤ 100; omega)⟩
        · split
          · exact turned_lin a _
          · split
            · exact ⟨⟨⟨trivial, ⟨b, a, fun z => nomatch z⟩, fun _ => .inl (by show (drw salt 1061 4).natAbs ≤ 100; omega)⟩, b, fun z => nomatch z⟩, ⟨a, trivial, fun z => nomatch z⟩, fun z => nomatch z⟩
            · exact ⟨⟨a, b, fun z => nomatch z⟩, ⟨trivial, b, fun _ => .inl (by show (drw salt 1061 4).natAbs ≤ 100; omega)⟩, fun z => nomatch z⟩
theorem test_lin (salt : Int) (sc : List Str) : (testF salt sc).lin sc := by
  have b := leaf_lin salt 1019 1021 sc
  have b1 : (leafF salt 1019 1021 sc).dp ≤ 20 := by rw [(leaf_small salt 1019 1021 sc).1]; decide
  have one : (if drw salt 1097 3 = 1 then sumF salt sc else leafF salt 1009 1013 sc).lin sc ∧ (if drw salt 1097 3 = 1 then sumF salt sc else leafF salt 1009 1013 sc).dp ≤ 20 := by
    split
    · exact ⟨sum_lin salt sc, by have := (sum_small salt sc).1; omega⟩
    · exact ⟨leaf_lin salt 1009 1013 sc, by rw [(leaf_small salt 1009 1013 sc).1]; decide⟩
  unfold testF
  dsimp only
  generalize (if drw salt 1097 3 = 1 then sumF salt sc else leafF salt 1009 1013 sc) = o at one
  have d1 : ∀ i : Int, (Sm.num i : Sm Str).dp ≤ 20 := fun i => by show 1 ≤ 20; decide
  have l1 : ∀ i : Int, (Ts.less o (.num i)).lin sc := fun i => ⟨one.1, trivial, one.2, d1 i⟩
  have l2 : (Ts.same o (leafF salt 1019 1021 sc)).lin sc := ⟨one.1, b, one.2, b1⟩
  split
  · exact l2
  · split
    · exact l1 _
    · split
      · exact ⟨⟨l1 _, l2⟩, ⟨l2, l1 _⟩⟩
      · split
        · exact ⟨l1 _, ⟨trivial, one.1, d1 _, one.2⟩⟩
        · exact l1 _
theorem sum_fin (salt : Int) (sc : List Str) : (sumF salt sc).fin sc := ⟨sum_lin salt sc, by have := (sum_small salt sc).1; omega, by have := (sum_small salt sc).2; omega⟩
theorem test_fin (salt : Int) (sc : List Str) : (testF salt sc).fin sc := ⟨test_lin salt sc, by have := (test_small salt sc).1; omega, by have := (test_small salt sc).2; omega⟩
/-! ### each walk comes to an end -/
inductive Sc (ns0 : List Str) : List Wi → List Str → Prop where
  | nil : Sc ns0 [] ns0
  | o {x : Od} {r : List Wi} {ns : List Str} : x.lin ns → Sc ns0 r ns → Sc ns0 (.o x :: r) ns
  | gone {x : Str} {r : List Wi} {ns : List Str} : Sc ns0 r ns → Sc ns0 (.gone :: r) (ns ++ [x])
theorem sc_block {ns0 : List Str} : ∀ {b : Bk} {w : List Wi} {ns : List Str}, b.lin ns → Sc ns0 w ns → Sc ns0 (wis b ++ w) ns
  | .nil, _, _, _, h => h
  | .set x a r, _, _, h, g => .o (x := .set x a) ⟨h.1, h.2.1⟩ (sc_block h.2.2 g)
  | .say a r, _, _, h, g => .o (x := .say a) h.1 (sc_block h.2 g)
  | .when t b d r, _, _, h, g => .o ⟨h.1, h.2.1, h.2.2.1⟩ (sc_block h.2.2.2 g)
  | .whil t b r, _, _, h, g => .o ⟨h.1, h.2.1⟩ (sc_block h.2.2 g)
  | .wit x a b r, _, _, h, g => .o (x := .wit x a b) ⟨h.1, h.2.1, h.2.2.1⟩ (sc_block h.2.2.2 g)
structure WEnd (n0 : Nat) (sl l : Nat) (f : WFin) : Prop where
  pl : f.word = true → f.pots.length = n0
  sl : f.told.length ≤ sl + l
  le : f.left ≤ l
  dr : f.word = false → f.left = 0
theorem walks {ns0 : List Str} : ∀ (l : Nat) {r : List Wi} {ns : List Str} {ps s : List Int}, Sc ns0 r ns → ps.length = ns.length → ∃ m f, Walk m r ns ps s l f ∧ WEnd ns0.length s.length l f
  | l, [], ns, ps, s, h, hp => by
    cases h
    exact ⟨_, _, .done, fun _ => hp, Nat.le_add_right .., Nat.le_refl _, fun z => nomatch z⟩
  | l, .gone :: r, _, ps, s, h, hp => by
    cases h with
    | @gone x _ ns h =>
      rcases List.eq_nil_or_concat ps with rfl | ⟨ps', i, rfl⟩
      · simp at hp
      · rw [List.concat_eq_append] at hp ⊢
        obtain ⟨m, f, w, e⟩ := walks l (ps := ps') (s := s) h (by simp only [List.length_append, List.length_cons, List.length_nil] at hp; omega)
        exact ⟨m + 1, f, .gone w, e⟩
  | 0, .o x :: r, ns, ps, s, h, hp => ⟨_, _, .dry, ⟨fun z => (by cases z), Nat.le_add_right .., Nat.le_refl _, fun _ => rfl⟩⟩
  | l + 1, .o x :: r, ns, ps, s, h, hp => by
    cases h with
    | o hx h =>
      have up : ∀ {s' : List Int} {f : WFin}, s'.length ≤ s.length + 1 → WEnd ns0.length s'.length l f → WEnd ns0.length s.length (l + 1) f :=
        fun h e => ⟨e.pl, by have := e.sl; omega, by have := e.le; omega, e.dr⟩
      cases x with
      | set x a =>
        obtain ⟨j, hj⟩ := lastIx_mem (show x ∈ ns from hx.1)
        obtain ⟨m, f, w, e⟩ := walks l (ps := ps.set j (a.val ns ps)) (s := s) h (by rw [List.length_set]; exact hp)
        exact ⟨m + 1, f, .set hj w, up (Nat.le_succ _) e⟩
      | say a =>
        obtain ⟨m, f, w, e⟩ := walks l (ps := ps) (s := s ++ [a.val ns ps]) h hp
        exact ⟨m + 1, f, .say w, up (by rw [List.length_append]; exact Nat.le_refl _) e⟩
      | when t b d =>
        cases hv : t.val ns ps with
        | true =>
          obtain ⟨m, f, w, e⟩ := walks l (ps := ps) (s := s) (sc_block hx.2.1 h) hp
          exact ⟨m + 1, f, .when1 hv w, up (Nat.le_succ _) e⟩
        | false =>
          obtain ⟨m, f, w, e⟩ := walks l (ps := ps) (s := s) (sc_block hx.2.2 h) hp
          exact ⟨m + 1, f, .when0 hv w, up (Nat.le_succ _) e⟩
      | whil t b =>
        cases hv : t.val ns ps with
        | true =>
          obtain ⟨m, f, w, e⟩ := walks l (ps := ps) (s := s) (sc_block hx.2 (.o hx h)) hp
          exact ⟨m + 1, f, .whil1 hv w, up (Nat.le_succ _) e⟩
        | false =>
          obtain ⟨m, f, w, e⟩ := walks l (ps := ps) (s := s) h hp
          exact ⟨m + 1, f, .whil0 hv w, up (Nat.le_succ _) e⟩
      | wit x a b =>
        obtain ⟨m, f, w, e⟩ := walks l (ps := ps ++ [a.val ns ps]) (s := s) (sc_block hx.2.2 (.gone (x := x) h)) (by simp only [List.length_append, List.length_cons, List.length_nil]; omega)
        exact ⟨m + 1, f, .wit w, up (Nat.le_succ _) e⟩
termination_by l r => (l, r.length)
/-! ### how many cards -/
/-! ### a list of cards that grows -/
/-! ### parts of a sum or a test -/
theorem inV_str {x : Str} : ∀ {ns : List Str}, x ∈ ns → inV (.str x) (ns.map V.str) = true
  | y :: ns, h => by
    rw [List.map_cons]
    show (eqV (.str y) (.str x) || inV (.str x) (ns.map V.str)) = true
    rcases List.mem_cons.mp h with rfl | h
    · have : eqV (.str x) (.str x) = true := by simp [eqV]
      rw [this]; rfl
    · rw [inV_str h, Bool.or_true]
theorem flat_strs : ∀ ns : List Str, (ns.map V.str).all flatV = true
  | [] => rfl
  | _ :: r => by rw [List.map_cons]; exact (flat_strs r)
end J

set_option Elab.async false
set_option linter.all false
set_option maxRecDepth 100000
set_option maxHeartbeats 4000000
namespace J
open PySem PySem.Spec PyProof.Rows L2
/-! ### a tuple == ("away",) -/
section
variable {X : Cx}
def rEqAway (K : PySem.W.Frag) : R2 := fun x y H Q => ∃ a b w rest, x = .ref a ∧ y = .ref b ∧ TpK K H a (.str w :: rest) ∧ TpK K H b [.str "away"] ∧ Q (.bl (decide (w = "away") && rest.isEmpty)) H
theorem op_eqAway (hu : X.A.units + 1 < cLine) : OpR X (compareOp .Eq) (rEqAway X.K) := by
  intro pins s σ H x y v u Q I rx ry h
  obtain ⟨a, b, w, rest, rfl, rfl, h1, h2, q⟩ := h
  cases rx
  cases ry
  obtain ⟨its2, r2, t2, _⟩ := I.tuple h2.sq
  obtain ⟨its, r, t, _⟩ := I.tuple h1.sq
  cases r2 with
  | cons z2 r2 =>
    cases r2
    obtain ⟨tk1, rfl⟩ := z2
    cases r with
    | @cons _ _ _ us z1 r =>
      obtain ⟨q1, rfl⟩ := z1
      have hl := r.length
      have := SeqAt.RcAt.tuples (A := X.A) (e := fun _ => (w == ("away" : Str))) t t2 (by omega) fun j h1 h2 => by
        match j, h2 with
        | 0, _ => exact SeqAt.EqAt.str_str _ _ _ _
      refine this X.prog X.w X.xe _ ⟨.bl _, H, I, rfl, ?_⟩
      have e : ((List.range (min ((Value.str w q1 :: us).toArray).size ([Value.str "away" tk1].toArray).size)).all (fun _ => (w == ("away" : Str))) && ((Value.str w q1 :: us).toArray).size == ([Value.str "away" tk1].toArray).size) = (decide (w = "away") && rest.isEmpty) := by
        have e1 : min ((Value.str w q1 :: us).toArray).size ([Value.str "away" tk1].toArray).size = 1 := by
          simp
        rw [e1]
        have e2 : (((Value.str w q1 :: us).toArray).size == ([Value.str "away" tk1].toArray).size) = rest.isEmpty := by
          cases rest with
          | nil => cases r; rfl
          | cons _ _ =>
            cases r
            simp
        rw [e2]
        show ((w == ("away" : Str)) && true && rest.isEmpty) = _
        rw [Bool.and_true]
        rfl
      rw [e]
      exact q
end
/-! ### the course's object -/
def cfl (lr lh ls : Addr) (oil used : Int) (la : Addr) : List (Str × V) := [("row", .ref lr), ("held", .ref lh), ("said", .ref ls), ("oil", .int oil), ("used", .int used), ("ahead", .ref la)]
theorem cfl_row (lr lh ls : Addr) (o u : Int) (la : Addr) : (cfl lr lh ls o u la).lookup ("row" : Str) = some (.ref lr) := by
  unfold cfl; rw [lk_cons, if_pos rfl]
theorem cfl_held (lr lh ls : Addr) (o u : Int) (la : Addr) : (cfl lr lh ls o u la).lookup ("held" : Str) = some (.ref lh) := by
  unfold cfl; rw [lk_cons, if_neg (by decide +kernel), lk_cons, if_pos rfl]
theorem cfl_said (lr lh ls : Addr) (o u : Int) (la : Addr) : (cfl lr lh ls o u la).lookup ("said" : Str) = some (.ref ls) := by
  unfold cfl; rw [lk_cons, if_neg (by decide +kernel), lk_cons, if_neg (by decide +kernel), lk_cons, if_pos rfl]
theorem cfl_oil (lr lh ls : Addr) (o u : Int) (la : Addr) : (cfl lr lh ls o u la).lookup ("oil" : Str) = some (.int o) := by
  unfold cfl; rw [lk_cons, if_neg (by decide +kernel), lk_cons, if_neg (by decide +kernel), lk_cons, if_neg (by decide +kernel), lk_cons, if_pos rfl]
theorem cfl_used (lr lh ls : Addr) (o u : Int) (la : Addr) : (cfl lr lh ls o u la).lookup ("used" : Str) = some (.int u) := by
  unfold cfl; rw [lk_cons, if_neg (by decide +kernel), lk_cons, if_neg (by decide +kernel), lk_cons, if_neg (by decide +kernel), lk_cons, if_neg (by decide +kernel), lk_cons, if_pos rfl]
theorem cfl_ahead (lr lh ls : Addr) (o u : Int) (la : Addr) : (cfl lr lh ls o u la).lookup ("ahead" : Str) = some (.ref la) := by
  unfold cfl; rw [lk_cons, if_neg (by decide +kernel), lk_cons, if_neg (by decide +kernel), lk_cons, if_neg (by decide +kernel), lk_cons, if_neg (by decide +kernel), lk_cons, if_neg (by decide +kernel), lk_cons, if_pos rfl]
theorem cfl_no {lr lh ls : Addr} {o u : Int} {la : Addr} {m : Str} (h : ¬ m = "row" ∧ ¬ m = "held" ∧ ¬ m = "said" ∧ ¬ m = "oil" ∧ ¬ m = "used" ∧ ¬ m = "ahead") : (cfl lr lh ls o u la).lookup m = none := by
  unfold cfl; rw [lk_cons, if_neg h.1, lk_cons, if_neg h.2.1, lk_cons, if_neg h.2.2.1, lk_cons, if_neg h.2.2.2.1, lk_cons, if_neg h.2.2.2.2.1, lk_cons, if_neg h.2.2.2.2.2]; rfl
theorem cfl_putUsed (lr lh ls : Addr) (o u u' : Int) (la : Addr) (g : Str) : (cfl lr lh ls o u' la).lookup g = if g = "used" then some (.int u') else (cfl lr lh ls o u la).lookup g := by
  by_cases h : g = "used"
  · subst h; rw [if_pos rfl]; exact cfl_used ..
  · rw [if_neg h]; unfold cfl; simp only [lk_cons, if_neg h]
/-- its own four lists and itself -/
structure CAd where
  p : Addr
  lr : Addr
  lh : Addr
  ls : Addr
  la : Addr
structure CAd.Dis (a : CAd) : Prop where
  n1 : a.lr ≠ a.lh
  n2 : a.lr ≠ a.ls
  n3 : a.lr ≠ a.la
  n4 : a.lh ≠ a.ls
  n5 : a.lh ≠ a.la
  n6 : a.ls ≠ a.la
structure CrsAt (C : Addr) (H : Hp) (a : CAd) (ns : List Str) (ps said : List Int) (oil used : Int) (ws : List V) : Prop where
  ob : ∃ dx fs, H a.p = some (.ins C dx fs) ∧ Has fs (cfl a.lr a.lh a.ls oil used a.la)
  er : H a.lr = some (.lst (ns.map V.str))
  eh : H a.lh = some (.lst (ps.map V.int))
  es : H a.ls = some (.lst (said.map V.int))
  ea : H a.la = some (.lst ws)
  d : a.Dis
def COut (a : CAd) (H H' : Hp) : Prop := ∀ b o, b ≠ a.p → b ≠ a.lr → b ≠ a.lh → b ≠ a.ls → b ≠ a.la → H b = some o → H' b = some o
theorem COut.refl (a : CAd) (H : Hp) : COut a H H := fun _ _ _ _ _ _ _ h => h
theorem COut.trans {a : CAd} {H H1 H2 : Hp} (x : COut a H H1) (y : COut a H1 H2) : COut a H H2 := fun c o n1 n2 n3 n4 n5 h => y c o n1 n2 n3 n4 n5 (x c o n1 n2 n3 n4 n5 h)
theorem COut.of {a : CAd} {H H' : Hp} (S : Same H H') : COut a H H' := fun b o _ _ _ _ _ h => S b o h
theorem CrsAt.np {C : Addr} {H : Hp} {a : CAd} {ns : List Str} {ps said : List Int} {oil used : Int} {ws : List V} (h : CrsAt C H a ns ps said oil used ws) : a.p ≠ a.lr ∧ a.p ≠ a.lh ∧ a.p ≠ a.ls ∧ a.p ≠ a.la := by
  obtain ⟨dx, fs, e, _⟩ := h.ob
  exact ⟨ne_of e h.er (fun z => by cases z), ne_of e h.eh (fun z => by cases z), ne_of e h.es (fun z => by cases z), ne_of e h.ea (fun z => by cases z)⟩
theorem CrsAt.same {C : Addr} {H H' : Hp} {a : CAd} {ns : List Str} {ps said : List Int} {oil used : Int} {ws : List V} (h : CrsAt C H a ns ps said oil used ws) (S : Same H H') : CrsAt C H' a ns ps said oil used ws := by
  obtain ⟨dx, fs, e, hf⟩ := h.ob
  exact ⟨⟨dx, fs, S _ _ e, hf⟩, S _ _ h.er, S _ _ h.eh, S _ _ h.es, S _ _ h.ea, h.d⟩
theorem CrsAt.fld {C dx : Addr} {H : Hp} {a : CAd} {ns : List Str} {ps said : List Int} {oil used used' : Int} {ws : List V} {fs' : List (Str × V)} (h : CrsAt C H a ns ps said oil used ws) (hf : Has fs' (cfl a.lr a.lh a.ls oil used' a.la)) : CrsAt C (upd H a.p (.ins C dx fs')) a ns ps said oil used' ws ∧ COut a H (upd H a.p (.ins C dx fs')) := by
  obtain ⟨q1, q2, q3, q4⟩ := h.np
  exact ⟨⟨⟨dx, fs', upd_same, hf⟩, by rw [upd_ne q1.symm]; exact h.er, by rw [upd_ne q2.symm]; exact h.eh, by rw [upd_ne q3.symm]; exact h.es, by rw [upd_ne q4.symm]; exact h.ea, h.d⟩, fun b o n1 _ _ _ _ e => by rw [upd_ne n1]; exact e⟩
theorem CrsAt.rowTo {C : Addr} {H : Hp} {a : CAd} {ns : List Str} {ps said : List Int} {oil used : Int} {ws : List V} (h : CrsAt C H a ns ps said oil used ws) (ns' : List Str) : CrsAt C (upd H a.lr (.lst (ns'.map V.str))) a ns' ps said oil used ws ∧ COut a H (upd H a.lr (.lst (ns'.map V.str))) := by
  obtain ⟨q1, q2, q3, q4⟩ := h.np
  obtain ⟨dx, fs, e, hf⟩ := h.ob
  exact ⟨⟨⟨dx, fs, by rw [upd_ne q1]; exact e, hf⟩, upd_same, by rw [upd_ne h.d.n1.symm]; exact h.eh, by rw [upd_ne h.d.n2.symm]; exact h.es, by rw [upd_ne h.d.n3.symm]; exact h.ea, h.d⟩, fun b o _ n _ _ _ e => by rw [upd_ne n]; exact e⟩
theorem CrsAt.heldTo {C : Addr} {H : Hp} {a : CAd} {ns : List Str} {ps said : List Int} {oil used : Int} {ws : List V} (h : CrsAt C H a ns ps said oil used ws) (ps' : List Int) : CrsAt C (upd H a.lh (.lst (ps'.map V.int))) a ns ps' said oil used ws ∧ COut a H (upd H a.lh (.lst (ps'.map V.int))) := by
  obtain ⟨q1, q2, q3, q4⟩ := h.np
  obtain ⟨dx, fs, e, hf⟩ := h.ob
  exact ⟨⟨⟨dx, fs, by rw [upd_ne q2]; exact e, hf⟩, by rw [upd_ne h.d.n1]; exact h.er, upd_same, by rw [upd_ne h.d.n4.symm]; exact h.es, by rw [upd_ne h.d.n5.symm]; exact h.ea, h.d⟩, fun b o _ _ n _ _ e => by rw [upd_ne n]; exact e⟩
theorem CrsAt.saidTo {C : Addr} {H : Hp} {a : CAd} {ns : List Str} {ps said : List Int} {oil used : Int} {ws : List V} (h : CrsAt C H a ns ps said oil used ws) (said' : List Int) : CrsAt C (upd H a.ls (.lst (said'.map V.int))) a ns ps said' oil used ws ∧ COut a H (upd H a.ls (.lst (said'.map V.int))) := by
  obtain ⟨q1, q2, q3, q4⟩ := h.np
  obtain ⟨dx, fs, e, hf⟩ := h.ob
  exact ⟨⟨⟨dx, fs, by rw [upd_ne q3]; exact e, hf⟩, by rw [upd_ne h.d.n2]; exact h.er, by rw [upd_ne h.d.n4]; exact h.eh, upd_same, by rw [upd_ne h.d.n6.symm]; exact h.ea, h.d⟩, fun b o _ _ _ n _ e => by rw [upd_ne n]; exact e⟩
theorem CrsAt.aheadTo {C : Addr} {H : Hp} {a : CAd} {ns : List Str} {ps said : List Int} {oil used : Int} {ws : List V} (h : CrsAt C H a ns ps said oil used ws) (ws' : List V) : CrsAt C (upd H a.la (.lst ws')) a ns ps said oil used ws' ∧ COut a H (upd H a.la (.lst ws')) := by
  obtain ⟨q1, q2, q3, q4⟩ := h.np
  obtain ⟨dx, fs, e, hf⟩ := h.ob
  exact ⟨⟨⟨dx, fs, by rw [upd_ne q4]; exact e, hf⟩, by rw [upd_ne h.d.n3]; exact h.er, by rw [upd_ne h.d.n5]; exact h.eh, by rw [upd_ne h.d.n6]; exact h.es, upd_same, h.d⟩, fun b o _ _ _ _ n e => by rw [upd_ne n]; exact e⟩
/-! ### orders on the heap, one by one -/
inductive IsOd (H : Hp) : V → Od → Prop where
  | set {a : Addr} {x : Str} {u : V} {s : Sm Str} : H a = some (.tup [.str "set", .str x, u]) → IsSum H u s → IsOd H (.ref a) (.set x s)
  | say {a : Addr} {u : V} {s : Sm Str} : H a = some (.tup [.str "say", u]) → IsSum H u s → IsOd H (.ref a) (.say s)
  | when {a p q : Addr} {u : V} {t : Ts} {vb vc : List V} {b c : Bk} : H a = some (.tup [.str "when", u, .ref p, .ref q]) → IsTest H u t → H p = some (.lst vb) → IsBk H noM vb b → H q = some (.lst vc) → IsBk H noM vc c → IsOd H (.ref a) (.when t b c)
  | whil {a p : Addr} {u : V} {t : Ts} {vb : List V} {b : Bk} : H a = some (.tup [.str "while", u, .ref p]) → IsTest H u t → H p = some (.lst vb) → IsBk H noM vb b → IsOd H (.ref a) (.whil t b)
  | wit {a p : Addr} {x : Str} {u : V} {s : Sm Str} {vb : List V} {b : Bk} : H a = some (.tup [.str "with", .str x, u, .ref p]) → IsSum H u s → H p = some (.lst vb) → IsBk H noM vb b → IsOd H (.ref a) (.wit x s b)
theorem ods_of {H : Hp} {vs : List V} {b : Bk} (h : IsBk H noM vs b) : Paired (IsOd H) vs b.ods := by
  induction h with
  | nil => exact .nil
  | set e s _ ih => exact .cons (.set e s) ih
  | say e s _ ih => exact .cons (.say e s) ih
  | when e t _ e1 h1 _ e2 h2 _ _ _ ih => exact .cons (.when e t e1 h1 e2 h2) ih
  | whil e t _ e1 h1 _ _ ih => exact .cons (.whil e t e1 h1) ih
  | wit e s _ e1 h1 _ _ ih => exact .cons (.wit e s e1 h1) ih
/-- what lies ahead; aw: the word that a jar goes away -/
inductive IsWi (aw : V → Prop) (H : Hp) : V → Wi → Prop where
  | o {v : V} {x : Od} : IsOd H v x → IsWi aw H v (.o x)
  | gone {v : V} : aw v → IsWi aw H v .gone
theorem wis_of {aw : V → Prop} {H : Hp} : ∀ {vs : List V} {os : List Od}, Paired (IsOd H) vs os → Paired (IsWi aw H) vs (os.map Wi.o)
  | _, _, .nil => .nil
  | _, _, .cons h t => .cons (.o h) (wis_of t)
/-! ### a walk, order by order -/
inductive WStp : Od → List Wi → List Str → List Int → List Int → List Wi → List Str → List Int → List Int → Prop where
  | set {x : Str} {a : Sm Str} {j : Nat} {r : List Wi} {ns : List Str} {ps s : List Int} : lastIx ns x = some j → WStp (.set x a) r ns ps s r ns (ps.set j (a.val ns ps)) s
  | say {a : Sm Str} {r : List Wi} {ns : List Str} {ps s : List Int} : WStp (.say a) r ns ps s r ns ps (s ++ [a.val ns ps])
  | when1 {t : Ts} {b c : Bk} {r : List Wi} {ns : List Str} {ps s : List Int} : t.val ns ps = true → WStp (.when t b c) r ns ps s (wis b ++ r) ns ps s
  | when0 {t : Ts} {b c : Bk} {r : List Wi} {ns : List Str} {ps s : List Int} : t.val ns ps = false → WStp (.when t b c) r ns ps s (wis c ++ r) ns ps s
  | whil1 {t : Ts} {b : Bk} {r : List Wi} {ns : List Str} {ps s : List Int} : t.val ns ps = true → WStp (.whil t b) r ns ps s (wis b ++ .o (.whil t b) :: r) ns ps s
  | whil0 {t : Ts} {b : Bk} {r : List Wi} {ns : List Str} {ps s : List Int} : t.val ns ps = false → WStp (.whil t b) r ns ps s r ns ps s
  | wit {x : Str} {a : Sm Str} {b : Bk} {r : List Wi} {ns : List Str} {ps s : List Int} : WStp (.wit x a b) r ns ps s (wis b ++ .gone :: r) (ns ++ [x]) (ps ++ [a.val ns ps]) s
theorem Walk.stp {n : Nat} {x : Od} {r : List Wi} {ns : List Str} {ps s : List Int} {l : Nat} {f : WFin} (w : Walk n (.o x :: r) ns ps s (l + 1) f) : ∃ m r' ns' ps' s', n = m + 1 ∧ WStp x r ns ps s r' ns' ps' s' ∧ Walk m r' ns' ps' s' l f := by
  cases w with
  | set e w => exact ⟨_, _, _, _, _, rfl, .set e, w⟩
  | say w => exact ⟨_, _, _, _, _, rfl, .say, w⟩
  | when1 e w => exact ⟨_, _, _, _, _, rfl, .when1 e, w⟩
  | when0 e w => exact ⟨_, _, _, _, _, rfl, .when0 e, w⟩
  | whil1 e w => exact ⟨_, _, _, _, _, rfl, .whil1 e, w⟩
  | whil0 e w => exact ⟨_, _, _, _, _, rfl, .whil0 e, w⟩
  | wit w => exact ⟨_, _, _, _, _, rfl, .wit, w⟩
def Od.n : Od → Nat
  | .set _ _ => 1
  | .say _ => 1
  | .when _ b c => b.n + c.n + 1
  | .whil _ b => b.n + 1
  | .wit _ _ b => b.n + 1
theorem Bk.ods_n : ∀ (b : Bk), b.ods.length ≤ b.n ∧ ∀ x ∈ b.ods, x.n ≤ b.n
  | .nil => ⟨Nat.le_refl _, fun x hx => by cases hx⟩
  | .set y a r => by
    have h := Bk.ods_n r
    refine ⟨Nat.succ_le_succ h.1, fun x hx => ?_⟩
    rcases List.mem_cons.mp hx with rfl | hx
    · show 1 ≤ r.n + 1; omega
    · have := h.2 x hx; show x.n ≤ r.n + 1; omega
  | .say a r => by
    have h := Bk.ods_n r
    refine ⟨Nat.succ_le_succ h.1, fun x hx => ?_⟩
    rcases List.mem_cons.mp hx with rfl | hx
    · show 1 ≤ r.n + 1; omega
    · have := h.2 x hx; show x.n ≤ r.n + 1; omega
  | .when t b c r => by
    have h := Bk.ods_n r
    refine ⟨by show r.ods.length + 1 ≤ b.n + c.n + r.n + 1; omega, fun x hx => ?_⟩
    rcases List.mem_cons.mp hx with rfl | hx
    · show b.n + c.n + 1 ≤ b.n + c.n + r.n + 1; omega
    · have := h.2 x hx; show x.n ≤ b.n + c.n + r.n + 1; omega
  | .whil t b r => by
    have h := Bk.ods_n r
    refine ⟨by show r.ods.length + 1 ≤ b.n + r.n + 1; omega, fun x hx => ?_⟩
    rcases List.mem_cons.mp hx with rfl | hx
    · show b.n + 1 ≤ b.n + r.n + 1; omega
    · have := h.2 x hx; show x.n ≤ b.n + r.n + 1; omega
  | .wit y a b r => by
    have h := Bk.ods_n r
    refine ⟨by show r.ods.length + 1 ≤ b.n + r.n + 1; omega, fun x hx => ?_⟩
    rcases List.mem_cons.mp hx with rfl | hx
    · show b.n + 1 ≤ b.n + r.n + 1; omega
    · have := h.2 x hx; show x.n ≤ b.n + r.n + 1; omega
structure WInv (ns0 : List Str) (todo : List Wi) (ns : List Str) (ps s : List Int) (l : Nat) : Prop where
  sc : Sc ns0 todo ns
  pl : ps.length = ns.length
  nl : ns.length ≤ 500
  few : ∀ x, Wi.o x ∈ todo → x.n ≤ 400
  tl : todo.length + 500 * l ≤ 1000000
  sl : s.length + l ≤ 900000
theorem few_block {b : Bk} {r : List Wi} (hb : b.n ≤ 400) (h : ∀ x, Wi.o x ∈ r → x.n ≤ 400) : ∀ x, Wi.o x ∈ wis b ++ r → x.n ≤ 400 := fun x hx => by
  rcases List.mem_append.mp hx with hx | hx
  · obtain ⟨y, hy, e⟩ := List.mem_map.mp hx
    cases e
    exact Nat.le_trans (b.ods_n.2 _ hy) hb
  · exact h x hx
theorem WInv.next {ns0 : List Str} {x : Od} {r r' : List Wi} {ns ns' : List Str} {ps s ps' s' : List Int} {l : Nat} (h : WInv ns0 (.o x :: r) ns ps s (l + 1)) (st : WStp x r ns ps s r' ns' ps' s') : WInv ns0 r' ns' ps' s' l := by
  obtain ⟨sc, pl, nl, few, tl, sl⟩ := h
  have few' : ∀ x, Wi.o x ∈ r → x.n ≤ 400 := fun x hx => few x (List.mem_cons_of_mem _ hx)
  have fx := few x (List.mem_cons_self ..)
  rw [List.length_cons] at tl
  cases sc with
  | o lx sc =>
    cases st with
    | set e => exact ⟨sc, by rw [List.length_set]; exact pl, nl, few', by omega, by omega⟩
    | say => exact ⟨sc, pl, nl, few', by omega, by rw [List.length_append]; show _ + 1 + _ ≤ _; omega⟩
    | @when1 t b c _ _ _ _ e =>
      have fx' : b.n + c.n + 1 ≤ 400 := fx
      have := b.ods_n.1
      exact ⟨sc_block lx.2.1 sc, pl, nl, few_block (by omega) few', by rw [List.length_append, List.length_map]; omega, by omega⟩
    | @when0 t b c _ _ _ _ e =>
      have fx' : b.n + c.n + 1 ≤ 400 := fx
      have := c.ods_n.1
      exact ⟨sc_block lx.2.2 sc, pl, nl, few_block (by omega) few', by rw [List.length_append, List.length_map]; omega, by omega⟩
    | @whil1 t b _ _ _ _ e =>
      have fx' : b.n + 1 ≤ 400 := fx
      have := b.ods_n.1
      refine ⟨sc_block lx.2 (.o lx sc), pl, nl, few_block (by omega) few, by rw [List.length_append, List.length_map, List.length_cons]; omega, by omega⟩
    | whil0 e => exact ⟨sc, pl, nl, few', by omega, by omega⟩
    | @wit y a b _ _ _ _ =>
      have fx' : b.n + 1 ≤ 400 := fx
      have := b.ods_n.1
      have := lx.2.1
      refine ⟨sc_block lx.2.2 (.gone sc), by rw [List.length_append, List.length_append, pl]; rfl, by rw [List.length_append]; show _ + 1 ≤ _; omega, few_block (by omega) (fun x hx => ?_), by rw [List.length_append, List.length_map, List.length_cons]; omega, by omega⟩
      rcases List.mem_cons.mp hx with hx | hx
      · cases hx
      · exact few' x hx
theorem WInv.gone {ns0 : List Str} {x : Str} {r : List Wi} {ns : List Str} {ps s : List Int} {i : Int} {l : Nat} (h : WInv ns0 (.gone :: r) (ns ++ [x]) (ps ++ [i]) s l) : WInv ns0 r ns ps s l := by
  obtain ⟨sc, pl, nl, few, tl, sl⟩ := h
  rw [List.length_append, List.length_append] at pl
  rw [List.length_append] at nl
  rw [List.length_cons] at tl
  generalize e : ns ++ [x] = ns2 at sc
  cases sc with
  | gone sc =>
    obtain ⟨rfl, _⟩ := List.append_inj' e rfl
    exact ⟨sc, by have : ps.length + 1 = ns.length + 1 := pl; omega, by have : ns.length + 1 ≤ 500 := nl; omega, fun x hx => few x (List.mem_cons_of_mem _ hx), by omega, sl⟩
theorem WInv.start {b : Bk} {ns : List Str} {ps : List Int} {l : Nat} (hb : b.lin ns) (hn : b.n ≤ 400) (pl : ps.length = ns.length) (nl : ns.length ≤ 500) (hl : l ≤ 1000) : WInv ns (wis b) ns ps [] l := by
  have := b.ods_n
  have sc := sc_block hb (Sc.nil (ns0 := ns))
  rw [List.append_nil] at sc
  refine ⟨sc, pl, nl, fun x hx => ?_, by rw [List.length_map]; omega, by show 0 + l ≤ _; omega⟩
  obtain ⟨y, hy, e⟩ := List.mem_map.mp hx
  cases e
  exact Nat.le_trans (this.2 _ hy) hn
/-- its things were not there before -/
structure CNew (a : CAd) (H0 : Hp) : Prop where
  p : H0 a.p = none
  lr : H0 a.lr = none
  lh : H0 a.lh = none
  ls : H0 a.ls = none
  la : H0 a.la = none
theorem CNew.same {a : CAd} {H0 H H' : Hp} (n : CNew a H0) (S : Same H0 H) (M : COut a H H') : Same H0 H' := fun b o e =>
  M b o (ne_of_none e n.p) (ne_of_none e n.lr) (ne_of_none e n.lh) (ne_of_none e n.ls) (ne_of_none e n.la) (S b o e)
/-! ### the law's own walk -/
end J

set_option Elab.async false
set_option linter.all false
set_option maxRecDepth 100000
set_option maxHeartbeats 4000000
namespace L2
open PySem PySem.Spec PyProof.Rows PySem.W

theorem ObjOk.there {P : Program} {w : World} {H : Hp} {h : Heap} {a : Addr} {o : HO} (x : ObjOk P w H h a o) : ∃ ob, h.get? a = some ob := by
  cases o with
  | lst xs => obtain ⟨_, _, _, _, e⟩ := x; exact ⟨_, e⟩
  | tup xs => obtain ⟨_, _, _, ob, e, _⟩ := x; exact ⟨_, e⟩
  | dK kvs => obtain ⟨_, _, _, _, o, _, _, e, _⟩ := x; exact ⟨_, e⟩
  | dT kvs => obtain ⟨_, _, _, _, o, _, _, e, _⟩ := x; exact ⟨_, e⟩
  | set S n => obtain ⟨o, _, _, _, e, _⟩ := x; exact ⟨_, e⟩
  | ins C dx fs => obtain ⟨_, _, _, e, _⟩ := x; exact ⟨_, e⟩
  | own y => exact x
  | xd fs => obtain ⟨_, ⟨_, _, _, e, _⟩, _⟩ := x; exact ⟨_, e⟩
  | rng lo hi => obtain ⟨_, _, _, e⟩ := x; exact ⟨_, e⟩
  | frz ob u => exact ⟨_, x.1⟩
  | tbl ps => exact ⟨_, (show h.get? a = some _ from x)⟩
  | met f y => exact ⟨_, (show h.get? a = some _ from x)⟩
  | ext φ => exact x.2.1

/-! ### the callers' frames and a few records change, the rest stays -/
section
variable {h h' base : Heap} {l : List Env} {ch : List Addr} {H : Hp} {P : Program} {w : World}
theorem un_of_stays (st : (hideAll h (frs l ++ ch)).StaysIn h') (up : h.UpToSlots h') (ff : h.FunFrames base l) : Un (frs l) ch H H h h' where
  keep := fun b o e _ hb hc => st b o (hideAll_get _ e fun z => (List.mem_append.mp z).elim hb hc)
  slot := fun b o e _ hb _ => by
    obtain ⟨_, o', ho, hn⟩ := ff.mem hb
    rw [e] at ho
    cases ho
    exact up b o e hn
  free := fun _ _ _ n _ => n
  there := fun b o e hc => by
    by_cases hb : b ∈ frs l
    · obtain ⟨_, o', ho, hn⟩ := ff.mem hb
      rw [e] at ho
      cases ho
      obtain ⟨sl, q⟩ := up b o e hn
      exact ⟨_, q⟩
    · exact ⟨o, st b o (hideAll_get _ e fun z => (List.mem_append.mp z).elim hb hc)⟩
  tups := fun _ _ q => q
  frzs := fun _ _ _ q => q
  tbls := fun b ps q => ⟨#[], by simpa using q⟩
theorem hok_of_stays (ok : HOk P w H h) (st : (hideAll h (frs l ++ ch)).StaysIn h') (fr : ∀ b ∈ frs l, H b = none) (hc : ∀ b ∈ ch, H b = none) : HOk P w H h' := fun a o e =>
  (ok a o e).stay (fun b u hb q => st b u (hideAll_get _ q fun z => by
    have n : H b = none := (List.mem_append.mp z).elim (fr b) (hc b)
    rcases hb with rfl | hb
    · rw [n] at e; cases e
    · rw [n] at hb; cases hb)) (fun _ q => q) fun _ _ q => q
/-- two steps; what the second changes besides was not there before the first -/
theorem Un.up {fs fs' ex ch : List Addr} {H H1 H2 : Hp} {h h1 h2 : Heap} (a : Un fs ex H H1 h h1) (b : Un fs' ch H1 H2 h1 h2) (hf : ∀ c ∈ fs', c ∈ fs ∨ h.get? c = none) (hs : ∀ c ∈ fs, c ∈ fs') (hc : ∀ c ∈ ch, h.get? c = none) : Un fs ex H H2 h h2 where
  keep := fun c ob q n hcf hx => b.keep c ob (a.keep c ob q n hcf hx) (a.free c ob q n hx) (fun z => (hf c z).elim hcf fun z => by rw [q] at z; cases z) fun z => by have := hc c z; rw [q] at this; cases this
  slot := fun c ob q n hcf hx => by
    obtain ⟨sl, e1⟩ := a.slot c ob q n hcf hx
    obtain ⟨sl', e2⟩ := b.slot c _ e1 (a.free c ob q n hx) (hs c hcf) fun z => by have := hc c z; rw [q] at this; cases this
    exact ⟨sl', e2⟩
  free := fun c ob q n hx => by
    obtain ⟨o', e1⟩ := a.there c ob q hx
    exact b.free c o' e1 (a.free c ob q n hx) fun z => by have := hc c z; rw [q] at this; cases this
  there := fun c ob q hx => by
    obtain ⟨o', e1⟩ := a.there c ob q hx
    exact b.there c o' e1 fun z => by have := hc c z; rw [q] at this; cases this
  tups := fun c xs q => b.tups c xs (a.tups c xs q)
  frzs := fun c o u q => b.frzs c o u (a.frzs c o u q)
  tbls := fun c ps q => by
    obtain ⟨m1, e1⟩ := a.tbls c ps q
    obtain ⟨m2, e2⟩ := b.tbls c _ e1
    exact ⟨m1 ++ m2, by rw [e2, Array.append_assoc]⟩
end

/-! ### an exception in flight -/
def Exc (h : Heap) (x T : Addr) (cls : Value) : Prop :=
  ∃ oe vs oT ts a0, h.get? x = some oe ∧ (oe.cls = cls ∧ vs[0]? = some a0) ∧ oe.data = .fields vs ∧ vs[1]? = some (.ref T) ∧ T ≠ x ∧ h.get? T = some oT ∧ oT.data = .fields ts ∧ ts[3]? = some .none
theorem Exc.fly {h base : Heap} {l : List Env} {x T : Addr} {cls : Value} (e : Exc h x T cls) (ff : h.FunFrames base l) : ∃ a0, Heap.FlyingW (hideAll h (frs l ++ [x, T])) l x cls a0 h := by
  obtain ⟨oe, vs, oT, ts, a0, e1, e2, e3, e4, e5, e6, e7, e8⟩ := e
  refine ⟨a0, fun b o q => of_hideAll _ q, hideAll_none _ (by simp), funFrames_hide ff fun env he a ha => List.mem_append_left _ (List.mem_filterMap.mpr ⟨env, he, ha⟩), oe, vs, T, oT, ts, e1, e2, e3, e4, hideAll_none _ (by simp), e5, e6, e7, e8⟩
theorem exc_of {B h : Heap} {l : List Env} {x : Addr} {cls a0 : Value} (f : Heap.FlyingW B l x cls a0 h) : ∃ T, Exc h x T cls ∧ B.get? T = none := by
  obtain ⟨_, _, _, oe, vs, T, oT, ts, e1, e2, e3, e4, e5, e6, e7, e8, e9⟩ := f
  exact ⟨T, ⟨oe, vs, oT, ts, a0, e1, e2, e3, e4, e6, e7, e8, e9⟩, e5⟩
/-- the traceback is no caller's frame -/
theorem Exc.nofr {h h' base : Heap} {l : List Env} {x T : Addr} {cls : Value} (e : Exc h' x T cls) (up : h.UpToSlots h') (ff : h.FunFrames base l) : T ∉ frs l := fun z => by
  obtain ⟨oe, vs, oT, ts, a0, e1, e2, e3, e4, e5, e6, e7, e8⟩ := e
  obtain ⟨_, o', ho, hn⟩ := ff.mem z
  obtain ⟨sl, q⟩ := up T o' ho hn
  rw [e6] at q
  cases q
  exact hn ts e7

def CX1 (P : Program) (w : World) : CXT := fun outer H s E e s' => ∃ x T cls H', e = .ref x ∧ s'.os = s.os ∧ AllBare s'.gens ∧ Un (frs outer) [] H H' s.heap s'.heap ∧ HOk P w H' s'.heap ∧ Exc s'.heap x T cls ∧
  s.heap.get? x = none ∧ s.heap.get? T = none ∧ H' x = none ∧ H' T = none ∧ E cls none H'
theorem untracked {P : Program} {w : World} {H : Hp} {h : Heap} {a : Addr} (ok : HOk P w H h) (e : h.get? a = none) : H a = none := by
  cases q : H a with
  | none => rfl
  | some o => obtain ⟨ob, z⟩ := (ok a o q).there; rw [e] at z; cases z
theorem unseen {fs ex : List Addr} {H H' : Hp} {h h' : Heap} {a : Addr} (u : Un fs ex H H' h h') (hx : a ∉ ex) (e : h'.get? a = none) : h.get? a = none := by
  cases q : h.get? a with
  | none => rfl
  | some o => obtain ⟨o', z⟩ := u.there a o q hx; rw [e] at z; cases z
theorem hidden {h : Heap} {as : List Addr} {a : Addr} (e : (hideAll h as).get? a = none) (ha : a ∉ as) : h.get? a = none := by
  cases q : h.get? a with
  | none => rfl
  | some o => rw [hideAll_get _ q ha] at e; cases e

section
variable {P : Program} {w : World} {K : PySem.W.Frag} {mg : Str → Option Value} {base : Heap} {N : List Str} {qual : Str} {scope : Scope} {f : Addr} {cd : Value} {A : Around} {outer : List Env} {s : Shared} {H : Hp} {E : XK} {pins : List (Addr × Obj)} {σ : St} {H1 : Hp} {s2 : Shared}
/-- raised in a def's body: it leaves -/
theorem cx_made (I : Inv (cxOf (CX1 P w) P w K mg base N qual scope f cd A outer s H E) pins σ H1 s2) {h' : Heap} {e : Addr} {cls : Value} {vs : List Value} (hx : Heap.MadeExcOf s2.heap h' e cls vs) (hE : E cls none H1) :
    (cxOf (CX1 P w) P w K mg base N qual scope f cd A outer s H E).xe (.ref e) { s2 with heap := h' } := by
  have hst := I.stack
  have hfree := I.stkFree
  have hL : s.heap.get? s.heap.objs.size = none := by
    cases q : s.heap.get? s.heap.objs.size with
    | none => rfl
    | some o => exact absurd (Heap.lt_size q) (Nat.lt_irrefl _)
  refine wpAny_leaves_madeW (base := hideAll s2.heap (frs (envOfC qual scope s.heap.objs.size f cd :: outer) ++ [])) (h := s2.heap) I.ok.frames rfl (fun b o q => of_hideAll _ q) (funFrames_hide hst fun env he a ha => List.mem_append_left _ (List.mem_filterMap.mpr ⟨env, he, ha⟩)) hx fun h'' t fl _ _ up => ?_
  have up2 : s2.heap.UpToSlots h'' := (Heap.UpToSlots.of_keeps hx.keeps).trans up
  obtain ⟨T, ex, hT⟩ := exc_of fl
  have hT2 : s2.heap.get? T = none := hidden hT fun z => ex.nofr up2 hst (by rw [List.append_nil] at z; exact z)
  have U : Un (frs (envOfC qual scope s.heap.objs.size f cd :: outer)) [] H1 H1 s2.heap h'' := un_of_stays fl.1 up2 hst
  have UU : Un (frs outer) [] H H1 s.heap h'' := Un.up I.base U (fun c hc => by
    have hc' : c ∈ s.heap.objs.size :: frs outer := hc
    rcases List.mem_cons.mp hc' with z | z
    · exact .inr (by rw [z]; exact hL)
    · exact .inl z) (fun c hc => List.mem_cons_of_mem _ hc) (fun c hc => absurd hc (by simp))
  refine ⟨e, T, cls, H1, rfl, I.os, I.bare, UU, hok_of_stays I.hok fl.1 hfree (fun b hb => absurd hb (by simp)), ex, unseen I.base (by show e ∉ ([] : List Addr); simp) hx.new, unseen I.base (by show T ∉ ([] : List Addr); simp) hT2, untracked I.hok hx.new, untracked I.hok hT2, hE⟩
end

/-- an exception of a callee leaves this body too -/
theorem cx_pass {P : Program} {w : World} {K : PySem.W.Frag} {mg : Str → Option Value} {base : Heap} {N : List Str} {qual : Str} {scope : Scope} {f : Addr} {cd : Value} {A : Around} {outer : List Env} {s : Shared} {H : Hp} {E : XK} :
    Passes (CX1 P w) (cxOf (CX1 P w) P w K mg base N qual scope f cd A outer s H E) E := by
  intro pins σ H1 s1 e s' I h
  obtain ⟨x, T, cls, H', rfl, os, bare, U, ok, ex, nx, nT, hx, hT, hE⟩ := h
  have J : Inv (cxOf (CX1 P w) P w K mg base N qual scope f cd A outer s H E) pins σ H' s' := I.call' os U ok bare fun b z => absurd z (by simp)
  have hL : s.heap.get? s.heap.objs.size = none := by
    cases q : s.heap.get? s.heap.objs.size with
    | none => rfl
    | some o => exact absurd (Heap.lt_size q) (Nat.lt_irrefl _)
  obtain ⟨a0, fl⟩ := ex.fly J.stack
  refine wpAny_leaves_onW (L := s.heap.objs.size) J.ok.frames rfl fl fun h'' fl' up => ?_
  obtain ⟨T', ex', hT'⟩ := exc_of fl'
  have nofr := ex'.nofr up J.stack
  have bx : s.heap.get? x = none := unseen I.base (by show x ∉ ([] : List Addr); simp) nx
  have bT : s.heap.get? T = none := unseen I.base (by show T ∉ ([] : List Addr); simp) nT
  have hTT : s.heap.get? T' = none ∧ H' T' = none := by
    by_cases z : T' ∈ [x, T]
    · rcases List.mem_cons.mp z with rfl | z
      · exact ⟨bx, hx⟩
      · rw [List.mem_singleton.mp z]; exact ⟨bT, hT⟩
    · have q := hidden hT' fun y => (List.mem_append.mp y).elim nofr z
      exact ⟨unseen J.base (by show T' ∉ ([] : List Addr); simp) q, untracked J.hok q⟩
  have U2 := un_of_stays (H := H') fl'.1 up J.stack
  have UU : Un (frs outer) [] H H' s.heap h'' := Un.up J.base U2 (fun c hc => by
    have hc' : c ∈ s.heap.objs.size :: frs outer := hc
    rcases List.mem_cons.mp hc' with z | z
    · exact .inr (by rw [z]; exact hL)
    · exact .inl z) (fun c hc => List.mem_cons_of_mem _ hc) (fun c hc => by
      rcases List.mem_cons.mp hc with rfl | z
      · exact bx
      · rw [List.mem_singleton.mp z]; exact bT)
  refine ⟨x, T', cls, H', rfl, J.os, J.bare, UU, hok_of_stays J.hok fl'.1 J.stkFree (fun b hb => ?_), ex', bx, hTT.1, hx, hTT.2, hE⟩
  rcases List.mem_cons.mp hb with rfl | z
  · exact hx
  · rw [List.mem_singleton.mp z]; exact hT

/-! ### f'..{x}' of a text -/
section
variable {X : Cx}
def tF2 (t1 tv : TE) : TE := fun σ H Q => t1 σ H fun x H1 => ∃ z, x = .str z ∧ z.length ≤ sizeLine ∧ tv σ H1 fun y H2 => ∃ u, y = .str u ∧ u.length ≤ sizeLine ∧ (z ++ u).length ≤ sizeLine ∧ Q (.str (z ++ u)) H2
theorem pe_fstr2 {e1 v : Expr} {t1 tv : TE} {p2 pos : Pos} (h1 : PE X e1 t1) (hv : PE X v tv) : PE X (.JoinedStr [e1, .FormattedValue v (-1) none p2] pos) (tF2 t1 tv) := by
  intro pins s σ H Q I h
  refine PyProof.Rows.JoinedStr_many (PyProof.Rows.joinParts_cons (thn (h1 pins s σ H _ I h) fun a s1 ⟨x, H1, I1, r1, q1⟩ => ?_))
  obtain ⟨z, rfl, hz, q1⟩ := q1
  obtain ⟨tk, rfl⟩ := r1
  have e0 : Str.empty ++ z = z := by
    cases z with
    | mk c => show (⟨#[] ++ c⟩ : Str) = _; rw [Array.empty_append]
  show (Str.empty ++ z).length ≤ sizeLine ∧ _
  rw [e0]
  refine ⟨hz, PyProof.Rows.joinParts_cons (PyProof.Rows.FormattedValue_plain (thn (hv pins s1 σ H1 _ I1 q1) fun b s2 ⟨y, H2, I2, r2, q2⟩ => ?_))⟩
  obtain ⟨u, rfl, hu, hzu, q2⟩ := q2
  obtain ⟨tk2, rfl⟩ := r2
  refine PyProof.Rows.formatField_str (fun t' tk' => ?_) hu
  refine ⟨hzu, PyProof.Rows.joinParts_nil ?_ hzu⟩
  exact ⟨.str (z ++ u), H2, (I2.tok tk').tok (tk' + 1), ⟨_, rfl⟩, q2⟩
end

/-! ### raise C(..) -/
section
variable {X : Cx}
def Lands (X : Cx) (E : XK) : Prop := ∀ (pins : List (Addr × Obj)) (σ : St) (H : Hp) (s : Shared) (h' : Heap) (e : Addr) (cls : Value) (vs : List Value), Inv X pins σ H s → Heap.MadeExcOf s.heap h' e cls vs → E cls none H → X.xe (.ref e) { s with heap := h' }
theorem cx_lands {P : Program} {w : World} {K : PySem.W.Frag} {mg : Str → Option Value} {base : Heap} {N : List Str} {qual : Str} {scope : Scope} {f : Addr} {cd : Value} {A : Around} {outer : List Env} {s : Shared} {H : Hp} {E : XK} :
    Lands (cxOf (CX1 P w) P w K mg base N qual scope f cd A outer s H E) E := fun _ _ _ _ _ _ _ _ I hx hE => cx_made I hx hE
/-- an own exception's class, out of the written part -/
theorem exc_cls {K : PySem.W.Frag} {h : Heap} {C : Addr} {bmB : List Value} {newId : String} (Y : K.In h) (q : excIn K C bmB newId = true) :
    ∃ bm N nm qn bs hdct sn sub ab col dd k0 k1 k2 k3 k5 mN, K.lookup C = some (excClassObj nm qn C N bs bm hdct sn sub ab col dd k0 k1 k2 k3 k5 newId) ∧ h.get? C = some (excClassObj nm qn C N bs bm hdct sn sub ab col dd k0 k1 k2 k3 k5 newId) ∧ h.Ns N mN ∧ mN "__init__" = none ∧ OwnTail h bmB bm := by
  unfold excIn at q
  split at q
  case h_2 => cases q
  case h_1 dd cd sl ho =>
    split at q
    case h_2 => cases q
    case h_1 C' bm k0 k1 k2 k3 n k5 hm hs =>
      rw [Bool.and_eq_true, Bool.and_eq_true, Bool.and_eq_true, Bool.and_eq_true, Bool.and_eq_true] at q
      simp only [beq_iff_eq, Bool.not_eq_true'] at q
      obtain ⟨nm, bs, mr, ns, qn, hd, sn, sub, ab, col, dl⟩ := cd
      obtain ⟨l⟩ := sl
      dsimp only at hm hs q
      obtain ⟨⟨⟨⟨⟨q1, q2⟩, q3⟩, q4⟩, q5⟩, q6⟩ := q
      subst q1 q2 q3 hm hs
      exact ⟨bm, ns, nm, qn, bs, hd, sn, sub, ab, col, dd, k0, k1, k2, k3, k5, _, ho, Y _ _ ho, .of_isNs (isNs_of_in Y q5), nsMap_none_of_in Y q5 q6, tail_of_in Y q4⟩
def tRaise (C : Addr) (E : XK) (ta : TA) : TS := fun _ σ H => ta σ H fun vs H1 => vs.length ≤ sizeLine ∧ E (.ref C) none H1
theorem ps_raise {E : XK} {x : Str} {C : Addr} {np cpos pos : Pos} {e₀ : Expr} {rest : List Expr} {ta : TA} {B Bn newId nid initId inN : String} {bm bmN : List Value} (L : Lands X E) (hc : X.calm = true) (hg : Gl X x) (hm : X.mg x = some (.ref C)) (q : excIn X.K C bm newId = true)
    (Fn : ExcBaseFacts Bn newId inN bmN) (hBn : bm.contains (.type Bn) = true) (FB : ExcBaseFacts B nid initId bm) (ha : PA X (e₀ :: rest) ta)
    (he : starEach (e₀ :: rest) X.env = (false, eval e₀ X.env) :: starEach rest X.env := by rfl) (hpl : (backTo cpos (starEach rest X.env)).any (·.1) = false := by rfl) (hdb : (x == ("__debug__" : Str)) = false := by decide) :
    PS X (.Raise (some (.Call (.Name x np) (e₀ :: rest) [] cpos)) none pos) (tRaise C E ta) := by
  intro pins s σ H D I h
  obtain ⟨tl, N, nm, qn, bs, hdct, sn, sub, ab, col, dd, k0, k1, k2, k3, k5, mN, hK, _, hN, hni, T⟩ := exc_cls I.mod.kin q
  refine wpAny_Raise_call_subU (C := C) (nm := nm) (q := qn) (N := N) (bs := bs) (bm := tl) (hdct := hdct) (sn := sn) (sub := sub) (ab := ab) (col := col) (dd := dd) (k0 := k0) (k1 := k1) (k2 := k2) (k3 := k3) (k5 := k5)
    Fn hBn FB (mN := mN) (T.hasType FB.hasBase) (I.ok.hd hc) (by rw [he]; show (false || (backTo cpos (starEach rest X.env)).any (·.1)) = false; rw [hpl]; rfl) hni (ld_glob I hg hm ⟨rfl, ?_⟩ hdb)
  have hA := ha cpos pins s σ H _ I h
  rw [he] at hA ⊢
  refine Calls.evalArgs_plain (thn hA fun us s1 ⟨vs, H1, I1, r1, q1⟩ => ?_)
  refine ⟨rfl, by show us.length ≤ sizeLine; rw [← r1.length]; exact q1.1, I1.kIn _ _ hK, hN.keeps I1.bk, T.keeps I1.bk, fun h' e hx => L pins σ H1 s1 h' e _ _ I1 hx q1.2⟩
end

theorem Fun.okX {P : Program} {w : World} {K : PySem.W.Frag} {mg : Str → Option Value} {base : Heap} {x qual : Str} {st : Stmt} {f : Addr} {fd : FuncData} {N ps : List Str} {k : Nat} {sp : Sp} (F : Fun K x qual st f fd) (S : FnScope N ps (defScope st)) (len : ∀ vs H Q E, sp vs H Q E → vs.length = ps.length)
    (hbody : ∀ (cdv : Value) (A : Around) (outer : List Env) (s : Shared) (H : Hp) (vs : List V) (Q : VK) (E : XK), Room k (A.deeper (envOfC qual (defScope st) s.heap.objs.size f cdv)) → sp vs H Q E →
      ∃ t, PSs (cxOf (CX1 P w) P w K mg base N qual (defScope st) f cdv A outer s H E) (defBody st) t ∧ t { nx := fun _ H' => Q .non H', rt := Q } (start N vs) H) : FnOk P w K mg base (CX1 P w) (k + 1) f fd ps sp := by
  obtain ⟨oc, od, kV, doc, pm, an, cdv, ct, osl, rfl, lk, hcd⟩ := F.ex
  exact fn_of lk hcd S len fun A outer s H vs Q E hr hsp => hbody cdv A outer s H vs Q E hr hsp

/-! ### expressions and bodies that may raise -/
def XPost (X : Cx) (pins : List (Addr × Obj)) (σ : St) (EX : Value → Hp → Prop) (e : Value) (s' : Shared) : Prop := ∃ H1 s1, Inv X pins σ H1 s1 ∧ CX1 X.prog X.w X.stack H1 s1 (fun cls _ H' => EX cls H') e s'
def PEx (X : Cx) (e : Expr) (t : St → Hp → VK → (Value → Hp → Prop) → Prop) : Prop :=
  ∀ (pins : List (Addr × Obj)) (s : Shared) (σ : St) (H : Hp) (Q : VK) (EX : Value → Hp → Prop), Inv X pins σ H s → t σ H Q EX → wpAny (model X.prog X.w) X.A (eval e X.env) (EP X pins σ Q) (XPost X pins σ EX) s
def PSx (X : Cx) (body : List Stmt) (t : Ends → St → Hp → (Value → Hp → Prop) → Prop) : Prop :=
  ∀ (pins : List (Addr × Obj)) (s : Shared) (σ : St) (H : Hp) (D : Ends) (EX : Value → Hp → Prop), Inv X pins σ H s → t D σ H EX → wpAny (model X.prog X.w) X.A (execs body X.env) (SP X pins D) (XPost X pins σ EX) s
section
variable {X : Cx} {k : Nat} {f : Addr} {fd : FuncData} {ps : List Str} {sp : Sp} {x : Str} {p pos apos : Pos} {e : Expr} {es : List Expr} {ta : TA} {t : St → Hp → VK → (Value → Hp → Prop) → Prop}
theorem pex_call (F : FnOk X.prog X.w X.K X.mg X.base (CX1 X.prog X.w) k f fd ps sp) (hr : Room k X.A) (hno : ∀ e s, ¬ X.xe e s) (hg : Gl X x) (hm : X.mg x = some (.ref f)) (hk : PySem.W.keepIn X.K (.ref f) = true) (hb : Binds X.K fd ps [])
    (ha : PA X (e :: es) ta) (hdb : (x == ("__debug__" : Str)) = false := by decide) (he : starEach (e :: es) X.env = (false, eval e X.env) :: starEach es X.env := by rfl) (hpl : (backTo pos (starEach es X.env)).any (·.1) = false := by rfl) :
    PEx X (.Call (.Name x p) (e :: es) [] pos) (fun σ H Q EX => ta σ H fun vs H1 => sp vs H1 Q fun cls _ H' => EX cls H') := by
  intro pins s σ H Q EX I h
  refine wpAny_Call_Name_kw (ld_glob I hg hm ?_ hdb)
  refine PySem.W.callWith_K (h₀ := X.base) I.ok.mod.kin hk (wpAny_mono (ha pos pins s σ H _ I h) (fun us s1 ⟨vs, H1, I1, r, q⟩ => ⟨I1.kIn, ?_⟩) (fun e s z => (hno e s z).elim)) he hpl
  have hl : us.length = ps.length := by rw [← r.length]; exact F.len _ _ _ _ q
  have hB := hb s1 us I1.kIn (by rw [List.append_nil]; exact hl)
  rw [List.append_nil] at hB
  refine wpAny_call (codeAny_mono (F.run X.A X.stack s1 H1 ⟨us, []⟩ us vs Q _ hr I1.env0 hB r q) fun rr s' hq => ?_)
  cases rr with
  | error e => exact ⟨H1, s1, I1, hq⟩
  | ok fl =>
    cases fl with
    | ret u => exact I1.after hq
    | next => exact False.elim hq
    | brk => exact False.elim hq
    | cont => exact False.elim hq
theorem psx_expr (he : PEx X e t) (hs : swapsWith e none pos.line X.env = pure false := by rfl) : PSx X [.Expr e pos] (fun D σ H EX => t σ H (fun _ H1 => D.nx σ H1) EX) := by
  intro pins s σ H D EX I h
  refine wpAny_execs_cons (wpAny_Expr_any (wpAny_mono (he pins s σ H _ EX I h) (fun v s1 ⟨x, H1, I1, r1, q1⟩ => ?_) fun _ _ z => z) I.quiet hs)
  exact wpAny_execs_nil ⟨σ, H1, I1, q1⟩
end

/-! ### within a handler -/
abbrev Cx.caught (X : Cx) (e : Addr) : Cx := { X with A := X.A.mark (some (.ref e)), calm := false }
theorem Cx.Ok.caught {X : Cx} (ok : X.Ok) (e : Addr) : (X.caught e).Ok :=
  ⟨ok.mod, ok.kind, ok.glob, ok.blt, ok.above, ok.inj, ok.has, ok.cab, (fun z => nomatch z), ok.frames, ok.stk, ok.exf, ok.bs, ok.bsz, ok.noex, ok.exfs, ok.funs, ok.frf⟩
theorem Inv.caught {X : Cx} {pins : List (Addr × Obj)} {σ : St} {H : Hp} {s : Shared} (I : Inv X pins σ H s) (e : Addr) : Inv (X.caught e) pins σ H s := ⟨I.ok.caught e, I.os, I.bare, I.base, I.loc, I.cell, I.free, I.freeC, I.pin, I.hok, I.len⟩
theorem Inv.uncaught {X : Cx} {pins : List (Addr × Obj)} {σ : St} {H : Hp} {s : Shared} {e : Addr} (ok : X.Ok) (I : Inv (X.caught e) pins σ H s) : Inv X pins σ H s := ⟨ok, I.os, I.bare, I.base, I.loc, I.cell, I.free, I.freeC, I.pin, I.hok, I.len⟩

/-- the class in the handler takes this exception -/
def Takes (P : Program) (w : World) (K : PySem.W.Frag) (D : Addr) (cls : Value) : Prop := ∀ (s : Shared) (x : Addr) (oe : Obj) (A : Around) (Q : Bool → Shared → Prop) (E : Value → Shared → Prop), K.In s.heap → s.heap.get? x = some oe → oe.cls = cls → Q true s → wpAny (model P w) A (excMatches (.ref x) (.ref D)) Q E s
theorem takes_self {P : Program} {w : World} {K : PySem.W.Frag} {C : Addr} {bmB : List Value} {newId : String} (q : excIn K C bmB newId = true) (hb : bmB.contains (.type "BaseException") = true) : Takes P w K C (.ref C) := by
  intro s x oe A Q E Y ho hc h
  obtain ⟨bm, N, nm, qn, bs, hdct, sn, sub, ab, col, dd, k0, k1, k2, k3, k5, mN, _, hC, hN, hni, T⟩ := exc_cls Y q
  obtain ⟨hh, g, d, tk, os⟩ := s
  exact wpAny_excMatches_sub_self hC ho hc (T.hasType hb) h

section
variable {X : Cx} {body : List Stmt} {t : Ends → St → Hp → (Value → Hp → Prop) → Prop} {z : Str} {zp hp pos : Pos} {D0 : Addr} {b₀ : Stmt} {suite : List Stmt} {tb : TS}
/-- at the handler's door -/
theorem inv_door {pins : List (Addr × Obj)} {σ : St} {H H' : Hp} {s s' : Shared} {x T : Addr} {h'' : Heap} (I : Inv X pins σ H s) (os : s'.os = s.os) (bare : AllBare s'.gens) (U : Un (frs X.stack) [] H H' s.heap s'.heap) (ok : HOk X.prog X.w H' s'.heap)
    (nx : s.heap.get? x = none) (nT : s.heap.get? T = none) (hx : H' x = none) (hT : H' T = none) (st : (hideAll s'.heap (frs X.stack ++ [x, T])).StaysIn h'') (up : s'.heap.UpToSlots h'') : Inv X pins σ H' { s' with heap := h'' } := by
  have J : Inv X pins σ H' s' := I.call' os U ok bare fun b z => absurd z (by simp)
  have two : ∀ (Pp : Addr → Prop), Pp x → Pp T → ∀ b ∈ [x, T], Pp b := fun Pp h1 h2 b hb => by
    rcases List.mem_cons.mp hb with rfl | z
    · exact h1
    · rw [List.mem_singleton.mp z]; exact h2
  exact I.call' (s' := { s' with heap := h'' }) (ch := []) os (Un.up U (un_of_stays st up J.stack) (fun c hc => .inl hc) (fun c hc => hc) (two (fun c => s.heap.get? c = none) nx nT)) (hok_of_stays ok st J.stkFree (two (fun c => H' c = none) hx hT)) bare fun b z => absurd z (by simp)
def tTry (X : Cx) (hit : Value → Prop) (t : Ends → St → Hp → (Value → Hp → Prop) → Prop) (tb : TS) : TS := fun D σ H => t D σ H fun cls H' => hit cls ∧ tb D σ H'
theorem ps_try {hit : Value → Prop} (hS : X.stack = X.env :: X.outer) (hF : X.env.frame = some X.env.locals) (hb : PSx X body t) (hg : Gl X z) (hm : X.mg z = some (.ref D0)) (hhit : ∀ cls, hit cls → Takes X.prog X.w X.K D0 cls)
    (hs : ∀ x, PSs (X.caught x).nox (b₀ :: suite) tb) (hd : (z == ("__debug__" : Str)) = false := by decide) : PS X (.Try body [.ExceptHandler (some (.Name z zp)) none (b₀ :: suite) hp] [] [] pos) (tTry X hit t tb) := by
  intro pins s σ H D I h
  refine wpAny_Try_except (wpAny_mono (hb pins s σ H D _ I h) (fun f s1 q => ?_) fun e s' q => ?_)
  · cases f with
    | next => exact wpAny_execs_nil q
    | brk => exact q
    | cont => exact q
    | ret v => exact q
  obtain ⟨H1, s1, I1, x, T, cls, H', rfl, os, bare, U, ok, ex, nx, nT, hx, hT, hE⟩ := q
  have J : Inv X pins σ H' s' := I1.call' os U ok bare fun b z => absurd z (by simp)
  obtain ⟨a0, fl⟩ := ex.fly J.stack
  have fl2 := fl
  rw [hS] at fl2
  refine wpAny_looks_onW (by rw [I.ok.frames, hS]) hF fl2 fun h4 held up4 => ?_
  refine wpAny_landsW held fun h5 fl5 up5 => ?_
  have st5 := fl5.1
  rw [← hS] at st5
  have J5 : Inv X pins σ H' { s' with heap := h5 } := inv_door I1 os bare U ok nx nT hx hT st5 (up4.trans up5)
  refine wpAny_handleBy_cons (codeAny_handlers_test (ld_glob (J5.caught x) hg hm ?_ hd)) (by intro q; cases q)
  obtain ⟨ob, hob, hobc⟩ := fl5.there
  refine hhit cls hE.1 _ x ob _ _ _ J5.kIn hob hobc ?_
  refine codeAny_handlers_suite (lands_againW fl5 fun h6 fl6 up6 => ?_)
  have st6 := fl6.1
  rw [← hS] at st6
  have J6 : Inv X pins σ H' { s' with heap := h6 } := inv_door I1 os bare U ok nx nT hx hT st6 ((up4.trans up5).trans up6)
  refine wpAny_mono (hs x pins _ σ H' D ((J6.caught x).wish _) hE.2) (fun f s7 q => ?_) fun _ _ z => z.elim
  cases f with
  | next => obtain ⟨a, b, c, d⟩ := q; exact ⟨a, b, Inv.uncaught I.ok c.unwish, d⟩
  | brk => obtain ⟨a, b, c, d⟩ := q; exact ⟨a, b, Inv.uncaught I.ok c.unwish, d⟩
  | cont => obtain ⟨a, b, c, d⟩ := q; exact ⟨a, b, Inv.uncaught I.ok c.unwish, d⟩
  | ret v => obtain ⟨a, b, c, d, r, e⟩ := q; exact ⟨a, b, c, Inv.uncaught I.ok d.unwish, r, e⟩
end
end L2

set_option Elab.async false
set_option linter.all false
set_option maxRecDepth 100000
set_option maxHeartbeats 4000000
namespace L2
open PySem PySem.Spec PyProof.Rows PySem.W

/-- what the written part says of an own exception's class, as far as isinstance asks -/
structure ExcAsk (K : PySem.W.Frag) (D : Addr) : Prop where
  ga : findIn K (.ref D) "__getattribute__" = some (some (.builtin "BaseException.__getattribute__"))
  gt : findIn K (.ref D) "__getattr__" = some none
  cl : findIn K (.ref D) "__class__" = some (some (.builtin "object.__class__"))
  hn : specialIn K (.builtin "object.__class__") "__get__" = some (some (.builtin "getset_descriptor.__get__"))
  tk : takesIn K (.builtin "object.__class__") = some true
  mo : mroIn K D (.type "object") = some true
  mb : mroIn K D (.type "BaseException") = some true
  cd : (clsIn K D).isSome = true

section
variable {prog : Program} {w : World} {A : Around} {E : Value → Shared → Prop} {K : PySem.W.Frag} {x D : Addr}
def IsA (h : Heap) (x D : Addr) : Prop := ∃ ox, h.get? x = some ox ∧ ox.cls = .ref D
theorem IsA.type {M : Model} {h : Heap} (I : IsA h x D) : Looks M h (typeOf (.ref x)) (.ref D) := by
  obtain ⟨ox, e, c⟩ := I
  exact c ▸ (Looks.ld e).andThen .now
theorem exc_class_get {s : Shared} {tp : Value} {R : Result → Shared → Prop} (Y : K.In s.heap) (I : IsA s.heap x D) (mo : mroIn K D (.type "object") = some true) (hq : R (.ok (.ret (.ref D))) s) :
    codeAny (model prog w) A (.call (.builtin "getset_descriptor.__get__") ⟨[.builtin "object.__class__", .ref x, tp], []⟩) R s := by
  obtain ⟨p1, p2, p3, p4, p5⟩ := s
  have T0 := I.type (M := model prog w)
  have T1 := looks_mroIn (M := model prog w) Y mo
  refine codeAny_call_builtin KF.slot_gs.plain
    KF.entry_gs (KF.slot_gs.check _ _ _ _ _ _ _ _
      KF.type_class (KF.args_gs _ _ _) ?_)
  unfold Builtin.«getset_descriptor.__get__»
  unfold Builtin.Getset_descriptor.descrGet
  rw [dga_obj]
  refine wpAny_bind (wpAny_pure ?_)
  unfold Builtin.Getset_descriptor.descrGetter Builtin.Getset_descriptor.descrCheckInstance
  unfold Builtin.Getset_descriptor.descrNameAndClass isInstance
  simp only [KF.owner_class]
  repeat lk
  refine ⟨Code.quiet_builtin _ (by decide +kernel),
    codeAny_builtin KF.entry_class ?_⟩
  unfold Builtin.«object.__class__»
  unfold shownTypeOf
  repeat lk
  exact hq
theorem exc_class_entry {h : Heap} {g : Array GenState} {d : Drawn} {t : Nat} {os : OsState} {tk : Tok} {Q : Fin → Shared → Prop} (a : ExcAsk K D) (Y : K.In h) (I : IsA h x D) (hq : Q (.done (.ret (.ref D))) ⟨h, g, d, t, os⟩) :
    wpAny (model prog w) A (Builtin.«object.__getattribute__» ⟨[.ref x, .str "__class__" tk], []⟩) Q E ⟨h, g, d, t, os⟩ := by
  have L0 := I.type (M := model prog w)
  have L1 := looks_findIn (M := model prog w) Y a.cl
  have L2 := looks_specialIn (M := model prog w) Y a.hn
  have L3 := looks_takesIn (M := model prog w) Y a.tk
  unfold Builtin.«object.__getattribute__»
  repeat lk
  refine wpAny_run (exc_class_get (s := ⟨h, g, d, t, os⟩) Y I a.mo ?_)
  exact wpAny_pure (wpAny_pure hq)
theorem exc_check {M : Model} {h : Heap} {g : Array GenState} {d : Drawn} {t : Nat} {os : OsState} {v : Value} {Q : Unit → Shared → Prop} (a : ExcAsk K D) (Y : K.In h) (I : IsA h x D) (hq : Q () ⟨h, g, d, t, os⟩) :
    wpAny M A (checkBuiltinCall "BaseException.__getattribute__" ⟨[.ref x, v], []⟩) Q E ⟨h, g, d, t, os⟩ := by
  have L0 := I.type (M := M)
  have L1 := looks_mroIn (M := M) Y a.mb
  have u1 : builtinKind "BaseException.__getattribute__" = some .slot := by decide +kernel
  have u2 : splitId "BaseException.__getattribute__" = some ("BaseException", "__getattribute__") := by decide +kernel
  have u3 := F.args_bexc_ga (.ref x) v
  simp only [checkBuiltinCall, u1, u2]
  refine wpAny_bind ?_
  · unfold isInstance
    repeat (first | (with_reducible refine L0.at ?_) | (with_reducible refine L1.at ?_) | wp_step)
    exact hq
theorem exc_class_call {h : Heap} {g : Array GenState} {d : Drawn} {t : Nat} {os : OsState} {tk : Tok} {R : Result → Shared → Prop} (a : ExcAsk K D) (Y : K.In h) (I : IsA h x D) (hq : R (.ok (.ret (.ref D))) ⟨h, g, d, t, os⟩) :
    codeAny (model prog w) A (.call (.builtin "BaseException.__getattribute__") ⟨[.ref x, .str "__class__" tk], []⟩) R ⟨h, g, d, t, os⟩ :=
  codeAny_call_builtin F.attrBase_ValueError.ga.plain F.entry_bexc_ga (exc_check a Y I (exc_class_entry a Y I hq))
theorem exc_class_by {h : Heap} {g : Array GenState} {d : Drawn} {t : Nat} {os : OsState} {tk : Tok} {fill expr : Bool} {Q : Value → Shared → Prop} (a : ExcAsk K D) (Y : K.In h) (I : IsA h x D) (hq : Q (.ref D) ⟨h, g, d, t, os⟩) :
    wpAny (model prog w) A (getAttrBy (.ref x) (.str "__class__" tk) fill expr) Q E ⟨h, g, d, t, os⟩ := by
  have f3 := F.attrBase_ValueError.ga.bind (.ref x)
  have u0 : (expr && onTheHeap (Value.builtin "BaseException.__getattribute__")) = false := by cases expr <;> rfl
  have u2 : (Value.builtin "BaseException.__getattribute__" == Value.builtin "object.__getattribute__") = false := by decide +kernel
  have u1 : (onTheHeap (Value.ref D) && Value.builtin "BaseException.__getattribute__" == Value.builtin "object.__getattribute__") = false := by rw [u2]; rfl
  have L0 := I.type (M := model prog w)
  have L1 := looks_findIn (M := model prog w) Y a.ga
  have L2 := looks_findIn (M := model prog w) Y a.gt
  repeat (any_goals (first | assumption | (with_reducible refine L0.at ?_) | (with_reducible refine L1.at ?_) | (with_reducible refine L2.at ?_) | wp_step))
  refine exc_class_call a Y I ?_
  repeat (any_goals (first | assumption | wp_step))
theorem exc_class_attr {s : Shared} {Q : Option Value → Shared → Prop} (a : ExcAsk K D) (Y : K.In s.heap) (I : IsA s.heap x D) (hq : Q (some (.ref D)) { s with toks := s.toks + 1 }) :
    wpAny (model prog w) A (getAttr? (.ref x) "__class__") Q E s := by
  obtain ⟨h, g, d, t, os⟩ := s
  unfold getAttr? getAttrBy?
  repeat (any_goals (first | assumption | with_reducible apply exc_class_by a Y I | wp_step))
/-- the kit that isinstance asks for -/
theorem kitx_exc (a : ExcAsk K D) : KitX K (.ref x) (.ref D) (fun h => IsA h x D) where
  ty := fun _ _ _ I => I.type
  it := fun _ h Y _ => by
    have q := a.cd
    unfold clsIn at q
    split at q
    · rename_i ho
      intro A' Q' E' s' k z
      unfold isType loadHead
      exact wpAny_bind (wpAny_loadPart (k _ _ (Y _ _ ho)) (wpAny_pure z))
    · cases q
  ne := fun h tp dd its n sl Y htp => by
    have q := a.cd
    refine Bool.eq_false_iff.mpr fun z => ?_
    have e : D = tp := Value.ref.inj (beq_iff_eq.mp z)
    subst e
    unfold clsIn at q
    split at q
    · rename_i ho
      cases (Y _ _ ho).symm.trans htp
    · cases q
  ca := fun Y I k => exc_class_attr a Y I k
end

/-! ### isinstance of a caught exception -/
section
variable {X : Cx}
def rIsiX (X : Cx) : List V → Hp → VK → Prop := fun xs H Q => ∃ x ox D v c b, xs = [.ref x, v] ∧ (x, ox) ∈ X.pn ∧ ox.cls = .ref D ∧ ((∃ C, v = .ref C ∧ c = Value.ref C) ∨ ∃ n, v = .ty n ∧ c = Value.type n) ∧ ExcAsk X.K D ∧ kitOne X.K (.ref D) c = some b ∧ Q (.bl b) H
theorem call_isiX : CallR X (.builtin "isinstance") (rIsiX X) := by
  intro pins s σ H xs us Q I r h
  obtain ⟨x, ox, D, v, c, b, rfl, hp, hc, hv, a, e, q⟩ := h
  obtain ⟨u, w', rfl, r1, r2⟩ := vals2 r
  cases (show u = Value.ref x from r1)
  have hw : w' = c := by
    rcases hv with ⟨C, rfl, rfl⟩ | ⟨n, rfl, rfl⟩
    · exact r2
    · exact r2
  subst hw
  exact kia_one (kitx_exc a) I.kIn ⟨ox, (I.pin _ (List.mem_append_left _ hp)).1, hc⟩ e (fun z => nomatch z) fun tk => ⟨.bl b, H, I.tok tk, rfl, q⟩
end

end L2

set_option Elab.async false
set_option linter.all false
set_option maxRecDepth 100000
set_option maxHeartbeats 400000
namespace L2
open PySem PySem.Spec PyProof.Rows PySem.W
/-! ### except D as e -/


section
variable {X : Cx} {body : List Stmt} {t : Ends → St → Hp → (Value → Hp → Prop) → Prop} {z n : Str} {zp hp pos : Pos} {D0 : Addr} {b₀ : Stmt} {suite : List Stmt} {tb : Addr → Obj → TS} {i : Nat}
end
end L2

set_option linter.all false
namespace J
open PySem L2
def veB : List Value := [.type "ValueError", .type "Exception", .type "BaseException", .type "object"]
end J

set_option Elab.async false
set_option linter.all false
set_option maxRecDepth 100000
set_option maxHeartbeats 4000000
namespace L2
open PySem PySem.Spec PyProof.Rows PySem.W
/-- where nothing is raised -/
theorem FnOk.calm {P : Program} {w : World} {K : PySem.W.Frag} {mg : Str → Option Value} {base : Heap} {k : Nat} {f : Addr} {fd : FuncData} {ps : List Str} {sp sp0 : Sp} (F : FnOk P w K mg base (CX1 P w) k f fd ps sp)
    (h : ∀ vs H Q E, sp0 vs H Q E → sp vs H Q fun _ _ _ => False) : FnOk P w K mg base CX0 k f fd ps sp0 :=
  ⟨fun vs H Q E q => F.len vs H Q _ (h _ _ _ _ q), fun A outer s H args us vs Q E hr he hb hv hs => codeAny_mono (F.run A outer s H args us vs Q _ hr he hb hv (h _ _ _ _ hs)) fun r s' hq => by
    cases r with
    | error e => obtain ⟨_, _, _, _, _, _, _, _, _, _, _, _, _, _, z⟩ := hq; exact z.elim
    | ok fl => cases fl <;> exact hq⟩
end L2
namespace J
open PySem L2
theorem inV_of {x : Str} : ∀ {ns : List Str}, inV (.str x) (ns.map V.str) = true → x ∈ ns
  | [], h => by cases h
  | y :: ns, h => by
    have h' : (eqV (.str y) (.str x) || inV (.str x) (ns.map V.str)) = true := h
    rw [Bool.or_eq_true] at h'
    rcases h' with h' | h'
    · have : y = x := by simpa [eqV] using h'
      rw [this]; exact List.mem_cons_self ..
    · exact List.mem_cons_of_mem _ (inV_of h')
/-! ### strangers -/
@[irreducible] def outs (ns xs : List Str) : List Str := xs.filter fun x => !inV (.str x) (ns.map V.str)
theorem outs_nil {ns xs : List Str} : outs ns xs = [] ↔ ∀ x ∈ xs, x ∈ ns := by
  unfold outs
  rw [List.filter_eq_nil_iff]
  refine ⟨fun h x hx => inV_of (by simpa using h x hx), fun h x hx => by simpa using inV_str (h x hx)⟩
theorem outs_app (ns xs ys : List Str) : outs ns (xs ++ ys) = outs ns xs ++ outs ns ys := by unfold outs; exact List.filter_append ..
theorem outs_len (ns xs : List Str) : (outs ns xs).length ≤ xs.length := by unfold outs; exact List.length_filter_le ..
theorem outs_mem {ns xs : List Str} {x : Str} (h : x ∈ outs ns xs) : x ∈ xs := by unfold outs at h; exact (List.mem_filter.mp h).1
def Sm.used : Sm Str → List Str
  | .num _ => []
  | .name x => [x]
  | .op _ a b => a.used ++ b.used
def Ts.used : Ts → List Str
  | .less a b => a.used ++ b.used
  | .same a b => a.used ++ b.used
  | .not t => t.used
  | .both t u => t.used ++ u.used
def Th.used : Th → List Str
  | .s x => x.used
  | .t x => x.used
theorem Sm.nm_used {ns : List Str} : ∀ {s : Sm Str}, s.nm ns ↔ ∀ x ∈ s.used, x ∈ ns
  | .num _ => ⟨fun _ x hx => (nomatch hx), fun _ => trivial⟩
  | .name y => ⟨fun h x hx => by rw [List.mem_singleton.mp hx]; exact h, fun h => h y (List.mem_singleton.mpr rfl)⟩
  | .op _ a b => by
    have h1 := Sm.nm_used (ns := ns) (s := a)
    have h2 := Sm.nm_used (ns := ns) (s := b)
    show a.nm ns ∧ b.nm ns ↔ ∀ x ∈ a.used ++ b.used, x ∈ ns
    rw [h1, h2, List.forall_mem_append]
theorem Ts.nm_used {ns : List Str} : ∀ {s : Ts}, s.nm ns ↔ ∀ x ∈ s.used, x ∈ ns
  | .less a b => by
    show a.nm ns ∧ b.nm ns ↔ ∀ x ∈ a.used ++ b.used, x ∈ ns
    rw [Sm.nm_used, Sm.nm_used, List.forall_mem_append]
  | .same a b => by
    show a.nm ns ∧ b.nm ns ↔ ∀ x ∈ a.used ++ b.used, x ∈ ns
    rw [Sm.nm_used, Sm.nm_used, List.forall_mem_append]
  | .not t => Ts.nm_used (s := t)
  | .both a b => by
    have h1 := Ts.nm_used (ns := ns) (s := a)
    have h2 := Ts.nm_used (ns := ns) (s := b)
    show a.nm ns ∧ b.nm ns ↔ ∀ x ∈ a.used ++ b.used, x ∈ ns
    rw [h1, h2, List.forall_mem_append]
theorem Sm.used_len : ∀ s : Sm Str, s.used.length ≤ s.lv
  | .num _ => Nat.zero_le _
  | .name _ => Nat.le_refl _
  | .op _ a b => by
    have h1 := a.used_len
    have h2 := b.used_len
    show (a.used ++ b.used).length ≤ a.lv + b.lv
    rw [List.length_append]; omega
theorem Ts.used_len : ∀ s : Ts, s.used.length ≤ s.wn
  | .less a b => by
    have h1 := a.used_len
    have h2 := b.used_len
    show (a.used ++ b.used).length ≤ 2 * a.lv + 2 * b.lv + 1
    rw [List.length_append]; omega
  | .same a b => by
    have h1 := a.used_len
    have h2 := b.used_len
    show (a.used ++ b.used).length ≤ 2 * a.lv + 2 * b.lv + 1
    rw [List.length_append]; omega
  | .not t => by
    have := t.used_len
    show t.used.length ≤ t.wn + 1
    omega
  | .both a b => by
    have h1 := a.used_len
    have h2 := b.used_len
    show (a.used ++ b.used).length ≤ a.wn + b.wn + 1
    rw [List.length_append]; omega
theorem Sm.used_tx : ∀ {s : Sm Str}, s.tx → ∀ x ∈ s.used, x.length ≤ 100
  | .num _, _, x, hx => nomatch hx
  | .name y, h, x, hx => by rw [List.mem_singleton.mp hx]; exact h
  | .op _ a b, h, x, hx => (List.mem_append.mp hx).elim (Sm.used_tx h.1 x) (Sm.used_tx h.2 x)
theorem Ts.used_tx : ∀ {s : Ts}, s.tx → ∀ x ∈ s.used, x.length ≤ 100
  | .less a b, h, x, hx => (List.mem_append.mp hx).elim (Sm.used_tx h.1 x) (Sm.used_tx h.2 x)
  | .same a b, h, x, hx => (List.mem_append.mp hx).elim (Sm.used_tx h.1 x) (Sm.used_tx h.2 x)
  | .not t, h, x, hx => Ts.used_tx (s := t) h x hx
  | .both a b, h, x, hx => (List.mem_append.mp hx).elim (Ts.used_tx h.1 x) (Ts.used_tx h.2 x)
def Bk.str : List Str → Bk → List Str
  | _, .nil => []
  | ns, .set x a r => outs ns (x :: a.used) ++ r.str ns
  | ns, .say a r => outs ns a.used ++ r.str ns
  | ns, .when t b c r => outs ns t.used ++ b.str ns ++ c.str ns ++ r.str ns
  | ns, .whil t b r => outs ns t.used ++ b.str ns ++ r.str ns
  | ns, .wit x a b r => outs ns a.used ++ b.str (ns ++ [x]) ++ r.str ns
/-! ### of a good size, whatever its names are -/
def Sm.wel (a : Sm Str) : Prop := ∃ ns, a.fin ns
def Ts.wel (t : Ts) : Prop := ∃ ns, t.fin ns
def Bk.wel : Bk → Prop
  | .nil => True
  | .set _ a r => a.wel ∧ r.wel
  | .say a r => a.wel ∧ r.wel
  | .when t b c r => t.wel ∧ b.wel ∧ c.wel ∧ r.wel
  | .whil t b r => t.wel ∧ b.wel ∧ r.wel
  | .wit _ a b r => a.wel ∧ b.wel ∧ r.wel
theorem Bk.str_len : ∀ (ns : List Str) {b : Bk}, b.wel → (b.str ns).length ≤ 201 * b.n
  | _, .nil, _ => Nat.zero_le _
  | ns, .set x a r, h => by
    have h1 := Bk.str_len ns h.2
    obtain ⟨_, h2⟩ := h.1
    have h3 := a.used_len
    have h4 := outs_len ns (x :: a.used)
    have := h2.2.2
    rw [List.length_cons] at h4
    show (outs ns (x :: a.used) ++ r.str ns).length ≤ 201 * (r.n + 1)
    rw [List.length_append]; omega
  | ns, .say a r, h => by
    have h1 := Bk.str_len ns h.2
    obtain ⟨_, h2⟩ := h.1
    have h3 := a.used_len
    have h4 := outs_len ns a.used
    have := h2.2.2
    show (outs ns a.used ++ r.str ns).length ≤ 201 * (r.n + 1)
    rw [List.length_append]; omega
  | ns, .when t b c r, h => by
    have h1 := Bk.str_len ns h.2.1
    have h1' := Bk.str_len ns h.2.2.1
    have h1'' := Bk.str_len ns h.2.2.2
    obtain ⟨_, h2⟩ := h.1
    have h3 := t.used_len
    have h4 := outs_len ns t.used
    have := h2.2.2
    show (outs ns t.used ++ b.str ns ++ c.str ns ++ r.str ns).length ≤ 201 * (b.n + c.n + r.n + 1)
    simp only [List.length_append]; omega
  | ns, .whil t b r, h => by
    have h1 := Bk.str_len ns h.2.1
    have h1'' := Bk.str_len ns h.2.2
    obtain ⟨_, h2⟩ := h.1
    have h3 := t.used_len
    have h4 := outs_len ns t.used
    have := h2.2.2
    show (outs ns t.used ++ b.str ns ++ r.str ns).length ≤ 201 * (b.n + r.n + 1)
    simp only [List.length_append]; omega
  | ns, .wit x a b r, h => by
    have h1 := Bk.str_len (ns ++ [x]) h.2.1
    have h1'' := Bk.str_len ns h.2.2
    obtain ⟨_, h2⟩ := h.1
    have h3 := a.used_len
    have h4 := outs_len ns a.used
    have := h2.2.2
    show (outs ns a.used ++ b.str (ns ++ [x]) ++ r.str ns).length ≤ 201 * (b.n + r.n + 1)
    simp only [List.length_append]; omega
theorem Bk.str_tx : ∀ (ns : List Str) {b : Bk}, b.fit → ∀ x ∈ b.str ns, x.length ≤ 100
  | _, .nil, _, x, hx => nomatch hx
  | ns, .set y a r, h, x, hx => (List.mem_append.mp hx).elim (fun z => (List.mem_cons.mp (outs_mem z)).elim (fun e => by rw [e]; exact h.1) (Sm.used_tx (show a.tx from h.2.1.1) x)) (Bk.str_tx ns h.2.2 x)
  | ns, .say a r, h, x, hx => (List.mem_append.mp hx).elim (fun z => Sm.used_tx (show a.tx from h.1.1) x (outs_mem z)) (Bk.str_tx ns h.2 x)
  | ns, .when t b c r, h, x, hx => (List.mem_append.mp hx).elim (fun z => (List.mem_append.mp z).elim (fun z => (List.mem_append.mp z).elim (fun z => Ts.used_tx (show t.tx from h.1.1) x (outs_mem z)) (Bk.str_tx ns h.2.1 x)) (Bk.str_tx ns h.2.2.1 x)) (Bk.str_tx ns h.2.2.2 x)
  | ns, .whil t b r, h, x, hx => (List.mem_append.mp hx).elim (fun z => (List.mem_append.mp z).elim (fun z => Ts.used_tx (show t.tx from h.1.1) x (outs_mem z)) (Bk.str_tx ns h.2.1 x)) (Bk.str_tx ns h.2.2 x)
  | ns, .wit y a b r, h, x, hx => (List.mem_append.mp hx).elim (fun z => (List.mem_append.mp z).elim (fun z => Sm.used_tx (show a.tx from h.2.1.1) x (outs_mem z)) (Bk.str_tx (ns ++ [y]) h.2.2.1 x)) (Bk.str_tx ns h.2.2.2 x)
theorem Sm.lin_of {ms ns : List Str} : ∀ {s : Sm Str}, s.lin ms → (∀ x ∈ s.used, x ∈ ns) → s.lin ns
  | .num _, _, _ => trivial
  | .name y, _, h => h y (List.mem_singleton.mpr rfl)
  | .op _ a b, h, g => by
    have g' := List.forall_mem_append.mp (show ∀ x ∈ a.used ++ b.used, x ∈ ns from g)
    exact ⟨Sm.lin_of h.1 g'.1, Sm.lin_of h.2.1 g'.2, h.2.2⟩
theorem Ts.lin_of {ms ns : List Str} : ∀ {s : Ts}, s.lin ms → (∀ x ∈ s.used, x ∈ ns) → s.lin ns
  | .less a b, h, g => by
    have g' := List.forall_mem_append.mp (show ∀ x ∈ a.used ++ b.used, x ∈ ns from g)
    exact ⟨Sm.lin_of h.1 g'.1, Sm.lin_of h.2.1 g'.2, h.2.2⟩
  | .same a b, h, g => by
    have g' := List.forall_mem_append.mp (show ∀ x ∈ a.used ++ b.used, x ∈ ns from g)
    exact ⟨Sm.lin_of h.1 g'.1, Sm.lin_of h.2.1 g'.2, h.2.2⟩
  | .not t, h, g => Ts.lin_of (s := t) h g
  | .both a b, h, g => by
    have g' := List.forall_mem_append.mp (show ∀ x ∈ a.used ++ b.used, x ∈ ns from g)
    exact ⟨Ts.lin_of h.1 g'.1, Ts.lin_of h.2 g'.2⟩
theorem Sm.wel.fin {a : Sm Str} {ns : List Str} (h : a.wel) (g : outs ns a.used = []) : a.fin ns := by
  obtain ⟨ms, h⟩ := h
  exact ⟨Sm.lin_of h.1 (outs_nil.mp g), h.2⟩
theorem Ts.wel.fin {a : Ts} {ns : List Str} (h : a.wel) (g : outs ns a.used = []) : a.fin ns := by
  obtain ⟨ms, h⟩ := h
  exact ⟨Ts.lin_of h.1 (outs_nil.mp g), h.2⟩
theorem Bk.lin_of : ∀ {ns : List Str} {b : Bk}, b.wel → ns.length + b.dp ≤ 400 → b.str ns = [] → b.lin ns
  | _, .nil, _, _, _ => trivial
  | ns, .set x a r, h, hl, g => by
    have g' : outs ns (x :: a.used) ++ r.str ns = [] := g
    rw [List.append_eq_nil_iff] at g'
    have g1 := outs_nil.mp g'.1
    exact ⟨g1 x (List.mem_cons_self ..), h.1.fin (outs_nil.mpr fun y hy => g1 y (List.mem_cons_of_mem _ hy)), Bk.lin_of h.2 hl g'.2⟩
  | ns, .say a r, h, hl, g => by
    have g' : outs ns a.used ++ r.str ns = [] := g
    rw [List.append_eq_nil_iff] at g'
    exact ⟨h.1.fin g'.1, Bk.lin_of h.2 hl g'.2⟩
  | ns, .when t b c r, h, hl, g => by
    have g' : outs ns t.used ++ b.str ns ++ c.str ns ++ r.str ns = [] := g
    rw [List.append_eq_nil_iff, List.append_eq_nil_iff, List.append_eq_nil_iff] at g'
    have hd : ns.length + max (max (b.dp + 1) (c.dp + 1)) r.dp ≤ 400 := hl
    exact ⟨h.1.fin g'.1.1.1, Bk.lin_of h.2.1 (by omega) g'.1.1.2, Bk.lin_of h.2.2.1 (by omega) g'.1.2, Bk.lin_of h.2.2.2 (by omega) g'.2⟩
  | ns, .whil t b r, h, hl, g => by
    have g' : outs ns t.used ++ b.str ns ++ r.str ns = [] := g
    rw [List.append_eq_nil_iff, List.append_eq_nil_iff] at g'
    have hd : ns.length + max (b.dp + 1) r.dp ≤ 400 := hl
    exact ⟨h.1.fin g'.1.1, Bk.lin_of h.2.1 (by omega) g'.1.2, Bk.lin_of h.2.2 (by omega) g'.2⟩
  | ns, .wit x a b r, h, hl, g => by
    have g' : outs ns a.used ++ b.str (ns ++ [x]) ++ r.str ns = [] := g
    rw [List.append_eq_nil_iff, List.append_eq_nil_iff] at g'
    have hd : ns.length + max (b.dp + 1) r.dp ≤ 400 := hl
    exact ⟨h.1.fin g'.1.1, by omega, Bk.lin_of h.2.1 (by rw [List.length_append]; show _ + 1 + _ ≤ _; omega) g'.1.2, Bk.lin_of h.2.2 (by omega) g'.2⟩
/-! ### what is grown is of a good size -/
def Hd.wel : Hd → Prop
  | .whil t => t.wel
  | .when t => t.wel
  | .els t b => t.wel ∧ b.wel
  | .wit _ a => a.wel
theorem Bk.wel_app : ∀ {b c : Bk}, b.wel → c.wel → (b.app c).wel
  | .nil, _, _, h => h
  | .set _ _ _, _, h, g => ⟨h.1, Bk.wel_app h.2 g⟩
  | .say _ _, _, h, g => ⟨h.1, Bk.wel_app h.2 g⟩
  | .when _ _ _ _, _, h, g => ⟨h.1, h.2.1, h.2.2.1, Bk.wel_app h.2.2.2 g⟩
  | .whil _ _ _, _, h, g => ⟨h.1, h.2.1, Bk.wel_app h.2.2 g⟩
  | .wit _ _ _ _, _, h, g => ⟨h.1, h.2.1, Bk.wel_app h.2.2 g⟩
theorem end_wel {salt : Int} {t : Ts} : (endF salt t).wel := by
  unfold endF
  split
  · rename_i x b
    split
    · exact ⟨⟨[x], ⟨List.mem_singleton.mpr rfl, trivial, fun z => nomatch z⟩, by show max 1 1 + 1 ≤ 20; decide, by show 1 + 1 ≤ 20; decide⟩, trivial⟩
    · trivial
  · trivial
structure Gs.Wel (g : Gs) : Prop where
  bs : ∀ b ∈ g.bs, b.wel
  hs : ∀ h ∈ g.hs, h.wel
theorem closeF_wel {salt : Int} {g : Gs} (h : g.Wel) : (closeF salt g).Wel := by
  obtain ⟨bs, hs, sc⟩ := g
  obtain ⟨h1, h2⟩ := h
  unfold closeF
  split
  · rename_i t hs' b bs' e1 e2
    simp only at e1 e2
    subst e1 e2
    exact ⟨cons2 trivial (all2 h1).2, cons2 ⟨(all2 h2).1, (all2 h1).1⟩ (all2 h2).2⟩
  · rename_i t b0 hs' b b1 bs' e1 e2
    simp only at e1 e2
    subst e1 e2
    have q := all2 (all2 h1).2
    exact ⟨cons2 (Bk.wel_app q.1 ⟨(all2 h2).1.1, (all2 h2).1.2, (all2 h1).1, trivial⟩) q.2, (all2 h2).2⟩
  · rename_i t hs' b b1 bs' e1 e2
    simp only at e1 e2
    subst e1 e2
    have q := all2 (all2 h1).2
    exact ⟨cons2 (Bk.wel_app q.1 ⟨(all2 h2).1, Bk.wel_app (all2 h1).1 end_wel, trivial⟩) q.2, (all2 h2).2⟩
  · rename_i x a hs' b b1 bs' e1 e2
    simp only at e1 e2
    subst e1 e2
    have q := all2 (all2 h1).2
    exact ⟨cons2 (Bk.wel_app q.1 ⟨(all2 h2).1, (all2 h1).1, trivial⟩) q.2, (all2 h2).2⟩
  · exact ⟨h1, h2⟩
theorem addF_wel {o : Bk} {g : Gs} (h : g.Wel) (ho : o.wel) : (addF o g).Wel := by
  obtain ⟨bs, hs, sc⟩ := g
  obtain ⟨h1, h2⟩ := h
  unfold addF
  split
  · rename_i b bs' e
    simp only at e
    subst e
    exact ⟨cons2 (Bk.wel_app (all2 h1).1 ho) (all2 h1).2, h2⟩
  · exact ⟨h1, h2⟩
theorem stepF_wel {more : List Str} {k : Nat} {cell : Int} {g : Gs} (h : g.Wel) : (stepF more k cell g).Wel := by
  unfold stepF
  dsimp only
  split
  · refine ⟨cons2 trivial h.bs, cons2 ?_ h.hs⟩
    unfold headF
    split
    · exact ⟨_, test_fin _ _⟩
    · split
      · exact ⟨_, test_fin _ _⟩
      · exact ⟨_, sum_fin _ _⟩
  · split
    · exact closeF_wel h
    · split
      · exact addF_wel h ⟨⟨_, sum_fin _ _⟩, trivial⟩
      · exact addF_wel h ⟨⟨_, sum_fin _ _⟩, trivial⟩
theorem foldF_wel {more : List Str} : ∀ (cs : List Int) {k : Nat} {g : Gs}, g.Wel → (foldF more k cs g).Wel
  | [], _, _, h => h
  | c :: cs, _, _, h => foldF_wel cs (stepF_wel h)
theorem closes_wel : ∀ (n : Nat) {g : Gs}, g.Wel → (closes n g).Wel
  | 0, _, h => h
  | n + 1, _, h => closes_wel n (closeF_wel h)
theorem grown_wel {cells : List Int} {names more : List Str} : (grownF cells names more).wel := by
  have h := closes_wel 400 (foldF_wel (more := more) cells (k := 0) (g := ⟨[.nil], [], names⟩) ⟨fun b hb => by rw [List.mem_singleton.mp hb]; trivial, fun b hb => nomatch hb⟩)
  unfold grownF
  split
  · rename_i b bs e
    exact h.bs b (by rw [e]; exact List.mem_cons_self ..)
  · trivial
/-! ### parts of a sum or a test, and what they use -/
structure Nd5 (H : Hp) (n : Nat) (u : V) (z : List Str) (c : Addr) (wd : Str) (us : List V) (ths : List Th) : Prop where
  u : u = .ref c
  e : H c = some (.tup (.str wd :: us))
  p : Paired (IsTh H) us ths
  no1 : decide (V.str wd = V.str "num") = false
  no2 : decide (V.str wd = V.str "name") = false
  no3 : decide (V.str wd = V.str "set") = false
  no4 : decide (V.str wd = V.str "with") = false
  dp : ∀ x ∈ ths, x.dp ≤ n
  few : us.length ≤ 2
  z : z = (ths.map Th.used).flatten
theorem nd5 {H : Hp} {n : Nat} {u : V} {s : Th} (h : IsTh H u s) (hd : s.dp ≤ n + 1) :
    (∃ c i, u = .ref c ∧ H c = some (.tup [.str "num", .int i]) ∧ s.used = []) ∨ (∃ c x, u = .ref c ∧ H c = some (.tup [.str "name", .str x]) ∧ s.used = [x]) ∨
    ∃ c wd us ths, Nd5 H n u s.used c wd us ths := by
  have two : ∀ {a b : Th}, a.dp ≤ n → b.dp ≤ n → ∀ x ∈ [a, b], x.dp ≤ n := fun h1 h2 x hx => by
    rcases List.mem_cons.mp hx with rfl | hx
    · exact h1
    · rw [List.mem_singleton.mp hx]; exact h2
  cases s with
  | s s =>
    cases (show IsSum H u s from h) with
    | @num c i e => exact .inl ⟨c, i, rfl, e, rfl⟩
    | @name c x e => exact .inr (.inl ⟨c, x, rfl, e, rfl⟩)
    | @op c o u v s t e h1 h2 =>
      have hd' : max s.dp t.dp + 1 ≤ n + 1 := hd
      exact .inr (.inr ⟨c, o.w, [u, v], [.s s, .s t], rfl, e, .cons h1 (.cons h2 .nil), by cases o <;> decide +kernel, by cases o <;> decide +kernel, by cases o <;> decide +kernel, by cases o <;> decide +kernel, two (by show s.dp ≤ n; omega) (by show t.dp ≤ n; omega), Nat.le_refl _, by simp [Th.used, Sm.used]⟩)
  | t t =>
    cases (show IsTest H u t from h) with
    | @less c u v s t e h1 h2 =>
      have hd' : max s.dp t.dp + 1 ≤ n + 1 := hd
      exact .inr (.inr ⟨c, "less", [u, v], [.s s, .s t], rfl, e, .cons h1 (.cons h2 .nil), by decide +kernel, by decide +kernel, by decide +kernel, by decide +kernel, two (by show s.dp ≤ n; omega) (by show t.dp ≤ n; omega), Nat.le_refl _, by simp [Th.used, Ts.used]⟩)
    | @same c u v s t e h1 h2 =>
      have hd' : max s.dp t.dp + 1 ≤ n + 1 := hd
      exact .inr (.inr ⟨c, "same", [u, v], [.s s, .s t], rfl, e, .cons h1 (.cons h2 .nil), by decide +kernel, by decide +kernel, by decide +kernel, by decide +kernel, two (by show s.dp ≤ n; omega) (by show t.dp ≤ n; omega), Nat.le_refl _, by simp [Th.used, Ts.used]⟩)
    | @not c u t e h1 =>
      have hd' : t.dp + 1 ≤ n + 1 := hd
      exact .inr (.inr ⟨c, "not", [u], [.t t], rfl, e, .cons h1 .nil, by decide +kernel, by decide +kernel, by decide +kernel, by decide +kernel, fun x hx => by rw [List.mem_singleton.mp hx]; show t.dp ≤ n; omega, Nat.le_succ 1, by simp [Th.used, Ts.used]⟩)
    | @both c u v s t e h1 h2 =>
      have hd' : max s.dp t.dp + 1 ≤ n + 1 := hd
      exact .inr (.inr ⟨c, "both", [u, v], [.t s, .t t], rfl, e, .cons h1 (.cons h2 .nil), by decide +kernel, by decide +kernel, by decide +kernel, by decide +kernel, two (by show s.dp ≤ n; omega) (by show t.dp ≤ n; omega), Nat.le_refl _, by simp [Th.used, Ts.used]⟩)
/-! ### the law's walk for strangers -/
def Sm.sw : Sm Str → Nat
  | .num _ => 1
  | .name _ => 1
  | .op _ a b => a.sw + b.sw + 1
def Ts.sw : Ts → Nat
  | .less a b => a.sw + b.sw + 1
  | .same a b => a.sw + b.sw + 1
  | .not t => t.sw + 1
  | .both t u => t.sw + u.sw + 1
def Th.sw : Th → Nat
  | .s x => x.sw
  | .t x => x.sw
def Bk.sw : Bk → Nat
  | .nil => 0
  | .set _ a r => 1 + a.sw + 1 + r.sw
  | .say a r => a.sw + 1 + r.sw
  | .when t b c r => t.sw + (b.sw + 1) + (c.sw + 1) + 1 + r.sw
  | .whil t b r => t.sw + (b.sw + 1) + 1 + r.sw
  | .wit _ a b r => a.sw + (b.sw + 1) + 1 + r.sw
theorem Sm.sw_le : ∀ s : Sm Str, s.sw + 1 ≤ 2 * s.lv
  | .num _ => Nat.le_refl _
  | .name _ => Nat.le_refl _
  | .op _ a b => by
    have h1 := a.sw_le
    have h2 := b.sw_le
    show a.sw + b.sw + 1 + 1 ≤ 2 * (a.lv + b.lv)
    omega
theorem Ts.sw_le : ∀ s : Ts, s.sw ≤ s.wn
  | .less a b => by
    have h1 := a.sw_le
    have h2 := b.sw_le
    show a.sw + b.sw + 1 ≤ 2 * a.lv + 2 * b.lv + 1
    omega
  | .same a b => by
    have h1 := a.sw_le
    have h2 := b.sw_le
    show a.sw + b.sw + 1 ≤ 2 * a.lv + 2 * b.lv + 1
    omega
  | .not t => by have := t.sw_le; show t.sw + 1 ≤ t.wn + 1; omega
  | .both a b => by
    have h1 := a.sw_le
    have h2 := b.sw_le
    show a.sw + b.sw + 1 ≤ a.wn + b.wn + 1
    omega
theorem sw_le : ∀ {b : Bk}, b.wel → b.sw ≤ 210 * b.n
  | .nil, _ => Nat.le_refl _
  | .set _ a r, h => by
    have h1 := sw_le h.2
    have h2 := a.sw_le
    obtain ⟨_, h3⟩ := h.1
    have := h3.2.2
    show 1 + a.sw + 1 + r.sw ≤ 210 * (r.n + 1)
    omega
  | .say a r, h => by
    have h1 := sw_le h.2
    have h2 := a.sw_le
    obtain ⟨_, h3⟩ := h.1
    have := h3.2.2
    show a.sw + 1 + r.sw ≤ 210 * (r.n + 1)
    omega
  | .when t b c r, h => by
    have h1 := sw_le h.2.1
    have h1' := sw_le h.2.2.1
    have h1'' := sw_le h.2.2.2
    have h2 := t.sw_le
    obtain ⟨_, h3⟩ := h.1
    have := h3.2.2
    show t.sw + (b.sw + 1) + (c.sw + 1) + 1 + r.sw ≤ 210 * (b.n + c.n + r.n + 1)
    omega
  | .whil t b r, h => by
    have h1 := sw_le h.2.1
    have h1'' := sw_le h.2.2
    have h2 := t.sw_le
    obtain ⟨_, h3⟩ := h.1
    have := h3.2.2
    show t.sw + (b.sw + 1) + 1 + r.sw ≤ 210 * (b.n + r.n + 1)
    omega
  | .wit _ a b r, h => by
    have h1 := sw_le h.2.1
    have h1'' := sw_le h.2.2
    have h2 := a.sw_le
    obtain ⟨_, h3⟩ := h.1
    have := h3.2.2
    show a.sw + (b.sw + 1) + 1 + r.sw ≤ 210 * (b.n + r.n + 1)
    omega
/-- a thing, its strangers in a row of jars, its weight; blocks as they lay at first -/
inductive Tg5 (H0 H : Hp) (ns : List Str) : V → List Str → Nat → Prop where
  | blk {p : Addr} {vs : List V} {b : Bk} : H0 p = some (.lst vs) → IsBk H0 noM vs b → Tg5 H0 H ns (.ref p) (b.str ns) (b.sw + 1)
  | od {v : V} {b : Bk} : IsBk H0 noM [v] b → Tg5 H0 H ns v (b.str ns) b.sw
  | th {v : V} {t : Th} : IsTh H v t → Tg5 H0 H ns v (outs ns t.used) t.sw
theorem Tg5.mono {H0 H H' : Hp} (L : TupLe H H') {ns : List Str} {v : V} {z : List Str} {n : Nat} (h : Tg5 H0 H ns v z n) : Tg5 H0 H' ns v z n := by
  cases h with
  | blk e h => exact .blk e h
  | od h => exact .od h
  | th h => exact .th (h.mono L)
theorem Sm.sw_pos : ∀ s : Sm Str, 1 ≤ s.sw
  | .num _ => Nat.le_refl _
  | .name _ => Nat.le_refl _
  | .op _ a b => by show 1 ≤ a.sw + b.sw + 1; omega
theorem Ts.sw_pos : ∀ s : Ts, 1 ≤ s.sw
  | .less a b => by show 1 ≤ a.sw + b.sw + 1; omega
  | .same a b => by show 1 ≤ a.sw + b.sw + 1; omega
  | .not t => by show 1 ≤ t.sw + 1; omega
  | .both t u => by show 1 ≤ t.sw + u.sw + 1; omega
theorem Tg5.pos {H0 H : Hp} {ns : List Str} {v : V} {z : List Str} {n : Nat} (h : Tg5 H0 H ns v z n) : 1 ≤ n := by
  cases h with
  | blk e h => omega
  | @th v t h =>
    cases t with
    | s s => exact s.sw_pos
    | t t => exact t.sw_pos
  | od h =>
    cases h with
    | set _ _ _ => show 1 ≤ 1 + _ + 1 + _; omega
    | say _ _ _ => show 1 ≤ _ + 1 + _; omega
    | when _ _ _ _ _ _ _ _ _ => show 1 ≤ _ + 1 + _; omega
    | whil _ _ _ _ _ _ => show 1 ≤ _ + 1 + _; omega
    | wit _ _ _ _ _ _ => show 1 ≤ _ + 1 + _; omega
theorem bk_ods5 {H0 H : Hp} {ns : List Str} {vs : List V} {b : Bk} (h : IsBk H0 noM vs b) : ∃ zs : List (List Str × Nat), Paired (fun v z => Tg5 H0 H ns v z.1 z.2) vs zs ∧ b.str ns = (zs.map Prod.fst).flatten ∧ (zs.map Prod.snd).sum = b.sw := by
  induction h with
  | nil => exact ⟨[], .nil, rfl, rfl⟩
  | @set a x u s vs r e hs _ ih =>
    obtain ⟨zs, hP, h1, h2⟩ := ih
    refine ⟨(_, _) :: zs, .cons (.od (.set e hs .nil)) hP, ?_, ?_⟩
    · rw [List.map_cons, List.flatten_cons, ← h1]; simp [Bk.str]
    · rw [List.map_cons, List.sum_cons, h2]; rfl
  | @say a u s vs r e hs _ ih =>
    obtain ⟨zs, hP, h1, h2⟩ := ih
    refine ⟨(_, _) :: zs, .cons (.od (.say e hs .nil)) hP, ?_, ?_⟩
    · rw [List.map_cons, List.flatten_cons, ← h1]; simp [Bk.str]
    · rw [List.map_cons, List.sum_cons, h2]; rfl
  | @when a p q u t vb vc vs b c r e ht n1 e1 h1 n2 e2 h2 _ _ _ ih =>
    obtain ⟨zs, hP, g1, g2⟩ := ih
    refine ⟨(_, _) :: zs, .cons (.od (.when e ht n1 e1 h1 n2 e2 h2 .nil)) hP, ?_, ?_⟩
    · rw [List.map_cons, List.flatten_cons, ← g1]; simp [Bk.str]
    · rw [List.map_cons, List.sum_cons, g2]; rfl
  | @whil a p u t vb vs b r e ht n1 e1 h1 _ _ ih =>
    obtain ⟨zs, hP, g1, g2⟩ := ih
    refine ⟨(_, _) :: zs, .cons (.od (.whil e ht n1 e1 h1 .nil)) hP, ?_, ?_⟩
    · rw [List.map_cons, List.flatten_cons, ← g1]; simp [Bk.str]
    · rw [List.map_cons, List.sum_cons, g2]; rfl
  | @wit a p x u s vb vs b r e ht n1 e1 h1 _ _ ih =>
    obtain ⟨zs, hP, g1, g2⟩ := ih
    refine ⟨(_, _) :: zs, .cons (.od (.wit e ht n1 e1 h1 .nil)) hP, ?_, ?_⟩
    · rw [List.map_cons, List.flatten_cons, ← g1]; simp [Bk.str]
    · rw [List.map_cons, List.sum_cons, g2]; rfl
/-- the ways of the law's walk -/
inductive Wy5 (H0 H : Hp) (ns : List Str) : V → List Str → Nat → Prop where
  | blk {p : Addr} {vs : List V} {zs : List (List Str × Nat)} {n : Nat} : H0 p = some (.lst vs) → Paired (fun v z => Tg5 H0 H ns v z.1 z.2) vs zs → (zs.map Prod.snd).sum + 1 ≤ n → Wy5 H0 H ns (.ref p) (zs.map Prod.fst).flatten n
  | name {a : Addr} {x : Str} {n : Nat} : H a = some (.tup [.str "name", .str x]) → 1 ≤ n → Wy5 H0 H ns (.ref a) (outs ns [x]) n
  | num {a : Addr} {i : Int} {n : Nat} : H a = some (.tup [.str "num", .int i]) → 1 ≤ n → Wy5 H0 H ns (.ref a) [] n
  | set {a : Addr} {x : Str} {u : V} {z : List Str} {m n : Nat} : H a = some (.tup [.str "set", .str x, u]) → Tg5 H0 H ns u z m → 1 + m + 1 ≤ n → Wy5 H0 H ns (.ref a) (outs ns [x] ++ z) n
  | wit {a : Addr} {x : Str} {u v : V} {z z2 : List Str} {m m2 n : Nat} : H a = some (.tup [.str "with", .str x, u, v]) → Tg5 H0 H ns u z m → Tg5 H0 H (ns ++ [x]) v z2 m2 → m + m2 + 1 ≤ n → Wy5 H0 H ns (.ref a) (z ++ z2) n
  | node {a : Addr} {wd : Str} {us : List V} {zs : List (List Str × Nat)} {n : Nat} : H a = some (.tup (.str wd :: us)) → decide (V.str wd = V.str "num") = false → decide (V.str wd = V.str "name") = false → decide (V.str wd = V.str "set") = false → decide (V.str wd = V.str "with") = false →
      Paired (fun v z => Tg5 H0 H ns v z.1 z.2) us zs → (zs.map Prod.snd).sum + 1 ≤ n → us.length ≤ 3 → Wy5 H0 H ns (.ref a) (zs.map Prod.fst).flatten n
theorem Wy5.node1 {H0 H : Hp} {ns : List Str} {a : Addr} {wd : Str} {u : V} {z1 : List Str} {m1 n : Nat} (e : H a = some (.tup [.str wd, u])) (n1 : decide (V.str wd = V.str "num") = false) (n2 : decide (V.str wd = V.str "name") = false) (n3 : decide (V.str wd = V.str "set") = false) (n4 : decide (V.str wd = V.str "with") = false)
    (h1 : Tg5 H0 H ns u z1 m1) (hn : m1 + 1 ≤ n) : Wy5 H0 H ns (.ref a) z1 n := by
  have := Wy5.node (H0 := H0) (ns := ns) (n := n) (zs := [(z1, m1)]) e n1 n2 n3 n4 (.cons h1 .nil) (by show m1 + 0 + 1 ≤ n; omega) (by show 1 ≤ 3; decide)
  simpa only [List.map_cons, List.map_nil, List.flatten_cons, List.flatten_nil, List.append_nil] using this
theorem Wy5.node2 {H0 H : Hp} {ns : List Str} {a : Addr} {wd : Str} {u v : V} {z1 z2 : List Str} {m1 m2 n : Nat} (e : H a = some (.tup [.str wd, u, v])) (n1 : decide (V.str wd = V.str "num") = false) (n2 : decide (V.str wd = V.str "name") = false) (n3 : decide (V.str wd = V.str "set") = false) (n4 : decide (V.str wd = V.str "with") = false)
    (h1 : Tg5 H0 H ns u z1 m1) (h2 : Tg5 H0 H ns v z2 m2) (hn : m1 + m2 + 1 ≤ n) : Wy5 H0 H ns (.ref a) (z1 ++ z2) n := by
  have := Wy5.node (H0 := H0) (ns := ns) (n := n) (zs := [(z1, m1), (z2, m2)]) e n1 n2 n3 n4 (.cons h1 (.cons h2 .nil)) (by show m1 + (m2 + 0) + 1 ≤ n; omega) (by show 2 ≤ 3; decide)
  simpa only [List.map_cons, List.map_nil, List.flatten_cons, List.flatten_nil, List.append_nil] using this
theorem Wy5.node3 {H0 H : Hp} {ns : List Str} {a : Addr} {wd : Str} {u v w : V} {z1 z2 z3 : List Str} {m1 m2 m3 n : Nat} (e : H a = some (.tup [.str wd, u, v, w])) (n1 : decide (V.str wd = V.str "num") = false) (n2 : decide (V.str wd = V.str "name") = false) (n3 : decide (V.str wd = V.str "set") = false) (n4 : decide (V.str wd = V.str "with") = false)
    (h1 : Tg5 H0 H ns u z1 m1) (h2 : Tg5 H0 H ns v z2 m2) (h3 : Tg5 H0 H ns w z3 m3) (hn : m1 + m2 + m3 + 1 ≤ n) : Wy5 H0 H ns (.ref a) (z1 ++ (z2 ++ z3)) n := by
  have := Wy5.node (H0 := H0) (ns := ns) (n := n) (zs := [(z1, m1), (z2, m2), (z3, m3)]) e n1 n2 n3 n4 (.cons h1 (.cons h2 (.cons h3 .nil))) (by show m1 + (m2 + (m3 + 0)) + 1 ≤ n; omega) (by show 3 ≤ 3; decide)
  simpa only [List.map_cons, List.map_nil, List.flatten_cons, List.flatten_nil, List.append_nil] using this
theorem Tg5.way {H0 H : Hp} (S : Same H0 H ∨ TupLe H0 H) {ns : List Str} {v : V} {z : List Str} {n : Nat} (h : Tg5 H0 H ns v z n) : Wy5 H0 H ns v z n := by
  have L : TupLe H0 H := S.elim (fun S => S.tup) id
  cases h with
  | @blk p vs b e h =>
    obtain ⟨zs, hP, h1, h2⟩ := bk_ods5 (H := H) (ns := ns) h
    rw [h1]
    exact .blk e hP (by omega)
  | @th v t h =>
    cases t with
    | s s =>
      cases (show IsSum H v s from h) with
      | @num c i e =>
        have e2 : outs ns (Th.used (.s (.num i))) = [] := outs_nil.mpr fun x hx => nomatch hx
        rw [e2]
        exact .num e (Nat.le_refl _)
      | name e => exact .name e (Nat.le_refl _)
      | @op c o u w s t e h1 h2 =>
        have := Wy5.node2 (H0 := H0) (ns := ns) (n := s.sw + t.sw + 1) e (by cases o <;> decide +kernel) (by cases o <;> decide +kernel) (by cases o <;> decide +kernel) (by cases o <;> decide +kernel) (.th (t := .s s) h1) (.th (t := .s t) h2) (by show s.sw + t.sw + 1 ≤ _; omega)
        have e2 : outs ns (Th.used (.s (.op o s t))) = outs ns s.used ++ outs ns t.used := outs_app ..
        rw [e2]
        exact this
    | t t =>
      cases (show IsTest H v t from h) with
      | @less c u w s t e h1 h2 =>
        have := Wy5.node2 (H0 := H0) (ns := ns) (n := s.sw + t.sw + 1) e (by decide +kernel) (by decide +kernel) (by decide +kernel) (by decide +kernel) (.th (t := .s s) h1) (.th (t := .s t) h2) (by show s.sw + t.sw + 1 ≤ _; omega)
        have e2 : outs ns (Th.used (.t (.less s t))) = outs ns s.used ++ outs ns t.used := outs_app ..
        rw [e2]
        exact this
      | @same c u w s t e h1 h2 =>
        have := Wy5.node2 (H0 := H0) (ns := ns) (n := s.sw + t.sw + 1) e (by decide +kernel) (by decide +kernel) (by decide +kernel) (by decide +kernel) (.th (t := .s s) h1) (.th (t := .s t) h2) (by show s.sw + t.sw + 1 ≤ _; omega)
        have e2 : outs ns (Th.used (.t (.same s t))) = outs ns s.used ++ outs ns t.used := outs_app ..
        rw [e2]
        exact this
      | @not c u t e h1 =>
        have := Wy5.node1 (H0 := H0) (ns := ns) (n := t.sw + 1) e (by decide +kernel) (by decide +kernel) (by decide +kernel) (by decide +kernel) (.th (t := .t t) h1) (by show t.sw + 1 ≤ _; omega)
        have e2 : outs ns (Th.used (.t (.not t))) = outs ns t.used := rfl
        rw [e2]
        exact this
      | @both c u w s t e h1 h2 =>
        have := Wy5.node2 (H0 := H0) (ns := ns) (n := s.sw + t.sw + 1) e (by decide +kernel) (by decide +kernel) (by decide +kernel) (by decide +kernel) (.th (t := .t s) h1) (.th (t := .t t) h2) (by show s.sw + t.sw + 1 ≤ _; omega)
        have e2 : outs ns (Th.used (.t (.both s t))) = outs ns s.used ++ outs ns t.used := outs_app ..
        rw [e2]
        exact this
  | @od v b h =>
    cases h with
    | @set c x u s _ r e hs hr =>
      cases hr
      have := Wy5.set (H0 := H0) (ns := ns) (n := 1 + s.sw + 1 + 0) (L _ _ e) (.th (t := .s s) (hs.mono L)) (by show 1 + s.sw + 1 ≤ _; omega)
      have e2 : Bk.str ns (.set x s .nil) = outs ns [x] ++ outs ns s.used := by
        show outs ns ([x] ++ s.used) ++ [] = _
        rw [outs_app, List.append_nil]
      rw [e2]
      exact this
    | @say c u s _ r e hs hr =>
      cases hr
      have := Wy5.node1 (H0 := H0) (ns := ns) (n := s.sw + 1 + 0) (L _ _ e) (by decide +kernel) (by decide +kernel) (by decide +kernel) (by decide +kernel) (.th (t := .s s) (hs.mono L)) (by show s.sw + 1 ≤ _; omega)
      have e2 : Bk.str ns (.say s .nil) = outs ns s.used := List.append_nil _
      rw [e2]
      exact this
    | @when c p q u t vb vc _ b d r e ht n1 e1 h1 n2 e2' h2 hr =>
      cases hr
      have := Wy5.node3 (H0 := H0) (ns := ns) (n := t.sw + (b.sw + 1) + (d.sw + 1) + 1 + 0) (L _ _ e) (by decide +kernel) (by decide +kernel) (by decide +kernel) (by decide +kernel) (.th (t := .t t) (ht.mono L)) (.blk e1 h1) (.blk e2' h2) (by show t.sw + (b.sw + 1) + (d.sw + 1) + 1 ≤ _; omega)
      have e2 : Bk.str ns (.when t b d .nil) = outs ns t.used ++ (b.str ns ++ d.str ns) := by
        show outs ns t.used ++ b.str ns ++ d.str ns ++ [] = _
        rw [List.append_nil, List.append_assoc]
      rw [e2]
      exact this
    | @whil c p u t vb _ b r e ht n1 e1 h1 hr =>
      cases hr
      have := Wy5.node2 (H0 := H0) (ns := ns) (n := t.sw + (b.sw + 1) + 1 + 0) (L _ _ e) (by decide +kernel) (by decide +kernel) (by decide +kernel) (by decide +kernel) (.th (t := .t t) (ht.mono L)) (.blk e1 h1) (by show t.sw + (b.sw + 1) + 1 ≤ _; omega)
      have e2 : Bk.str ns (.whil t b .nil) = outs ns t.used ++ b.str ns := List.append_nil _
      rw [e2]
      exact this
    | @wit c p x u s vb _ b r e hs n1 e1 h1 hr =>
      cases hr
      have := Wy5.wit (H0 := H0) (ns := ns) (n := s.sw + (b.sw + 1) + 1 + 0) (L _ _ e) (.th (t := .s s) (hs.mono L)) (.blk e1 h1) (by show s.sw + (b.sw + 1) + 1 ≤ _; omega)
      have e2 : Bk.str ns (.wit x s b .nil) = outs ns s.used ++ b.str (ns ++ [x]) := List.append_nil _
      rw [e2]
      exact this
/-- a pair of a thing and its row -/
def So5 (D td : Addr) (H0 H : Hp) (v : V) (z : List Str × Nat) : Prop := ∃ a x l ns, v = .ref a ∧ H a = some (.tup [x, .ref l]) ∧ l ≠ D ∧ l ≠ td ∧ H l = some (.lst (ns.map V.str)) ∧ ns.length + z.2 ≤ 900000 ∧ Tg5 H0 H ns x z.1 z.2
theorem So5.mono {D td : Addr} {H0 H H' : Hp} (B : ∀ b o, b ≠ D → b ≠ td → H b = some o → H' b = some o) (L : TupLe H H') {v : V} {z : List Str × Nat} (h : So5 D td H0 H v z) : So5 D td H0 H' v z := by
  obtain ⟨a, x, l, ns, e, h1, n1, n2, h2, h3, h4⟩ := h
  exact ⟨a, x, l, ns, e, L _ _ h1, n1, n2, B _ _ n1 n2 h2, h3, h4.mono L⟩
end J

set_option Elab.async false
set_option linter.all false
set_option maxRecDepth 100000
set_option maxHeartbeats 4000000
namespace W05
open PySem L2 J
def top (i : Nat) : Stmt := PySem.Challenge.pw_jarcards_k05_strangers.main.body.getD i (.Pass ⟨0, 0, 0, 0⟩)
abbrev s_place_of : Stmt := top 4
theorem sc_place_of : FnScope ["names", "name", "place"] ["names", "name"] (defScope s_place_of) := ⟨rfl, rfl, rfl, by decide +kernel, rfl, by decide +kernel, by decide +kernel⟩
abbrev s_reckoned : Stmt := top 5
theorem sc_reckoned : FnScope ["word", "first", "second"] ["word", "first", "second"] (defScope s_reckoned) := ⟨rfl, rfl, rfl, by decide +kernel, rfl, by decide +kernel, by decide +kernel⟩
abbrev s_worth : Stmt := top 6
theorem sc_worth : FnScope ["part", "names", "values", "word"] ["part", "names", "values"] (defScope s_worth) := ⟨rfl, rfl, rfl, by decide +kernel, rfl, by decide +kernel, by decide +kernel⟩
abbrev s_holds : Stmt := top 7
theorem sc_holds : FnScope ["test", "names", "values", "word", "first", "second"] ["test", "names", "values"] (defScope s_holds) := ⟨rfl, rfl, rfl, by decide +kernel, rfl, by decide +kernel, by decide +kernel⟩
abbrev s_names_used : Stmt := top 8
theorem sc_names_used : FnScope ["part", "found", "inner"] ["part"] (defScope s_names_used) := ⟨rfl, rfl, rfl, by decide +kernel, rfl, by decide +kernel, by decide +kernel⟩
abbrev s_names_at_head : Stmt := top 11
theorem sc_names_at_head : FnScope ["order", "word"] ["order"] (defScope s_names_at_head) := ⟨rfl, rfl, rfl, by decide +kernel, rfl, by decide +kernel, by decide +kernel⟩
abbrev s_block_strangers : Stmt := top 12
theorem sc_block_strangers : FnScope ["block", "names", "found", "order", "word"] ["block", "names"] (defScope s_block_strangers) := ⟨rfl, rfl, rfl, by decide +kernel, rfl, by decide +kernel, by decide +kernel⟩
abbrev s_strangers : Stmt := top 13
theorem sc_strangers : FnScope ["program"] ["program"] (defScope s_strangers) := ⟨rfl, rfl, rfl, by decide +kernel, rfl, by decide +kernel, by decide +kernel⟩
abbrev s_Course_init : Stmt := inClass (top 14) 0
theorem sc_Course_init : FnScope ["self", "program", "starts", "oil"] ["self", "program", "starts", "oil"] (defScope s_Course_init) := ⟨rfl, rfl, rfl, by decide +kernel, rfl, by decide +kernel, by decide +kernel⟩
abbrev s_Course_put_ahead : Stmt := inClass (top 14) 1
theorem sc_Course_put_ahead : FnScope ["self", "block"] ["self", "block"] (defScope s_Course_put_ahead) := ⟨rfl, rfl, rfl, by decide +kernel, rfl, by decide +kernel, by decide +kernel⟩
abbrev s_Course_go : Stmt := inClass (top 14) 2
theorem sc_Course_go : FnScope ["self", "step"] ["self"] (defScope s_Course_go) := ⟨rfl, rfl, rfl, by decide +kernel, rfl, by decide +kernel, by decide +kernel⟩
abbrev s_Course_begin : Stmt := inClass (top 14) 3
theorem sc_Course_begin : FnScope ["self", "order", "word"] ["self", "order"] (defScope s_Course_begin) := ⟨rfl, rfl, rfl, by decide +kernel, rfl, by decide +kernel, by decide +kernel⟩
abbrev s_Course_begin_while : Stmt := inClass (top 14) 4
theorem sc_Course_begin_while : FnScope ["self", "order"] ["self", "order"] (defScope s_Course_begin_while) := ⟨rfl, rfl, rfl, by decide +kernel, rfl, by decide +kernel, by decide +kernel⟩
abbrev s_Course_begin_with : Stmt := inClass (top 14) 5
theorem sc_Course_begin_with : FnScope ["self", "order", "start"] ["self", "order"] (defScope s_Course_begin_with) := ⟨rfl, rfl, rfl, by decide +kernel, rfl, by decide +kernel, by decide +kernel⟩
abbrev s_Course_worth_now : Stmt := inClass (top 14) 6
theorem sc_Course_worth_now : FnScope ["self", "part"] ["self", "part"] (defScope s_Course_worth_now) := ⟨rfl, rfl, rfl, by decide +kernel, rfl, by decide +kernel, by decide +kernel⟩
abbrev s_Course_holds_now : Stmt := inClass (top 14) 7
theorem sc_Course_holds_now : FnScope ["self", "test"] ["self", "test"] (defScope s_Course_holds_now) := ⟨rfl, rfl, rfl, by decide +kernel, rfl, by decide +kernel, by decide +kernel⟩
abbrev s_followed : Stmt := top 15
theorem sc_followed : FnScope ["program", "starts", "oil", "unknown", "name", "course", "word"] ["program", "starts", "oil"] (defScope s_followed) := ⟨rfl, rfl, rfl, by decide +kernel, rfl, by decide +kernel, by decide +kernel⟩
abbrev s_sum_cards : Stmt := top 17
theorem sc_sum_cards : FnScope ["part", "names", "word"] ["part", "names"] (defScope s_sum_cards) := ⟨rfl, rfl, rfl, by decide +kernel, rfl, by decide +kernel, by decide +kernel⟩
abbrev s_both_cards : Stmt := top 18
theorem sc_both_cards : FnScope ["first", "second"] ["first", "second"] (defScope s_both_cards) := ⟨rfl, rfl, rfl, by decide +kernel, rfl, by decide +kernel, by decide +kernel⟩
abbrev s_test_cards : Stmt := top 19
theorem sc_test_cards : FnScope ["test", "names", "word"] ["test", "names"] (defScope s_test_cards) := ⟨rfl, rfl, rfl, by decide +kernel, rfl, by decide +kernel, by decide +kernel⟩
abbrev s_when_cards : Stmt := top 20
theorem sc_when_cards : FnScope ["test", "first", "second"] ["test", "first", "second"] (defScope s_when_cards) := ⟨rfl, rfl, rfl, by decide +kernel, rfl, by decide +kernel, by decide +kernel⟩
abbrev s_while_cards : Stmt := top 21
theorem sc_while_cards : FnScope ["test", "inner"] ["test", "inner"] (defScope s_while_cards) := ⟨rfl, rfl, rfl, by decide +kernel, rfl, by decide +kernel, by decide +kernel⟩
abbrev s_block_cards : Stmt := top 22
theorem sc_block_cards : FnScope ["block", "names", "made", "order", "word", "test"] ["block", "names"] (defScope s_block_cards) := ⟨rfl, rfl, rfl, by decide +kernel, rfl, by decide +kernel, by decide +kernel⟩
abbrev s_cards_of : Stmt := top 23
theorem sc_cards_of : FnScope ["program"] ["program"] (defScope s_cards_of) := ⟨rfl, rfl, rfl, by decide +kernel, rfl, by decide +kernel, by decide +kernel⟩
abbrev s_law_draw : Stmt := top 25
theorem sc_law_draw : FnScope ["_law_number", "_law_prime", "_law_many"] ["_law_number", "_law_prime", "_law_many"] (defScope s_law_draw) := ⟨rfl, rfl, rfl, by decide +kernel, rfl, by decide +kernel, by decide +kernel⟩
abbrev s_law_whole : Stmt := top 26
theorem sc_law_whole : FnScope ["_law_found"] ["_law_found"] (defScope s_law_whole) := ⟨rfl, rfl, rfl, by decide +kernel, rfl, by decide +kernel, by decide +kernel⟩
abbrev s_law_at : Stmt := top 27
theorem sc_law_at : FnScope ["_law_script", "_law_k"] ["_law_script", "_law_k"] (defScope s_law_at) := ⟨rfl, rfl, rfl, by decide +kernel, rfl, by decide +kernel, by decide +kernel⟩
abbrev s_law_alike : Stmt := top 28
theorem sc_law_alike : FnScope ["_law_found", "_law_due", "_law_left", "_law_right", "_law_one", "_law_two"] ["_law_found", "_law_due"] (defScope s_law_alike) := ⟨rfl, rfl, rfl, by decide +kernel, rfl, by decide +kernel, by decide +kernel⟩
abbrev s_law_leaf : Stmt := top 29
theorem sc_law_leaf : FnScope ["_law_salt", "_law_prime", "_law_second", "_law_scope", "_law_spot", "_law_number"] ["_law_salt", "_law_prime", "_law_second", "_law_scope"] (defScope s_law_leaf) := ⟨rfl, rfl, rfl, by decide +kernel, rfl, by decide +kernel, by decide +kernel⟩
abbrev s_law_sum_of : Stmt := top 30
theorem sc_law_sum_of : FnScope ["_law_salt", "_law_scope", "_law_way", "_law_less", "_law_one", "_law_two", "_law_turn", "_law_deep"] ["_law_salt", "_law_scope"] (defScope s_law_sum_of) := ⟨rfl, rfl, rfl, by decide +kernel, rfl, by decide +kernel, by decide +kernel⟩
abbrev s_law_test_of : Stmt := top 31
theorem sc_law_test_of : FnScope ["_law_salt", "_law_scope", "_law_way", "_law_one", "_law_least", "_law_other"] ["_law_salt", "_law_scope"] (defScope s_law_test_of) := ⟨rfl, rfl, rfl, by decide +kernel, rfl, by decide +kernel, by decide +kernel⟩
abbrev s_law_head_of : Stmt := top 32
theorem sc_law_head_of : FnScope ["_law_way", "_law_salt", "_law_scope", "_law_jars", "_law_jar"] ["_law_way", "_law_salt", "_law_scope"] (defScope s_law_head_of) := ⟨rfl, rfl, rfl, by decide +kernel, rfl, by decide +kernel, by decide +kernel⟩
abbrev s_law_close : Stmt := top 33
theorem sc_law_close : FnScope ["_law_blocks", "_law_heads", "_law_scope", "_law_salt", "_law_head", "_law_block", "_law_test"] ["_law_blocks", "_law_heads", "_law_scope", "_law_salt"] (defScope s_law_close) := ⟨rfl, rfl, rfl, by decide +kernel, rfl, by decide +kernel, by decide +kernel⟩
abbrev s_law_grown : Stmt := top 34
theorem sc_law_grown : FnScope ["_law_cells", "_law_names", "_law_more", "_law_blocks", "_law_heads", "_law_scope", "_law_k", "_law_way", "_law_salt", "_law_near", "_law_name"] ["_law_cells", "_law_names", "_law_more"] (defScope s_law_grown) := ⟨rfl, rfl, rfl, by decide +kernel, rfl, by decide +kernel, by decide +kernel⟩
abbrev s_law_strange : Stmt := top 35
theorem sc_law_strange : FnScope ["_law_program", "_law_found", "_law_todo", "_law_thing", "_law_names", "_law_inner"] ["_law_program"] (defScope s_law_strange) := ⟨rfl, rfl, rfl, by decide +kernel, rfl, by decide +kernel, by decide +kernel⟩
abbrev s_law_refuses_following : Stmt := top 36
theorem sc_law_refuses_following : FnScope ["_law_program", "_law_starts"] ["_law_program", "_law_starts"] (defScope s_law_refuses_following) := ⟨rfl, rfl, rfl, by decide +kernel, rfl, by decide +kernel, by decide +kernel⟩
abbrev s_law_refuses_cards : Stmt := top 37
theorem sc_law_refuses_cards : FnScope ["_law_program"] ["_law_program"] (defScope s_law_refuses_cards) := ⟨rfl, rfl, rfl, by decide +kernel, rfl, by decide +kernel, by decide +kernel⟩
abbrev s_law_names_of : Stmt := top 38
theorem sc_law_names_of : FnScope ["_law_cell", "_law_made", "_law_k", "_law_letter", "_law_more", "_law_size", "_law_spot", "_law_letters"] ["_law_cell"] (defScope s_law_names_of) := ⟨rfl, rfl, rfl, by decide +kernel, rfl, by decide +kernel, by decide +kernel⟩
abbrev s_law : Stmt := top 39
theorem sc_law : FnScope ["_law_script", "_law_names", "_law_more", "_law_program", "_law_handed", "_law_due", "_law_found"] ["_law_script"] (defScope s_law) := ⟨rfl, rfl, rfl, by decide +kernel, rfl, by decide +kernel, by decide +kernel⟩
structure Er (K : PySem.W.Frag) (mg : Str → Option Value) where
  cJarError : Addr
  mJarError : mg "JarError" = some (.ref cJarError)
  qJarError : PySem.W.excIn K cJarError veB "ValueError.__new__" = true
  cNoName : Addr
  mNoName : mg "NoName" = some (.ref cNoName)
  qNoName : PySem.W.excIn K cNoName veB "ValueError.__new__" = true
structure Txt (K : PySem.W.Frag) (mg : Str → Option Value) where
  c_Course : Addr
  cl_Course : Cls K c_Course
  mg_Course : mg "Course" = some (.ref c_Course)
  na_Course_row : NoAttr K c_Course "row"
  na_Course_held : NoAttr K c_Course "held"
  na_Course_said : NoAttr K c_Course "said"
  na_Course_oil : NoAttr K c_Course "oil"
  na_Course_used : NoAttr K c_Course "used"
  na_Course_ahead : NoAttr K c_Course "ahead"
  f_place_of : Addr
  fd_place_of : FuncData
  place_of : Def K mg "place_of" s_place_of ["names", "name"] f_place_of fd_place_of
  f_reckoned : Addr
  fd_reckoned : FuncData
  reckoned : Def K mg "reckoned" s_reckoned ["word", "first", "second"] f_reckoned fd_reckoned
  f_worth : Addr
  fd_worth : FuncData
  worth : Def K mg "worth" s_worth ["part", "names", "values"] f_worth fd_worth
  f_holds : Addr
  fd_holds : FuncData
  holds : Def K mg "holds" s_holds ["test", "names", "values"] f_holds fd_holds
  f_names_used : Addr
  fd_names_used : FuncData
  names_used : Def K mg "names_used" s_names_used ["part"] f_names_used fd_names_used
  f_names_at_head : Addr
  fd_names_at_head : FuncData
  names_at_head : Def K mg "names_at_head" s_names_at_head ["order"] f_names_at_head fd_names_at_head
  f_block_strangers : Addr
  fd_block_strangers : FuncData
  block_strangers : Def K mg "block_strangers" s_block_strangers ["block", "names"] f_block_strangers fd_block_strangers
  f_strangers : Addr
  fd_strangers : FuncData
  strangers : Def K mg "strangers" s_strangers ["program"] f_strangers fd_strangers
  f_Course_init : Addr
  fd_Course_init : FuncData
  Course_init : MDef K "__init__" "Course.__init__" s_Course_init ["self", "program", "starts", "oil"] f_Course_init fd_Course_init
  me_Course_init : Meth K c_Course "__init__" f_Course_init
  f_Course_put_ahead : Addr
  fd_Course_put_ahead : FuncData
  Course_put_ahead : MDef K "put_ahead" "Course.put_ahead" s_Course_put_ahead ["self", "block"] f_Course_put_ahead fd_Course_put_ahead
  me_Course_put_ahead : Meth K c_Course "put_ahead" f_Course_put_ahead
  f_Course_go : Addr
  fd_Course_go : FuncData
  Course_go : MDef K "go" "Course.go" s_Course_go ["self"] f_Course_go fd_Course_go
  me_Course_go : Meth K c_Course "go" f_Course_go
  f_Course_begin : Addr
  fd_Course_begin : FuncData
  Course_begin : MDef K "begin" "Course.begin" s_Course_begin ["self", "order"] f_Course_begin fd_Course_begin
  me_Course_begin : Meth K c_Course "begin" f_Course_begin
  f_Course_begin_while : Addr
  fd_Course_begin_while : FuncData
  Course_begin_while : MDef K "begin_while" "Course.begin_while" s_Course_begin_while ["self", "order"] f_Course_begin_while fd_Course_begin_while
  me_Course_begin_while : Meth K c_Course "begin_while" f_Course_begin_while
  f_Course_begin_with : Addr
  fd_Course_begin_with : FuncData
  Course_begin_with : MDef K "begin_with" "Course.begin_with" s_Course_begin_with ["self", "order"] f_Course_begin_with fd_Course_begin_with
  me_Course_begin_with : Meth K c_Course "begin_with" f_Course_begin_with
  f_Course_worth_now : Addr
  fd_Course_worth_now : FuncData
  Course_worth_now : MDef K "worth_now" "Course.worth_now" s_Course_worth_now ["self", "part"] f_Course_worth_now fd_Course_worth_now
  me_Course_worth_now : Meth K c_Course "worth_now" f_Course_worth_now
  f_Course_holds_now : Addr
  fd_Course_holds_now : FuncData
  Course_holds_now : MDef K "holds_now" "Course.holds_now" s_Course_holds_now ["self", "test"] f_Course_holds_now fd_Course_holds_now
  me_Course_holds_now : Meth K c_Course "holds_now" f_Course_holds_now
  f_followed : Addr
  fd_followed : FuncData
  followed : Def K mg "followed" s_followed ["program", "starts", "oil"] f_followed fd_followed
  f_sum_cards : Addr
  fd_sum_cards : FuncData
  sum_cards : Def K mg "sum_cards" s_sum_cards ["part", "names"] f_sum_cards fd_sum_cards
  f_both_cards : Addr
  fd_both_cards : FuncData
  both_cards : Def K mg "both_cards" s_both_cards ["first", "second"] f_both_cards fd_both_cards
  f_test_cards : Addr
  fd_test_cards : FuncData
  test_cards : Def K mg "test_cards" s_test_cards ["test", "names"] f_test_cards fd_test_cards
  f_when_cards : Addr
  fd_when_cards : FuncData
  when_cards : Def K mg "when_cards" s_when_cards ["test", "first", "second"] f_when_cards fd_when_cards
  f_while_cards : Addr
  fd_while_cards : FuncData
  while_cards : Def K mg "while_cards" s_while_cards ["test", "inner"] f_while_cards fd_while_cards
  f_block_cards : Addr
  fd_block_cards : FuncData
  block_cards : Def K mg "block_cards" s_block_cards ["block", "names"] f_block_cards fd_block_cards
  f_cards_of : Addr
  fd_cards_of : FuncData
  cards_of : Def K mg "cards_of" s_cards_of ["program"] f_cards_of fd_cards_of
  f_law_draw : Addr
  fd_law_draw : FuncData
  law_draw : Def K mg "_law_draw" s_law_draw ["_law_number", "_law_prime", "_law_many"] f_law_draw fd_law_draw
  f_law_whole : Addr
  fd_law_whole : FuncData
  law_whole : Def K mg "_law_whole" s_law_whole ["_law_found"] f_law_whole fd_law_whole
  f_law_at : Addr
  fd_law_at : FuncData
  law_at : Def K mg "_law_at" s_law_at ["_law_script", "_law_k"] f_law_at fd_law_at
  f_law_alike : Addr
  fd_law_alike : FuncData
  law_alike : Def K mg "_law_alike" s_law_alike ["_law_found", "_law_due"] f_law_alike fd_law_alike
  f_law_leaf : Addr
  fd_law_leaf : FuncData
  law_leaf : Def K mg "_law_leaf" s_law_leaf ["_law_salt", "_law_prime", "_law_second", "_law_scope"] f_law_leaf fd_law_leaf
  f_law_sum_of : Addr
  fd_law_sum_of : FuncData
  law_sum_of : Def K mg "_law_sum_of" s_law_sum_of ["_law_salt", "_law_scope"] f_law_sum_of fd_law_sum_of
  f_law_test_of : Addr
  fd_law_test_of : FuncData
  law_test_of : Def K mg "_law_test_of" s_law_test_of ["_law_salt", "_law_scope"] f_law_test_of fd_law_test_of
  f_law_head_of : Addr
  fd_law_head_of : FuncData
  law_head_of : Def K mg "_law_head_of" s_law_head_of ["_law_way", "_law_salt", "_law_scope"] f_law_head_of fd_law_head_of
  f_law_close : Addr
  fd_law_close : FuncData
  law_close : Def K mg "_law_close" s_law_close ["_law_blocks", "_law_heads", "_law_scope", "_law_salt"] f_law_close fd_law_close
  f_law_grown : Addr
  fd_law_grown : FuncData
  law_grown : Def K mg "_law_grown" s_law_grown ["_law_cells", "_law_names", "_law_more"] f_law_grown fd_law_grown
  f_law_strange : Addr
  fd_law_strange : FuncData
  law_strange : Def K mg "_law_strange" s_law_strange ["_law_program"] f_law_strange fd_law_strange
  f_law_refuses_following : Addr
  fd_law_refuses_following : FuncData
  law_refuses_following : Def K mg "_law_refuses_following" s_law_refuses_following ["_law_program", "_law_starts"] f_law_refuses_following fd_law_refuses_following
  f_law_refuses_cards : Addr
  fd_law_refuses_cards : FuncData
  law_refuses_cards : Def K mg "_law_refuses_cards" s_law_refuses_cards ["_law_program"] f_law_refuses_cards fd_law_refuses_cards
  f_law_names_of : Addr
  fd_law_names_of : FuncData
  law_names_of : Def K mg "_law_names_of" s_law_names_of ["_law_cell"] f_law_names_of fd_law_names_of
  f_law : Addr
  fd_law : FuncData
  law : Def K mg "law" s_law ["_law_script"] f_law fd_law
  mk_Course : Mk K c_Course f_Course_init
  a_AWAY : Addr
  m_AWAY : mg "AWAY" = some (.ref a_AWAY)
  k_AWAY : ∀ H : Hp, TpK K H a_AWAY [.str "away"]
  er : Er K mg
  b_len : mg "len" = none
  b_range : mg "range" = none
  b_isinstance : mg "isinstance" = none
  b_list : mg "list" = none
  b_tuple : mg "tuple" = none
  b_str : mg "str" = none
  b_int : mg "int" = none
  b_bool : mg "bool" = none
  b_reversed : mg "reversed" = none
section
variable {P : Program} {w : World} {K : PySem.W.Frag} {mg : Str → Option Value} {base : Heap}
/-! ### reckoned, _law_joined -/
def spReck : Sp := fun vs H Q _ => ∃ (o : O3) (i j : Int), vs = [.str o.w, .int i, .int j] ∧ (o = .mul → IntMulOk i j) ∧ Q (.int (o.f i j)) H
theorem ok_reckoned (T : Txt K mg) : FnOk P w K mg base CX0 1 T.f_reckoned T.fd_reckoned ["word", "first", "second"] spReck := by
  refine T.reckoned.F.ok sc_reckoned (fun vs H Q E h => ?_) (fun cdv A outer s H vs Q E hr h => ?_)
  · obtain ⟨o, i, j, rfl, _⟩ := h; rfl
  obtain ⟨o, i, j, rfl, hm, q⟩ := h
  refine ⟨_, (pss_cons (ps_if (pt_cmpR op_eq (pv 0) pe_str (nomark _)) (pss_one (ps_ret (pe_op op_add (pv 1) (pv 2)))) pss_nil)
    (pss_cons (ps_if (pt_cmpR op_eq (pv 0) pe_str (nomark _)) (pss_one (ps_ret (pe_op op_sub (pv 1) (pv 2)))) pss_nil)
    (pss_one (ps_ret (pe_op op_mulB (pv 1) (pv 2)))))), ?_⟩
  cases o
  · refine ⟨_, rfl, rfl, _, rfl, iteT' (by decide +kernel) ⟨_, rfl, _, rfl, _, _, rfl, rfl, q⟩⟩
  · refine ⟨_, rfl, rfl, _, rfl, iteF' (by decide +kernel) ⟨_, rfl, rfl, _, rfl, iteT' (by decide +kernel) ⟨_, rfl, _, rfl, _, _, rfl, rfl, q⟩⟩⟩
  · refine ⟨_, rfl, rfl, _, rfl, iteF' (by decide +kernel) ⟨_, rfl, rfl, _, rfl, iteF' (by decide +kernel) ⟨_, rfl, _, rfl, _, _, rfl, rfl, hm rfl, q⟩⟩⟩
end
section
variable {P : Program} {w : World} {K : PySem.W.Frag} {mg : Str → Option Value} {base : Heap}
/-! ### place_of -/
def spPlaceX (K : PySem.W.Frag) (C : Addr) : Sp := fun vs H Q E => ∃ (a : Addr) (ns : List Str) (x : Str), vs = [.ref a, .str x] ∧ SqL K H a (ns.map V.str) ∧ ns.length ≤ 1000 ∧ (∀ i, lastIx ns x = some i → Q (.int i) H) ∧ (lastIx ns x = none → x.length ≤ 1000 ∧ E (.ref C) none H)
theorem ok_place_ofX (T : Txt K mg) : FnOk P w K mg base (CX1 P w) 1 T.f_place_of T.fd_place_of ["names", "name"] (spPlaceX K T.er.cNoName) := by
  refine T.place_of.F.okX sc_place_of (fun vs H Q E h => ?_) (fun cdv A outer s H vs Q E hr h => ?_)
  · obtain ⟨a, ns, x, rfl, _⟩ := h; rfl
  obtain ⟨a, ns, x, rfl, hS, hn, q, hE⟩ := h
  refine ⟨_, (pss_cons (ps_for PassesOwn.leaving rfl (pi_rangeD rfl T.b_range (pa_cons (pe_op op_sub (pe_callB call_len_seq rfl T.b_len PySem.boot_len (pa_cons (pv 0) pa_nil)) pe_int) (pa_cons (pe_un un_neg pe_int) (pa_cons (pe_un un_neg pe_int) pa_nil)))) (pg_name (i := 2) sc_place_of.nd rfl (Or.inl rfl)) (pss_one (ps_if (pt_cmpR op_eq (pe_ix ix_list (pv 0) (pv 2) (fun _ _ => rfl)) (pv 1) (nomark _)) (pss_one (ps_ret (pv 2))) pss_nil)))
    (pss_one (ps_raise cx_lands rfl rfl T.er.mNoName T.er.qNoName F.excBase_ValueError (by decide) F.excBase_ValueError (pa_cons (pe_fstr2 pe_str (pv 1)) pa_nil)))), ?_⟩
  have hl : (ns.map V.str).length = ns.length := List.length_map _
  refine ⟨_, rfl, a, _, rfl, .inl hS, _, _, rfl, rfl, _, rfl, _, rfl, _, _, rfl, ⟨by rw [hl]; omega, by rw [hl]; omega, by omega, by omega⟩, ?_⟩
  have hcnt : (((ns.map V.str).length : Int) - 1 - -1).toNat = ns.length := by rw [hl]; omega
  rw [hcnt]
  refine for_rangeD (fun k σ H' => ∃ o, σ = [some (.ref a), some (.str x), o] ∧ H' = H ∧ ∀ j : Nat, ns.length ≤ j + k → ns[j]? ≠ some x) ⟨none, rfl, rfl, fun j hj => ?_⟩ ?_ ?_
  · rw [List.getElem?_eq_none (by omega)]; simp
  · rintro k σ H' hk ⟨o, rfl, rfl, hno⟩
    have hlt : ns.length - 1 - k < ns.length := by omega
    have e : (((ns.map V.str).length : Int) - 1) - (k : Int) = ((ns.length - 1 - k : Nat) : Int) := by rw [hl]; omega
    have hy : ns[ns.length - 1 - k]? = some ns[ns.length - 1 - k] := List.getElem?_eq_getElem hlt
    have hv : atI (ns.map V.str) ((((ns.map V.str).length : Int) - 1) - (k : Int)) = some (.str ns[ns.length - 1 - k]) := by
      rw [e]; exact atI_nat (by rw [List.getElem?_map, hy]; rfl)
    refine ⟨_, rfl, _, rfl, _, _, _, _, rfl, rfl, hS, hv, _, rfl, rfl, _, rfl, ?_⟩
    refine ite2 (fun c => ?_) (fun c => ?_)
    · have c' : V.str ns[ns.length - 1 - k] = V.str x := of_decide_eq_true c
      injection c' with c'
      refine ⟨_, rfl, ?_⟩
      have hmem : x ∈ ns := by rw [← c']; exact List.getElem_mem _
      obtain ⟨i, hi⟩ := lastIx_mem hmem
      have hii : i = ns.length - 1 - k := lastIx_uniq hi (by rw [hy, c']) fun j hj => hno j (by omega)
      show Q (.int _) _
      rw [e, ← hii]
      exact q i hi
    · have c' : ¬ V.str ns[ns.length - 1 - k] = V.str x := of_decide_eq_false (Bool.eq_false_iff.mpr c)
      refine ⟨_, rfl, rfl, fun j hj => ?_⟩
      by_cases hjj : j = ns.length - 1 - k
      · subst hjj
        rw [hy]
        intro z
        exact c' (by rw [Option.some.inj z])
      · exact hno j (by omega)
  · rintro σ H' ⟨o, rfl, rfl, hno⟩
    have hnone : lastIx ns x = none := by
      cases q0 : lastIx ns x with
      | none => rfl
      | some i => exact absurd (lastIx_get q0) (hno i (by omega))
    obtain ⟨hx, hE⟩ := hE hnone
    have hz : (PySem.Str.ofString "no jar is called ").length = 17 := by decide
    refine ⟨_, rfl, (by rw [hz]; decide), _, rfl, _, rfl, (by rw [sizeLine_eq]; omega), (by rw [Str.length_append, hz, sizeLine_eq]; omega), (by show 1 ≤ sizeLine; decide), hE⟩
def spPlace (K : PySem.W.Frag) : Sp := fun vs H Q _ => ∃ (a : Addr) (ns : List Str) (x : Str) (i : Nat), vs = [.ref a, .str x] ∧ SqL K H a (ns.map V.str) ∧ ns.length ≤ 1000 ∧ lastIx ns x = some i ∧ Q (.int i) H
theorem ok_place_of (T : Txt K mg) : FnOk P w K mg base CX0 1 T.f_place_of T.fd_place_of ["names", "name"] (spPlace K) :=
  (ok_place_ofX T).calm fun vs H Q E h => by
    obtain ⟨a, ns, x, i, rfl, hS, hn, hi, q⟩ := h
    refine ⟨a, ns, x, rfl, hS, hn, fun j hj => ?_, fun hj => ?_⟩
    · rw [hi] at hj; cases hj; exact q
    · rw [hi] at hj; cases hj
end
end W05

set_option Elab.async false
set_option linter.all false
set_option maxRecDepth 100000
set_option maxHeartbeats 4000000
namespace W05
open PySem L2 J
section
variable {P : Program} {w : World} {K : PySem.W.Frag} {mg : Str → Option Value} {base : Heap}
/-! ### names_used, names_at_head, block_strangers, strangers -/
def spUsed (n : Nat) : Sp := fun vs H Q _ => ∃ (u : V) (s : Th), vs = [u] ∧ IsTh H u s ∧ s.dp ≤ n ∧ s.used.length ≤ 100000 ∧
  ∀ p H', Same H H' → H p = none → H' p = some (.lst (List.map V.str s.used)) → Q (.ref p) H'
def PNames (H : Hp) (c D : Addr) (ths : List Th) (i : Nat) (σ : St) (H' : Hp) : Prop :=
  ∃ o2, σ = [some (.ref c), some (.ref D), o2] ∧ Same H H' ∧ H' D = some (.lst (List.map V.str (((ths.take i).map Th.used).flatten)))
theorem ok_names_used (T : Txt K mg) : ∀ n : Nat, FnOk P w K mg base CX0 (n + 1) T.f_names_used T.fd_names_used ["part"] (spUsed n)
  | 0 => by
    have no : ∀ vs H Q E, ¬ spUsed 0 vs H Q E := fun vs H Q E h => by
      obtain ⟨u, s, _, _, h1, _⟩ := h
      cases s with
      | s s => cases s <;> simp [Th.dp, Sm.dp] at h1
      | t t => cases t <;> simp [Th.dp, Ts.dp] at h1
    exact ⟨fun vs H Q E h => absurd h (no vs H Q E), fun A outer s H args us vs Q E _ _ _ _ h => absurd h (no vs H Q E)⟩
  | n + 1 => by
    have G_names_used := ok_names_used T n
    refine T.names_used.F.ok sc_names_used (fun vs H Q E h => ?_) (fun cdv A outer s H vs Q E hr h => ?_)
    · obtain ⟨u, s, rfl, _⟩ := h; rfl
    obtain ⟨u, s, rfl, hu, hd, hc, q⟩ := h
    have one : (1 : Nat) ≤ sizeLine := by decide
    refine ⟨_, (pss_cons (ps_if (pt_cmpR op_eq (pe_ix ix_tup (pv 0) pe_int (fun _ _ => rfl)) pe_str (nomark _)) (pss_one (ps_ret (pe_lst pa_nil))) pss_nil)
    (pss_cons (ps_if (pt_cmpR op_eq (pe_ix ix_tup (pv 0) pe_int (fun _ _ => rfl)) pe_str (nomark _)) (pss_one (ps_ret (pe_lst (pa_cons (pe_ix ix_tup (pv 0) pe_int (fun _ _ => rfl)) pa_nil)))) pss_nil)
    (pss_cons (ps_set (i := 1) sc_names_used.nd rfl (Or.inl rfl) (pe_lst pa_nil))
    (pss_cons (ps_for PassesOwn.never rfl (pi_tup (pe_slice sl_tup (pv 0) (po_some pe_int) po_none)) (pg_name (i := 2) sc_names_used.nd rfl (Or.inl rfl)) (pss_one (ps_expr (pe_bm PySem.F.plainAttrs_list PySem.F.slot_list_extend PySem.F.type_list_extend mt_extendP (pv 1) (pa_cons (pe_call G_names_used hr rfl T.names_used.m T.names_used.F.kp T.names_used.b .nil pass0 (pa_cons (pv 2) pa_nil)) pa_nil)))))
    (pss_one (ps_ret (pv 1))))))), ?_⟩
    rcases nd5 hu hd with ⟨c, i, rfl, e, ec⟩ | ⟨c, x, rfl, e, ec⟩ | ⟨c, wd, us, ths, N⟩
    · rw [ec] at q
      refine ⟨_, rfl, _, _, _, _, rfl, rfl, SqT.of e, at0, rfl, _, rfl, iteT' (by decide +kernel) ?_⟩
      refine ⟨Nat.zero_le _, fun p hp => ?_⟩
      exact q p _ (same_new hp _) hp upd_same
    · rw [ec] at q
      refine ⟨_, rfl, _, _, _, _, rfl, rfl, SqT.of e, at0, rfl, _, rfl, iteF' (by decide +kernel) ?_⟩
      refine ⟨_, rfl, _, _, _, _, rfl, rfl, SqT.of e, at0, rfl, _, rfl, iteT' (by decide +kernel) ?_⟩
      refine ⟨_, rfl, _, _, _, _, rfl, rfl, SqT.of e, atI_nat (j := 1) rfl, one, fun p hp => ?_⟩
      exact q p _ (same_new hp _) hp upd_same
    · obtain ⟨rfl, e, hP, no1, no2, no3, no4, hok, few, hz⟩ := N
      rw [hz] at q hc
      refine ⟨_, rfl, _, _, _, _, rfl, rfl, SqT.of e, at0, rfl, _, rfl, iteF' no1 ?_⟩
      refine ⟨_, rfl, _, _, _, _, rfl, rfl, SqT.of e, at0, rfl, _, rfl, iteF' no2 ?_⟩
      refine ⟨Nat.zero_le _, fun D hD => ?_⟩
      have S0 := same_new hD (.lst [])
      have eD : upd H D (.lst []) D = some (.lst (List.map V.str [])) := upd_same
      generalize upd H D (.lst []) = H0 at S0 eD
      refine ⟨_, rfl, _, rfl, _, _, rfl, SqT.of (S0 _ _ e), (by rw [List.length_cons]; exact not_whole _), fun p hpn => ?_⟩
      have S1 := S0.trans (same_new hpn (.tup (cutV (.str wd :: us) (some 1) none)))
      have eD1 := same_new hpn (.tup (cutV (.str wd :: us) (some 1) none)) _ _ eD
      have e1 : upd H0 p (.tup (cutV (.str wd :: us) (some 1) none)) p = some (.tup us) := by rw [upd_same, cutV_tail]
      generalize upd H0 p (.tup (cutV (.str wd :: us) (some 1) none)) = H1 at S1 e1 eD1
      have ul := plen hP
      refine ⟨p, rfl, ⟨_, SqT.of e1⟩, ?_⟩
      refine for_tup (xs := us) (fun i σ H' => Same H1 H' ∨ True → H' p = some (.tup us) ∧ PNames H c D ths i σ H') (fun _ => ⟨e1, none, rfl, S1, eD1⟩) (fun i σ H' _ z => SqT.of (z (.inr trivial)).1) ?_ ?_
      · intro i x σ H' hx z
        obtain ⟨e1', o2, rfl, S, hD'⟩ := z (.inr trivial)
        obtain ⟨t, ht, hxt⟩ := pget hP hx
        have htm : t ∈ ths := List.mem_of_getElem? ht
        have et : ((ths.take (i + 1)).map Th.used).flatten = ((ths.take i).map Th.used).flatten ++ t.used := by
          rw [List.take_add_one, ht]
          simp
        have hle : (((ths.take i).map Th.used).flatten).length + t.used.length ≤ 100000 := by
          rw [← List.length_append, ← et]
          refine Nat.le_trans ?_ hc
          have := List.take_append_drop (i + 1) ths
          conv => rhs; rw [← this, List.map_append, List.flatten_append, List.length_append]
          omega
        refine ⟨_, rfl, .inl ⟨rfl, _, SqL.of hD'⟩, _, rfl, ?_⟩
        refine ⟨x, t, rfl, hxt.mono S.tup, hok t htm, by omega, fun p2 H2 S2 f2 e2 => ?_⟩
        refine ⟨D, p2, _, _, rfl, rfl, S2 _ _ hD', .inl e2, by rw [sizeLine_eq, List.length_map, List.length_map]; omega, fun _ => ?_⟩
        have npD : p ≠ D := fun z => by rw [z, hD'] at e1'; cases e1'
        refine ⟨by rw [upd_ne npD]; exact S2 _ _ e1', _, rfl, Same.at (S.trans S2) hD _, by rw [upd_same, et, List.map_append]⟩
      · intro σ H' z
        obtain ⟨e1', o2, rfl, S, hD'⟩ := z (.inr trivial)
        rw [List.take_of_length_le (by omega)] at hD'
        exact ⟨_, rfl, q D H' S hD hD'⟩
def HdN (hn : List Str) (H : Hp) (c : Addr) : Prop :=
  (∃ x u s, H c = some (.tup [.str "set", .str x, u]) ∧ IsSum H u s ∧ s.dp ≤ 20 ∧ hn = x :: s.used) ∨ (∃ x u s r, H c = some (.tup [.str "with", .str x, u, r]) ∧ IsSum H u s ∧ s.dp ≤ 20 ∧ hn = s.used) ∨
  ∃ wd u th r, H c = some (.tup (.str wd :: u :: r)) ∧ decide (V.str wd = V.str "set") = false ∧ decide (V.str wd = V.str "with") = false ∧ IsTh H u th ∧ th.dp ≤ 20 ∧ hn = th.used
def spHeadN : Sp := fun vs H Q _ => ∃ (c : Addr) (hn : List Str), vs = [.ref c] ∧ HdN hn H c ∧ hn.length ≤ 1000 ∧
  ∀ p H', Same H H' → H p = none → H' p = some (.lst (List.map V.str hn)) → Q (.ref p) H'
theorem ok_names_at_head (T : Txt K mg) : FnOk P w K mg base CX0 22 T.f_names_at_head T.fd_names_at_head ["order"] spHeadN := by
  have G_names_used := ok_names_used (P := P) (w := w) (base := base) T 20
  refine T.names_at_head.F.ok sc_names_at_head (fun vs H Q E h => ?_) (fun cdv A outer s H vs Q E hr h => ?_)
  · obtain ⟨c, ns, rfl, _⟩ := h; rfl
  obtain ⟨c, hn, rfl, hc, hl, q⟩ := h
  have one : (1 : Nat) ≤ sizeLine := by decide
  refine ⟨_, (pss_cons (ps_set (i := 1) sc_names_at_head.nd rfl (Or.inl rfl) (pe_ix ix_tup (pv 0) pe_int (fun _ _ => rfl)))
    (pss_cons (ps_if (pt_cmpR op_eq (pv 1) pe_str (nomark _)) (pss_one (ps_ret (pe_op op_cat (pe_lst (pa_cons (pe_ix ix_tup (pv 0) pe_int (fun _ _ => rfl)) pa_nil)) (pe_call G_names_used hr rfl T.names_used.m T.names_used.F.kp T.names_used.b .nil pass0 (pa_cons (pe_ix ix_tup (pv 0) pe_int (fun _ _ => rfl)) pa_nil))))) pss_nil)
    (pss_cons (ps_if (pt_cmpR op_eq (pv 1) pe_str (nomark _)) (pss_one (ps_ret (pe_call G_names_used hr rfl T.names_used.m T.names_used.F.kp T.names_used.b .nil pass0 (pa_cons (pe_ix ix_tup (pv 0) pe_int (fun _ _ => rfl)) pa_nil)))) pss_nil)
    (pss_one (ps_ret (pe_call G_names_used hr rfl T.names_used.m T.names_used.F.kp T.names_used.b .nil pass0 (pa_cons (pe_ix ix_tup (pv 0) pe_int (fun _ _ => rfl)) pa_nil))))))), ?_⟩
  rcases hc with ⟨x, u, s, e, hs, hd, rfl⟩ | ⟨x, u, s, r, e, hs, hd, rfl⟩ | ⟨wd, u, th, r, e, no1, no2, ht, hd, rfl⟩
  · rw [List.length_cons] at hl
    refine ⟨_, rfl, _, _, _, _, rfl, rfl, SqT.of e, at0, ?_⟩
    refine ⟨_, rfl, rfl, _, rfl, iteT' (by decide +kernel) ?_⟩
    refine ⟨_, rfl, _, _, _, _, rfl, rfl, SqT.of e, atI_nat (j := 1) rfl, one, fun p1 hp1 => ?_⟩
    have S1 := same_new hp1 (.lst [V.str x])
    have e1 : upd H p1 (.lst [V.str x]) p1 = some (.lst [V.str x]) := upd_same
    generalize upd H p1 (.lst [V.str x]) = H1 at S1 e1
    refine ⟨_, rfl, _, _, _, _, rfl, rfl, SqT.of (S1 _ _ e), atI_nat (j := 2) rfl, ?_⟩
    refine ⟨u, .s s, rfl, (hs.mono S1.tup : IsSum H1 u s), hd, (by show s.used.length ≤ 100000; omega), fun p2 H2 S2 f2 e2 => ?_⟩
    have e2' : H2 p2 = some (.lst (List.map V.str s.used)) := e2
    refine ⟨p1, p2, _, _, rfl, rfl, S2 _ _ e1, e2', by rw [sizeLine_eq, List.length_map]; show 1 + _ ≤ _; omega, fun p3 hp3 => ?_⟩
    exact q p3 _ (S1.trans (S2.trans (same_new hp3 _))) ((S1.trans S2).free hp3) upd_same
  · refine ⟨_, rfl, _, _, _, _, rfl, rfl, SqT.of e, at0, ?_⟩
    refine ⟨_, rfl, rfl, _, rfl, iteF' (by decide +kernel) ?_⟩
    refine ⟨_, rfl, rfl, _, rfl, iteT' (by decide +kernel) ?_⟩
    refine ⟨_, rfl, _, _, _, _, rfl, rfl, SqT.of e, atI_nat (j := 2) rfl, ?_⟩
    exact ⟨u, .s s, rfl, hs, hd, (by show s.used.length ≤ 100000; omega), q⟩
  · refine ⟨_, rfl, _, _, _, _, rfl, rfl, SqT.of e, at0, ?_⟩
    refine ⟨_, rfl, rfl, _, rfl, iteF' no1 ?_⟩
    refine ⟨_, rfl, rfl, _, rfl, iteF' no2 ?_⟩
    refine ⟨_, rfl, _, _, _, _, rfl, rfl, SqT.of e, atI_nat (j := 1) rfl, ?_⟩
    exact ⟨u, th, rfl, ht, hd, by omega, q⟩
theorem strange_head {H' : Hp} {R : V → Hp → Prop} {lb a D c : Addr} {o4 : Option V} {ns hn : List Str} (hA : H' a = some (.lst (ns.map V.str))) (hc : HdN hn H' c) (hl : hn.length ≤ 1000) (q : ∀ p H'', Same H' H'' → H' p = none → H'' p = some (.lst ((outs ns hn).map V.str)) → R (.ref p) H'') :
    tComp (iList K (tCall spHeadN [] E0 (tCons (tVar 3) tNil))) [1] (tTest (tOp (rIn K true) (tVar 0) (tVar 1))) (tVar 0) [some (.ref lb), some (.ref a), some (.ref D), some (.ref c), o4] H' R := by
  refine ⟨_, rfl, c, hn, rfl, hc, hl, fun p H1 S1 f1 e1 => ⟨p, rfl, ⟨_, SqL.of e1⟩, fun D2 hD2 => ?_⟩⟩
  refine comp_list (K := K) (xs := hn.map V.str) (fun i H2 => Same H1 H2 ∧ H2 D2 = some (.lst ((outs ns (hn.take i)).map V.str))) ⟨same_new hD2 _, by rw [upd_same, List.take_zero, outs_nil.mpr (by simp)]; rfl⟩ (fun i H2 z => SqL.of (z.1 _ _ e1)) ?_ ?_
  · rintro i x H2 hx ⟨S2, e2⟩
    rw [List.getElem?_map] at hx
    cases hp : hn[i]? with
    | none => rw [hp] at hx; cases hx
    | some y =>
      rw [hp] at hx
      cases hx
      have et : hn.take (i + 1) = hn.take i ++ [y] := by rw [List.take_add_one, hp]; rfl
      have hol := outs_len ns (hn.take i)
      have htl : (hn.take i).length ≤ hn.length := by rw [List.length_take]; omega
      refine ⟨_, rfl, _, rfl, a, ns.map V.str, rfl, .inl (SqL.of (S2 _ _ (S1 _ _ hA))), rfl, flat_strs ns, _, rfl, ?_⟩
      cases hi : inV (.str y) (ns.map V.str) with
      | true =>
        have e3 : outs ns (hn.take (i + 1)) = outs ns (hn.take i) := by
          rw [et, outs_app]
          unfold outs
          simp [hi]
        rw [e3]
        exact ⟨S2, e2⟩
      | false =>
        have e3 : outs ns (hn.take (i + 1)) = outs ns (hn.take i) ++ [y] := by
          rw [et, outs_app]
          unfold outs
          simp [hi]
        rw [e3]
        exact ⟨_, rfl, _, e2, by rw [List.length_map, sizeLine_eq]; omega, Same.at S2 hD2 _, by rw [upd_same, List.map_append]; rfl⟩
  · rintro H2 ⟨S2, e2⟩
    rw [List.length_map, List.take_length] at e2
    exact q D2 H2 (S1.trans S2) (S1.free hD2) e2
def spStrange (K : PySem.W.Frag) (n : Nat) : Sp := fun vs H Q _ => ∃ (lb a : Addr) (us : List V) (ns : List Str) (b : Bk), vs = [.ref lb, .ref a] ∧ H lb = some (.lst us) ∧ IsBk H noM us b ∧ b.dp ≤ n ∧ b.wel ∧ (b.str ns).length ≤ 200000 ∧ H a = some (.lst (ns.map V.str)) ∧ ns.length + n ≤ 500 ∧
  ∀ p H', Same H H' → H p = none → H' p = some (.lst ((b.str ns).map V.str)) → Q (.ref p) H'
def PStrange (H : Hp) (lb a D : Addr) (us : List V) (ns : List Str) (b : Bk) (n i : Nat) (σ : St) (H' : Hp) : Prop :=
  ∃ o3 o4 bi acc, σ = [some (.ref lb), some (.ref a), some (.ref D), o3, o4] ∧ Same H H' ∧ H' D = some (.lst (List.map V.str acc)) ∧ IsBk H noM (us.drop i) bi ∧ bi.dp ≤ n ∧ bi.wel ∧ b.str ns = acc ++ bi.str ns
theorem snd_map (xs ys : List Str) : List.map V.str xs ++ List.map V.str ys = List.map V.str (xs ++ ys) := (List.map_append ..).symm
theorem ok_block_strangers (T : Txt K mg) : ∀ n : Nat, FnOk P w K mg base CX0 (n + 24) T.f_block_strangers T.fd_block_strangers ["block", "names"] (spStrange K n)
  | 0 => by
    have no : ∀ vs H Q E, ¬ spStrange K 0 vs H Q E := fun vs H Q E h => by
      obtain ⟨lb, a, us, ns, b, _, _, _, h1, _⟩ := h
      have := b.dp_pos
      omega
    exact ⟨fun vs H Q E h => absurd h (no vs H Q E), fun A outer s H args us vs Q E _ _ _ _ h => absurd h (no vs H Q E)⟩
  | n + 1 => by
    have G_block_strangers := ok_block_strangers T n
    have G_names_at_head := (ok_names_at_head (P := P) (w := w) (base := base) T).mono (show 22 ≤ n + 24 by omega)
    refine T.block_strangers.F.ok sc_block_strangers (fun vs H Q E h => ?_) (fun cdv A outer s H vs Q E hr h => ?_)
    · obtain ⟨lb, a, us, ns, b, rfl, _⟩ := h; rfl
    obtain ⟨lb, a, us, ns, b, rfl, hb, hB, hd, hl, hbl, hA, hn, q⟩ := h
    refine ⟨_, (pss_cons (ps_set (i := 2) sc_block_strangers.nd rfl (Or.inl rfl) (pe_lst pa_nil))
    (pss_cons (ps_for PassesOwn.never rfl (pi_list (pv 0)) (pg_name (i := 3) sc_block_strangers.nd rfl (Or.inl rfl)) (pss_cons (ps_set (i := 4) sc_block_strangers.nd rfl (Or.inl rfl) (pe_ix ix_tup (pv 3) pe_int (fun _ _ => rfl)))
    (pss_cons (ps_expr (pe_bm PySem.F.plainAttrs_list PySem.F.slot_list_extend PySem.F.type_list_extend mt_extendP (pv 2) (pa_cons (pe_comp rfl (js := [1]) (ys := ["names"]) (pi_list (pe_call G_names_at_head hr rfl T.names_at_head.m T.names_at_head.F.kp T.names_at_head.b .nil pass0 (pa_cons (pv 3) pa_nil))) (by rfl) (by rfl) (by decide +kernel) (fun _ _ _ _ => pts_one (pt_cmpR (op_notIn_seqK K) (pv 0) (pv 1) (by with_unfolding_all rfl))) (fun _ _ _ _ => (pv 0))) pa_nil)))
    (pss_one (ps_if (pt_cmpR op_eq (pv 4) pe_str (nomark _)) (pss_cons (ps_expr (pe_bm PySem.F.plainAttrs_list PySem.F.slot_list_extend PySem.F.type_list_extend mt_extendP (pv 2) (pa_cons (pe_call G_block_strangers hr rfl T.block_strangers.m T.block_strangers.F.kp T.block_strangers.b .nil pass0 (pa_cons (pe_ix ix_tup (pv 3) pe_int (fun _ _ => rfl)) (pa_cons (pv 1) pa_nil))) pa_nil)))
    (pss_one (ps_expr (pe_bm PySem.F.plainAttrs_list PySem.F.slot_list_extend PySem.F.type_list_extend mt_extendP (pv 2) (pa_cons (pe_call G_block_strangers hr rfl T.block_strangers.m T.block_strangers.F.kp T.block_strangers.b .nil pass0 (pa_cons (pe_ix ix_tup (pv 3) pe_int (fun _ _ => rfl)) (pa_cons (pv 1) pa_nil))) pa_nil))))) (pss_one (ps_if (pt_cmpR op_eq (pv 4) pe_str (nomark _)) (pss_one (ps_expr (pe_bm PySem.F.plainAttrs_list PySem.F.slot_list_extend PySem.F.type_list_extend mt_extendP (pv 2) (pa_cons (pe_call G_block_strangers hr rfl T.block_strangers.m T.block_strangers.F.kp T.block_strangers.b .nil pass0 (pa_cons (pe_ix ix_tup (pv 3) pe_int (fun _ _ => rfl)) (pa_cons (pv 1) pa_nil))) pa_nil)))) (pss_one (ps_if (pt_cmpR op_eq (pv 4) pe_str (nomark _)) (pss_one (ps_expr (pe_bm PySem.F.plainAttrs_list PySem.F.slot_list_extend PySem.F.type_list_extend mt_extendP (pv 2) (pa_cons (pe_call G_block_strangers hr rfl T.block_strangers.m T.block_strangers.F.kp T.block_strangers.b .nil pass0 (pa_cons (pe_ix ix_tup (pv 3) pe_int (fun _ _ => rfl)) (pa_cons (pe_op op_cat (pv 1) (pe_lst (pa_cons (pe_ix ix_tup (pv 3) pe_int (fun _ _ => rfl)) pa_nil))) pa_nil))) pa_nil)))) pss_nil)))))))))
    (pss_one (ps_ret (pv 2))))), ?_⟩
    have one : (1 : Nat) ≤ sizeLine := by decide
    refine ⟨Nat.zero_le _, fun D hD => ?_⟩
    have S0 := same_new hD (.lst [])
    have eD : upd H D (.lst []) D = some (.lst (List.map V.str [])) := upd_same
    generalize upd H D (.lst []) = H1 at S0 eD
    refine ⟨_, rfl, lb, rfl, ⟨_, SqL.of (S0 _ _ hb)⟩, ?_⟩
    refine for_list (xs := us) (PStrange H lb a D us ns b (n + 1)) ⟨none, none, b, [], rfl, S0, eD, hB, hd, hl, rfl⟩ (fun i σ H' _ z => by obtain ⟨_, _, _, _, _, S, _⟩ := z; exact SqL.of (S _ _ hb)) ?_ ?_
    · rintro i x σ H' hx ⟨o3, o4, bi, acc, rfl, S, hD', hBi, hdi, hli, hacc⟩
      have hil := (List.getElem?_eq_some_iff.mp hx).1
      have hdrop : us.drop i = x :: us.drop (i + 1) := by
        have := List.drop_eq_getElem_cons hil
        rw [(List.getElem?_eq_some_iff.mp hx).2] at this
        exact this
      rw [hdrop] at hBi
      rw [hacc, List.length_append] at hbl
      have fit : ∀ {ys : List Str}, acc.length + ys.length ≤ 200000 → (acc.map V.str).length + (ys.map V.str).length ≤ sizeLine := fun h => by rw [List.length_map, List.length_map, sizeLine_eq]; omega
      cases hBi with
      | @set c x u s vs r e hs hr2 =>
        obtain ⟨⟨_, hsf⟩, hrl⟩ := hli
        have hsu := s.used_len
        have hlv := hsf.2.2
        have es : Bk.str ns (.set x s r) = outs ns (x :: s.used) ++ r.str ns := rfl
        rw [es] at hacc hbl
        simp only [List.length_append] at hbl
        refine ⟨_, rfl, _, _, _, _, rfl, rfl, SqT.of (S _ _ e), at0, ?_⟩
        refine ⟨_, rfl, .inl ⟨rfl, _, SqL.of hD'⟩, strange_head (S _ _ hA) (.inl ⟨x, u, s, S _ _ e, hs.mono S.tup, hsf.2.1, rfl⟩) (by rw [List.length_cons]; omega) fun p2 H2 S2 f2 e2 => ?_⟩
        refine ⟨D, p2, _, _, rfl, rfl, S2 _ _ hD', .inl e2, fit (by omega), ?_⟩
        rw [snd_map]
        have S3 : Same H (upd H2 D (.lst (List.map V.str (acc ++ outs ns (x :: s.used))))) := Same.at (S.trans S2) hD _
        have eD3 : upd H2 D (.lst (List.map V.str (acc ++ outs ns (x :: s.used)))) D = some (.lst (List.map V.str (acc ++ outs ns (x :: s.used)))) := upd_same
        generalize upd H2 D (.lst (List.map V.str (acc ++ outs ns (x :: s.used)))) = H3 at S3 eD3
        refine ⟨_, rfl, rfl, _, rfl, iteF' (by decide +kernel) ?_⟩
        refine ⟨_, rfl, rfl, _, rfl, iteF' (by decide +kernel) ?_⟩
        refine ⟨_, rfl, rfl, _, rfl, iteF' (by decide +kernel) ?_⟩
        exact ⟨_, _, r, _, rfl, S3, eD3, hr2, hdi, hrl, by rw [hacc]; simp only [List.append_assoc]⟩
      | @say c u s vs r e hs hr2 =>
        obtain ⟨⟨_, hsf⟩, hrl⟩ := hli
        have hsu := s.used_len
        have hlv := hsf.2.2
        have es : Bk.str ns (.say s r) = outs ns s.used ++ r.str ns := rfl
        rw [es] at hacc hbl
        simp only [List.length_append] at hbl
        refine ⟨_, rfl, _, _, _, _, rfl, rfl, SqT.of (S _ _ e), at0, ?_⟩
        refine ⟨_, rfl, .inl ⟨rfl, _, SqL.of hD'⟩, strange_head (S _ _ hA) (.inr (.inr ⟨_, u, .s s, _, S _ _ e, by decide +kernel, by decide +kernel, (hs.mono S.tup : IsSum H' u s), hsf.2.1, rfl⟩)) (by show s.used.length ≤ 1000; omega) fun p2 H2 S2 f2 e2 => ?_⟩
        refine ⟨D, p2, _, _, rfl, rfl, S2 _ _ hD', .inl e2, fit (by show acc.length + (outs ns s.used).length ≤ _; omega), ?_⟩
        rw [snd_map]
        have S3 : Same H (upd H2 D (.lst (List.map V.str (acc ++ outs ns (Th.used (.s s)))))) := Same.at (S.trans S2) hD _
        have eD3 : upd H2 D (.lst (List.map V.str (acc ++ outs ns (Th.used (.s s))))) D = some (.lst (List.map V.str (acc ++ outs ns s.used))) := upd_same
        generalize upd H2 D (.lst (List.map V.str (acc ++ outs ns (Th.used (.s s))))) = H3 at S3 eD3
        refine ⟨_, rfl, rfl, _, rfl, iteF' (by decide +kernel) ?_⟩
        refine ⟨_, rfl, rfl, _, rfl, iteF' (by decide +kernel) ?_⟩
        refine ⟨_, rfl, rfl, _, rfl, iteF' (by decide +kernel) ?_⟩
        exact ⟨_, _, r, _, rfl, S3, eD3, hr2, hdi, hrl, by rw [hacc]; simp only [List.append_assoc]⟩
      | @when c p1 q1 u t vb vc vs b1 c1 r e ht n1 e1 h1 n2 e2' h2 hr2 =>
        obtain ⟨⟨_, htf⟩, hb1, hc1, hrl⟩ := hli
        have hsu := t.used_len
        have hwn := htf.2.2
        have hdd : max (max (b1.dp + 1) (c1.dp + 1)) r.dp ≤ n + 1 := hdi
        have es : Bk.str ns (.when t b1 c1 r) = outs ns t.used ++ b1.str ns ++ c1.str ns ++ r.str ns := rfl
        rw [es] at hacc hbl
        simp only [List.length_append] at hbl
        refine ⟨_, rfl, _, _, _, _, rfl, rfl, SqT.of (S _ _ e), at0, ?_⟩
        refine ⟨_, rfl, .inl ⟨rfl, _, SqL.of hD'⟩, strange_head (S _ _ hA) (.inr (.inr ⟨_, u, .t t, _, S _ _ e, by decide +kernel, by decide +kernel, (ht.mono S.tup : IsTest H' u t), htf.2.1, rfl⟩)) (by show t.used.length ≤ 1000; omega) fun p2 H2 S2 f2 e2 => ?_⟩
        refine ⟨D, p2, _, _, rfl, rfl, S2 _ _ hD', .inl e2, fit (by show acc.length + (outs ns t.used).length ≤ _; omega), ?_⟩
        rw [snd_map]
        have S3 : Same H (upd H2 D (.lst (List.map V.str (acc ++ outs ns (Th.used (.t t)))))) := Same.at (S.trans S2) hD _
        have eD3 : upd H2 D (.lst (List.map V.str (acc ++ outs ns (Th.used (.t t))))) D = some (.lst (List.map V.str (acc ++ outs ns t.used))) := upd_same
        generalize upd H2 D (.lst (List.map V.str (acc ++ outs ns (Th.used (.t t))))) = H3 at S3 eD3
        refine ⟨_, rfl, rfl, _, rfl, iteT' (by decide +kernel) ?_⟩
        refine ⟨_, rfl, .inl ⟨rfl, _, SqL.of eD3⟩, _, rfl, _, _, _, _, rfl, rfl, SqT.of (S3 _ _ e), atI_nat (j := 2) rfl, _, rfl, ?_⟩
        refine ⟨p1, a, vb, ns, b1, rfl, S3 _ _ e1, h1.same S3, by omega, hb1, by omega, S3 _ _ hA, by omega, fun p3 H4 S3' f3 e3' => ?_⟩
        refine ⟨D, p3, _, _, rfl, rfl, S3' _ _ eD3, .inl e3', by rw [List.length_map, List.length_map, sizeLine_eq, List.length_append]; omega, ?_⟩
        rw [snd_map]
        have S4 : Same H (upd H4 D (.lst (List.map V.str (acc ++ outs ns t.used ++ b1.str ns)))) := Same.at (S3.trans S3') hD _
        have eD4 : upd H4 D (.lst (List.map V.str (acc ++ outs ns t.used ++ b1.str ns))) D = some (.lst (List.map V.str (acc ++ outs ns t.used ++ b1.str ns))) := upd_same
        generalize upd H4 D (.lst (List.map V.str (acc ++ outs ns t.used ++ b1.str ns))) = G4 at S4 eD4
        refine ⟨_, rfl, .inl ⟨rfl, _, SqL.of eD4⟩, _, rfl, _, _, _, _, rfl, rfl, SqT.of (S4 _ _ e), atI_nat (j := 3) rfl, _, rfl, ?_⟩
        refine ⟨q1, a, vc, ns, c1, rfl, S4 _ _ e2', h2.same S4, by omega, hc1, by omega, S4 _ _ hA, by omega, fun p4 H5 S4' f4 e4' => ?_⟩
        refine ⟨D, p4, _, _, rfl, rfl, S4' _ _ eD4, .inl e4', by rw [List.length_map, List.length_map, sizeLine_eq, List.length_append, List.length_append]; omega, ?_⟩
        rw [snd_map]
        exact ⟨_, _, r, _, rfl, Same.at (S4.trans S4') hD _, upd_same, hr2, by omega, hrl, by rw [hacc]; simp only [List.append_assoc]⟩
      | @whil c p1 u t vb vs b1 r e ht n1 e1 h1 hr2 =>
        obtain ⟨⟨_, htf⟩, hb1, hrl⟩ := hli
        have hsu := t.used_len
        have hwn := htf.2.2
        have hdd : max (b1.dp + 1) r.dp ≤ n + 1 := hdi
        have es : Bk.str ns (.whil t b1 r) = outs ns t.used ++ b1.str ns ++ r.str ns := rfl
        rw [es] at hacc hbl
        simp only [List.length_append] at hbl
        refine ⟨_, rfl, _, _, _, _, rfl, rfl, SqT.of (S _ _ e), at0, ?_⟩
        refine ⟨_, rfl, .inl ⟨rfl, _, SqL.of hD'⟩, strange_head (S _ _ hA) (.inr (.inr ⟨_, u, .t t, _, S _ _ e, by decide +kernel, by decide +kernel, (ht.mono S.tup : IsTest H' u t), htf.2.1, rfl⟩)) (by show t.used.length ≤ 1000; omega) fun p2 H2 S2 f2 e2 => ?_⟩
        refine ⟨D, p2, _, _, rfl, rfl, S2 _ _ hD', .inl e2, fit (by show acc.length + (outs ns t.used).length ≤ _; omega), ?_⟩
        rw [snd_map]
        have S3 : Same H (upd H2 D (.lst (List.map V.str (acc ++ outs ns (Th.used (.t t)))))) := Same.at (S.trans S2) hD _
        have eD3 : upd H2 D (.lst (List.map V.str (acc ++ outs ns (Th.used (.t t))))) D = some (.lst (List.map V.str (acc ++ outs ns t.used))) := upd_same
        generalize upd H2 D (.lst (List.map V.str (acc ++ outs ns (Th.used (.t t))))) = H3 at S3 eD3
        refine ⟨_, rfl, rfl, _, rfl, iteF' (by decide +kernel) ?_⟩
        refine ⟨_, rfl, rfl, _, rfl, iteT' (by decide +kernel) ?_⟩
        refine ⟨_, rfl, .inl ⟨rfl, _, SqL.of eD3⟩, _, rfl, _, _, _, _, rfl, rfl, SqT.of (S3 _ _ e), atI_nat (j := 2) rfl, _, rfl, ?_⟩
        refine ⟨p1, a, vb, ns, b1, rfl, S3 _ _ e1, h1.same S3, by omega, hb1, by omega, S3 _ _ hA, by omega, fun p3 H4 S3' f3 e3' => ?_⟩
        refine ⟨D, p3, _, _, rfl, rfl, S3' _ _ eD3, .inl e3', by rw [List.length_map, List.length_map, sizeLine_eq, List.length_append]; omega, ?_⟩
        rw [snd_map]
        exact ⟨_, _, r, _, rfl, Same.at (S3.trans S3') hD _, upd_same, hr2, by omega, hrl, by rw [hacc]; simp only [List.append_assoc]⟩
      | @wit c p1 x u s vb vs b1 r e hs n1 e1 h1 hr2 =>
        obtain ⟨⟨_, hsf⟩, hb1, hrl⟩ := hli
        have hsu := s.used_len
        have hlv := hsf.2.2
        have hdd : max (b1.dp + 1) r.dp ≤ n + 1 := hdi
        have es : Bk.str ns (.wit x s b1 r) = outs ns s.used ++ b1.str (ns ++ [x]) ++ r.str ns := rfl
        rw [es] at hacc hbl
        simp only [List.length_append] at hbl
        refine ⟨_, rfl, _, _, _, _, rfl, rfl, SqT.of (S _ _ e), at0, ?_⟩
        refine ⟨_, rfl, .inl ⟨rfl, _, SqL.of hD'⟩, strange_head (S _ _ hA) (.inr (.inl ⟨x, u, s, _, S _ _ e, hs.mono S.tup, hsf.2.1, rfl⟩)) (by omega) fun p2 H2 S2 f2 e2 => ?_⟩
        refine ⟨D, p2, _, _, rfl, rfl, S2 _ _ hD', .inl e2, fit (by omega), ?_⟩
        rw [snd_map]
        have S3 : Same H (upd H2 D (.lst (List.map V.str (acc ++ outs ns s.used)))) := Same.at (S.trans S2) hD _
        have eD3 : upd H2 D (.lst (List.map V.str (acc ++ outs ns s.used))) D = some (.lst (List.map V.str (acc ++ outs ns s.used))) := upd_same
        generalize upd H2 D (.lst (List.map V.str (acc ++ outs ns s.used))) = H3 at S3 eD3
        refine ⟨_, rfl, rfl, _, rfl, iteF' (by decide +kernel) ?_⟩
        refine ⟨_, rfl, rfl, _, rfl, iteF' (by decide +kernel) ?_⟩
        refine ⟨_, rfl, rfl, _, rfl, iteT' (by decide +kernel) ?_⟩
        refine ⟨_, rfl, .inl ⟨rfl, _, SqL.of eD3⟩, _, rfl, _, _, _, _, rfl, rfl, SqT.of (S3 _ _ e), atI_nat (j := 3) rfl, _, rfl, ?_⟩
        refine ⟨_, rfl, _, _, _, _, rfl, rfl, SqT.of (S3 _ _ e), atI_nat (j := 1) rfl, one, fun p4 hp4 => ?_⟩
        have S4 := S3.trans (same_new hp4 (.lst [V.str x]))
        have eD4 := same_new hp4 (.lst [V.str x]) _ _ eD3
        have e4 : upd H3 p4 (.lst [V.str x]) p4 = some (.lst [V.str x]) := upd_same
        generalize upd H3 p4 (.lst [V.str x]) = H4 at S4 eD4 e4
        refine ⟨a, p4, _, _, rfl, rfl, S4 _ _ hA, e4, by rw [sizeLine_eq, List.length_map]; show _ + 1 ≤ _; omega, fun p5 hp5 => ?_⟩
        have S5 := S4.trans (same_new hp5 (.lst (ns.map V.str ++ [V.str x])))
        have eD5 := same_new hp5 (.lst (ns.map V.str ++ [V.str x])) _ _ eD4
        have e5 : upd H4 p5 (.lst (ns.map V.str ++ [V.str x])) p5 = some (.lst ((ns ++ [x]).map V.str)) := by rw [upd_same, List.map_append]; rfl
        generalize upd H4 p5 (.lst (ns.map V.str ++ [V.str x])) = H5 at S5 eD5 e5
        refine ⟨p1, p5, vb, ns ++ [x], b1, rfl, S5 _ _ e1, h1.same S5, by omega, hb1, by omega, e5, by rw [List.length_append]; show _ + 1 + _ ≤ 500; omega, fun p6 H6 S6 f6 e6 => ?_⟩
        refine ⟨D, p6, _, _, rfl, rfl, S6 _ _ eD5, .inl e6, by rw [List.length_map, List.length_map, sizeLine_eq, List.length_append]; omega, ?_⟩
        rw [snd_map]
        exact ⟨_, _, r, _, rfl, Same.at (S5.trans S6) hD _, upd_same, hr2, by omega, hrl, by rw [hacc]; simp only [List.append_assoc]⟩
    · rintro σ H' ⟨o3, o4, bi, acc, rfl, S, hD', hBi, hdi, hli, hacc⟩
      rw [List.drop_length] at hBi
      cases hBi
      rw [show b.str ns = acc from hacc.trans (List.append_nil _)] at q
      exact ⟨_, rfl, q D H' S hD hD'⟩
def spStrangers (K : PySem.W.Frag) (n : Nat) : Sp := fun vs H Q _ => ∃ (r lb a : Addr) (us : List V) (ns : List Str) (b : Bk), vs = [.ref r] ∧ H r = some (.tup [.ref a, .ref lb]) ∧ H lb = some (.lst us) ∧ IsBk H noM us b ∧ b.dp ≤ n ∧ b.wel ∧ (b.str ns).length ≤ 200000 ∧ H a = some (.lst (ns.map V.str)) ∧ ns.length + n ≤ 500 ∧
  ∀ p H', Same H H' → H p = none → H' p = some (.lst ((b.str ns).map V.str)) → Q (.ref p) H'
theorem ok_strangers (T : Txt K mg) (n : Nat) : FnOk P w K mg base CX0 (n + 25) T.f_strangers T.fd_strangers ["program"] (spStrangers K n) := by
  have G_block_strangers := ok_block_strangers (P := P) (w := w) (base := base) T n
  refine T.strangers.F.ok sc_strangers (fun vs H Q E h => ?_) (fun cdv A outer s H vs Q E hr h => ?_)
  · obtain ⟨r, lb, a, us, ns, b, rfl, _⟩ := h; rfl
  obtain ⟨r, lb, a, us, ns, b, rfl, er, hb, hB, hd, hl, hbl, hA, hn, q⟩ := h
  refine ⟨_, (pss_one (ps_ret (pe_call G_block_strangers hr rfl T.block_strangers.m T.block_strangers.F.kp T.block_strangers.b .nil pass0 (pa_cons (pe_ix ix_tup (pv 0) pe_int (fun _ _ => rfl)) (pa_cons (pe_ix ix_tup (pv 0) pe_int (fun _ _ => rfl)) pa_nil))))), ?_⟩
  refine ⟨_, rfl, _, _, _, _, rfl, rfl, SqT.of er, atI_nat (j := 1) rfl, _, rfl, _, _, _, _, rfl, rfl, SqT.of er, at0, ?_⟩
  exact ⟨lb, a, us, ns, b, rfl, hb, hB, hd, hl, hbl, hA, hn, q⟩
end
end W05

set_option Elab.async false
set_option linter.all false
set_option maxRecDepth 100000
set_option maxHeartbeats 4000000
namespace W05
open PySem L2 J
section
variable {P : Program} {w : World} {K : PySem.W.Frag} {mg : Str → Option Value} {base : Heap}
/-! ### the cards, or a stranger -/
def spCards5 (K : PySem.W.Frag) (C : Addr) (n : Nat) : Sp := fun vs H Q E => ∃ (u : V) (a : Addr) (ns : List Str) (s : Sm Str), vs = [u, .ref a] ∧ IsSum H u s ∧ s.dp ≤ n ∧ s.lv ≤ 1000 ∧ s.tx ∧ SqL K H a (ns.map V.str) ∧ ns.length ≤ 1000 ∧
  (s.nm ns → ∀ p ws H', Same H H' → H p = none → H' p = some (.lst ws) → ws.length + 1 ≤ 2 * s.lv → Q (.ref p) H') ∧ (¬ s.nm ns → ∀ H', Same H H' → E (.ref C) none H')
theorem same_refl (H : Hp) : Same H H := fun _ _ h => h
theorem ok_sum_cards (T : Txt K mg) : ∀ n : Nat, FnOk P w K mg base (CX1 P w) (n + 2) T.f_sum_cards T.fd_sum_cards ["part", "names"] (spCards5 K T.er.cNoName n)
  | 0 => by
    have no : ∀ vs H Q E, ¬ spCards5 K T.er.cNoName 0 vs H Q E := fun vs H Q E h => by
      obtain ⟨u, a, ns, s, _, _, h1, _⟩ := h
      cases s <;> simp [Sm.dp] at h1
    exact ⟨fun vs H Q E h => absurd h (no vs H Q E), fun A outer s H args us vs Q E _ _ _ _ h => absurd h (no vs H Q E)⟩
  | n + 1 => by
    have G_sum_cards := ok_sum_cards T n
    have G_place_of := (ok_place_ofX (P := P) (w := w) (base := base) T).mono (show 1 ≤ n + 2 by omega)
    refine T.sum_cards.F.okX sc_sum_cards (fun vs H Q E h => ?_) (fun cdv A outer s H vs Q E hr h => ?_)
    · obtain ⟨u, a, ns, s, rfl, _⟩ := h; rfl
    obtain ⟨u, a, ns, s, rfl, hu, hd, hc, htx, hA, hn, q, hE⟩ := h
    have one : (1 : Nat) ≤ sizeLine := by decide
    have two : (2 : Nat) ≤ sizeLine := by decide
    refine ⟨_, (pss_cons (ps_set (i := 2) sc_sum_cards.nd rfl (Or.inl rfl) (pe_ix ix_tup (pv 0) pe_int (fun _ _ => rfl)))
    (pss_cons (ps_if (pt_cmpR op_eq (pv 2) pe_str (nomark _)) (pss_one (ps_ret (pe_lst (pa_cons (pe_tup (pa_cons pe_str (pa_cons (pe_ix ix_tup (pv 0) pe_int (fun _ _ => rfl)) pa_nil))) pa_nil)))) pss_nil)
    (pss_cons (ps_if (pt_cmpR op_eq (pv 2) pe_str (nomark _)) (pss_one (ps_ret (pe_lst (pa_cons (pe_tup (pa_cons pe_str (pa_cons (pe_call G_place_of hr rfl T.place_of.m T.place_of.F.kp T.place_of.b .nil cx_pass (pa_cons (pv 1) (pa_cons (pe_ix ix_tup (pv 0) pe_int (fun _ _ => rfl)) pa_nil))) pa_nil))) pa_nil)))) pss_nil)
    (pss_one (ps_ret (pe_op op_cat (pe_op op_cat (pe_call G_sum_cards hr rfl T.sum_cards.m T.sum_cards.F.kp T.sum_cards.b .nil cx_pass (pa_cons (pe_ix ix_tup (pv 0) pe_int (fun _ _ => rfl)) (pa_cons (pv 1) pa_nil))) (pe_call G_sum_cards hr rfl T.sum_cards.m T.sum_cards.F.kp T.sum_cards.b .nil cx_pass (pa_cons (pe_ix ix_tup (pv 0) pe_int (fun _ _ => rfl)) (pa_cons (pv 1) pa_nil)))) (pe_lst (pa_cons (pe_tup (pa_cons (pv 2) pa_nil)) pa_nil)))))))), ?_⟩
    cases hu with
    | @num c i e =>
      refine ⟨_, rfl, _, _, _, _, rfl, rfl, SqT.of e, rfl, ?_⟩
      refine ⟨_, rfl, rfl, _, rfl, iteT' (by decide +kernel) ?_⟩
      refine ⟨_, rfl, _, _, _, _, rfl, rfl, SqT.of e, rfl, two, fun t ht => ⟨one, fun p hp => ?_⟩⟩
      have S1 : Same H (upd H t (.tup [.str "push", .int i])) := same_new ht _
      have S2 : Same (upd H t (.tup [.str "push", .int i])) (upd (upd H t (.tup [.str "push", .int i])) p (.lst [.ref t])) := same_new hp _
      exact q trivial p _ _ (S1.trans S2) (S1.free hp) upd_same (Nat.le_refl _)
    | @name c x e =>
      have htx' : x.length ≤ 100 := htx
      refine ⟨_, rfl, _, _, _, _, rfl, rfl, SqT.of e, rfl, ?_⟩
      refine ⟨_, rfl, rfl, _, rfl, iteF' (by decide +kernel) ?_⟩
      refine ⟨_, rfl, rfl, _, rfl, iteT' (by decide +kernel) ?_⟩
      refine ⟨_, rfl, _, rfl, _, _, _, _, rfl, rfl, SqT.of e, rfl, ?_⟩
      refine ⟨a, ns, x, rfl, hA, hn, fun i hi => ?_, fun hnone => ⟨by omega, ?_⟩⟩
      · refine ⟨two, fun t ht => ⟨one, fun p hp => ?_⟩⟩
        have S1 : Same H (upd H t (.tup [.str "load", .int i])) := same_new ht _
        have S2 : Same (upd H t (.tup [.str "load", .int i])) (upd (upd H t (.tup [.str "load", .int i])) p (.lst [.ref t])) := same_new hp _
        exact q (List.mem_of_getElem? (lastIx_get hi)) p _ _ (S1.trans S2) (S1.free hp) upd_same (Nat.le_refl _)
      · refine hE (fun hm => ?_) H (same_refl H)
        obtain ⟨i, hi⟩ := lastIx_mem (show x ∈ ns from hm)
        rw [hnone] at hi; cases hi
    | @op c o u v s t e h1 h2 =>
      have hd1 : s.dp ≤ n ∧ t.dp ≤ n := by
        have : max s.dp t.dp + 1 ≤ n + 1 := hd
        omega
      have hc' : s.lv + t.lv ≤ 1000 := hc
      refine ⟨_, rfl, _, _, _, _, rfl, rfl, SqT.of e, rfl, ?_⟩
      refine ⟨_, rfl, rfl, _, rfl, iteF' (by cases o <;> decide +kernel) ?_⟩
      refine ⟨_, rfl, rfl, _, rfl, iteF' (by cases o <;> decide +kernel) ?_⟩
      refine ⟨_, rfl, _, _, _, _, rfl, rfl, SqT.of e, rfl, _, rfl, ?_⟩
      refine ⟨u, a, ns, s, rfl, h1, hd1.1, by omega, htx.1, hA, hn, fun m1 p1 ws1 H1 S1 f1 e1 l1 => ?_, fun m1 H1 S1 => hE (fun z => m1 z.1) H1 S1⟩
      refine ⟨_, rfl, _, _, _, _, rfl, rfl, SqT.of (S1 _ _ e), rfl, _, rfl, ?_⟩
      refine ⟨v, a, ns, t, rfl, h2.mono S1.tup, hd1.2, by omega, htx.2, S1.seq hA, hn, fun m2 p2 ws2 H2 S2 f2 e2 l2 => ?_, fun m2 H2 S2 => hE (fun z => m2 z.2) H2 (S1.trans S2)⟩
      refine ⟨p1, p2, ws1, ws2, rfl, rfl, S2 _ _ e1, e2, by rw [sizeLine_eq]; omega, fun p3 hp3 => ?_⟩
      have S3 : Same H2 (upd H2 p3 (.lst (ws1 ++ ws2))) := same_new hp3 _
      have e3 : upd H2 p3 (.lst (ws1 ++ ws2)) p3 = some (.lst (ws1 ++ ws2)) := upd_same
      have SS := S1.trans (S2.trans S3)
      generalize upd H2 p3 (.lst (ws1 ++ ws2)) = H3 at S3 e3 SS
      refine ⟨_, rfl, one, fun t1 ht1 => ⟨one, fun p4 hp4 => ?_⟩⟩
      have S4 : Same H3 (upd H3 t1 (.tup [.str o.w])) := same_new ht1 _
      have S5 : Same (upd H3 t1 (.tup [.str o.w])) (upd (upd H3 t1 (.tup [.str o.w])) p4 (.lst [.ref t1])) := same_new hp4 _
      have S45 := S4.trans S5
      have e4 : upd (upd H3 t1 (.tup [.str o.w])) p4 (.lst [.ref t1]) p4 = some (.lst [.ref t1]) := upd_same
      generalize upd (upd H3 t1 (.tup [.str o.w])) p4 (.lst [.ref t1]) = H5 at S45 e4
      refine ⟨p3, p4, ws1 ++ ws2, [.ref t1], rfl, rfl, S45 _ _ e3, e4, by rw [sizeLine_eq, List.length_append]; show _ + 1 ≤ _; omega, fun p5 hp5 => ?_⟩
      have S6 : Same H5 (upd H5 p5 (.lst (ws1 ++ ws2 ++ [.ref t1]))) := same_new hp5 _
      exact q ⟨m1, m2⟩ p5 _ _ (SS.trans (S45.trans S6)) ((SS.trans S45).free hp5) upd_same (by rw [List.length_append, List.length_append]; show _ + _ + 1 + 1 ≤ 2 * (s.lv + t.lv); omega)
/-! lists, whatever is in them -/
def spBothC : Sp := fun vs H Q _ => ∃ (p1 p2 : Addr) (ws1 ws2 : List V), vs = [.ref p1, .ref p2] ∧ H p1 = some (.lst ws1) ∧ H p2 = some (.lst ws2) ∧ ws1.length + ws2.length ≤ 2000000 ∧
  ∀ p ws H', Same H H' → H p = none → H' p = some (.lst ws) → ws.length ≤ ws1.length + ws2.length + 3 → Q (.ref p) H'
theorem catN {H : Hp} {p : Addr} {ws : List V} (hp : H p = none) : Same H (upd H p (.lst ws)) ∧ upd H p (.lst ws) p = some (.lst ws) := ⟨same_new hp _, upd_same⟩
theorem oneN {H : Hp} {t p : Addr} {vs ws : List V} (ht : H t = none) (hp : upd H t (.tup vs) p = none) : Same H (upd (upd H t (.tup vs)) p (.lst ws)) ∧ upd (upd H t (.tup vs)) p (.lst ws) p = some (.lst ws) := ⟨(same_new ht _).trans (same_new hp _), upd_same⟩
theorem ok_both_cards (T : Txt K mg) : FnOk P w K mg base CX0 1 T.f_both_cards T.fd_both_cards ["first", "second"] spBothC := by
  refine T.both_cards.F.ok sc_both_cards (fun vs H Q E h => ?_) (fun cdv A outer s H vs Q E hr h => ?_)
  · obtain ⟨p1, p2, ws1, ws2, rfl, _⟩ := h; rfl
  obtain ⟨p1, p2, ws1, ws2, rfl, e1', e2', hl, q⟩ := h
  have one : (1 : Nat) ≤ sizeLine := by decide
  have two : (2 : Nat) ≤ sizeLine := by decide
  refine ⟨_, (pss_one (ps_ret (pe_op op_cat (pe_op op_cat (pe_op op_cat (pv 0) (pe_lst (pa_cons (pe_tup (pa_cons pe_str (pa_cons (pe_op op_add (pe_callB call_len_seq rfl T.b_len PySem.boot_len (pa_cons (pv 1) pa_nil)) pe_int) pa_nil))) pa_nil))) (pv 1)) (pe_lst (pa_cons (pe_tup (pa_cons pe_str (pa_cons pe_int pa_nil))) (pa_cons (pe_tup (pa_cons pe_str (pa_cons pe_int pa_nil))) pa_nil)))))), ?_⟩
  refine ⟨_, rfl, _, rfl, _, _, rfl, .inl (SqL.of e2'), _, _, rfl, rfl, two, fun t1 ht1 => ⟨one, fun p4 hp4 => ?_⟩⟩
  obtain ⟨S45, e4⟩ := oneN (ws := [.ref t1]) ht1 hp4
  refine ⟨p1, p4, ws1, [.ref t1], rfl, rfl, S45 _ _ e1', e4, by rw [sizeLine_eq]; show _ + 1 ≤ _; omega, fun p5 hp5 => ?_⟩
  obtain ⟨S6, e6⟩ := catN (ws := ws1 ++ [.ref t1]) hp5
  have SS := S45.trans S6
  refine ⟨_, rfl, ?_⟩
  refine ⟨p5, p2, _, ws2, rfl, rfl, e6, SS _ _ e2', by rw [sizeLine_eq, List.length_append]; show _ + 1 + _ ≤ _; omega, fun p6 hp6 => ?_⟩
  obtain ⟨S7, e7⟩ := catN (ws := ws1 ++ [.ref t1] ++ ws2) hp6
  have SS7 := SS.trans S7
  generalize upd _ p6 (.lst (ws1 ++ [.ref t1] ++ ws2)) = H7 at S7 e7 SS7
  refine ⟨two, fun ta hta => ⟨two, fun tb htb => ⟨two, fun p8 hp8 => ?_⟩⟩⟩
  have S8 : Same H7 (upd H7 ta (.tup [.str "skip", .int 1])) := same_new hta _
  obtain ⟨S9, e10⟩ := oneN (ws := [.ref ta, .ref tb]) htb hp8
  have S810 := S8.trans S9
  refine ⟨p6, p8, _, [.ref ta, .ref tb], rfl, rfl, S810 _ _ e7, e10, by rw [sizeLine_eq, List.length_append, List.length_append]; show _ + 1 + _ + 2 ≤ _; omega, fun p11 hp11 => ?_⟩
  obtain ⟨S11, e11⟩ := catN (ws := ws1 ++ [.ref t1] ++ ws2 ++ [.ref ta, .ref tb]) hp11
  exact q p11 _ _ (SS7.trans (S810.trans S11)) ((SS7.trans S810).free hp11) e11 (by simp only [List.length_append, List.length_cons, List.length_nil]; omega)
def spTCards5 (K : PySem.W.Frag) (C : Addr) (n : Nat) : Sp := fun vs H Q E => ∃ (u : V) (a : Addr) (ns : List Str) (s : Ts), vs = [u, .ref a] ∧ IsTest H u s ∧ s.dp ≤ n ∧ s.wn ≤ 1000 ∧ s.tx ∧ SqL K H a (ns.map V.str) ∧ ns.length ≤ 1000 ∧
  (s.nm ns → ∀ p ws H', Same H H' → H p = none → H' p = some (.lst ws) → ws.length ≤ 3 * s.wn → Q (.ref p) H') ∧ (¬ s.nm ns → ∀ H', Same H H' → E (.ref C) none H')
theorem ok_test_cards (T : Txt K mg) : ∀ n : Nat, FnOk P w K mg base (CX1 P w) (n + 2) T.f_test_cards T.fd_test_cards ["test", "names"] (spTCards5 K T.er.cNoName n)
  | 0 => by
    have no : ∀ vs H Q E, ¬ spTCards5 K T.er.cNoName 0 vs H Q E := fun vs H Q E h => by
      obtain ⟨u, a, ns, s, _, _, h1, _⟩ := h
      cases s <;> simp [Ts.dp] at h1
    exact ⟨fun vs H Q E h => absurd h (no vs H Q E), fun A outer s H args us vs Q E _ _ _ _ h => absurd h (no vs H Q E)⟩
  | n + 1 => by
    have G_test_cards := ok_test_cards T n
    have G_sum_cards := ok_sum_cards (P := P) (w := w) (base := base) T n
    have G_both_cards := (ok_both_cards (P := P) (w := w) (base := base) T).mono (show 1 ≤ n + 2 by omega)
    refine T.test_cards.F.okX sc_test_cards (fun vs H Q E h => ?_) (fun cdv A outer s H vs Q E hr h => ?_)
    · obtain ⟨u, a, ns, s, rfl, _⟩ := h; rfl
    obtain ⟨u, a, ns, s, rfl, hu, hd, hc, htx, hA, hn, q, hE⟩ := h
    have one : (1 : Nat) ≤ sizeLine := by decide
    have two : (2 : Nat) ≤ sizeLine := by decide
    refine ⟨_, (pss_cons (ps_set (i := 2) sc_test_cards.nd rfl (Or.inl rfl) (pe_ix ix_tup (pv 0) pe_int (fun _ _ => rfl)))
    (pss_cons (ps_if (pt_cmpR op_eq (pv 2) pe_str (nomark _)) (pss_one (ps_ret (pe_op op_cat (pe_call G_test_cards hr rfl T.test_cards.m T.test_cards.F.kp T.test_cards.b .nil cx_pass (pa_cons (pe_ix ix_tup (pv 0) pe_int (fun _ _ => rfl)) (pa_cons (pv 1) pa_nil))) (pe_lst (pa_cons (pe_tup (pa_cons pe_str pa_nil)) pa_nil))))) pss_nil)
    (pss_cons (ps_if (pt_cmpR op_eq (pv 2) pe_str (nomark _)) (pss_one (ps_ret (pe_call G_both_cards hr rfl T.both_cards.m T.both_cards.F.kp T.both_cards.b .nil pass0 (pa_cons (pe_call G_test_cards hr rfl T.test_cards.m T.test_cards.F.kp T.test_cards.b .nil cx_pass (pa_cons (pe_ix ix_tup (pv 0) pe_int (fun _ _ => rfl)) (pa_cons (pv 1) pa_nil))) (pa_cons (pe_call G_test_cards hr rfl T.test_cards.m T.test_cards.F.kp T.test_cards.b .nil cx_pass (pa_cons (pe_ix ix_tup (pv 0) pe_int (fun _ _ => rfl)) (pa_cons (pv 1) pa_nil))) pa_nil))))) pss_nil)
    (pss_one (ps_ret (pe_op op_cat (pe_op op_cat (pe_call G_sum_cards hr rfl T.sum_cards.m T.sum_cards.F.kp T.sum_cards.b .nil cx_pass (pa_cons (pe_ix ix_tup (pv 0) pe_int (fun _ _ => rfl)) (pa_cons (pv 1) pa_nil))) (pe_call G_sum_cards hr rfl T.sum_cards.m T.sum_cards.F.kp T.sum_cards.b .nil cx_pass (pa_cons (pe_ix ix_tup (pv 0) pe_int (fun _ _ => rfl)) (pa_cons (pv 1) pa_nil)))) (pe_lst (pa_cons (pe_tup (pa_cons (pv 2) pa_nil)) pa_nil)))))))), ?_⟩
    cases hu with
    | @less c u v s t e h1 h2 =>
      have hd1 : max s.dp t.dp + 1 ≤ n + 1 := hd
      have hc' : 2 * s.lv + 2 * t.lv + 1 ≤ 1000 := hc
      refine ⟨_, rfl, _, _, _, _, rfl, rfl, SqT.of e, rfl, ?_⟩
      refine ⟨_, rfl, rfl, _, rfl, iteF' (by decide +kernel) ?_⟩
      refine ⟨_, rfl, rfl, _, rfl, iteF' (by decide +kernel) ?_⟩
      refine ⟨_, rfl, _, _, _, _, rfl, rfl, SqT.of e, rfl, _, rfl, ?_⟩
      refine ⟨u, a, ns, s, rfl, h1, by omega, by omega, htx.1, hA, hn, fun m1 p1 ws1 H1 S1 f1 e1 l1 => ?_, fun m1 H1 S1 => hE (fun z => m1 z.1) H1 S1⟩
      refine ⟨_, rfl, _, _, _, _, rfl, rfl, SqT.of (S1 _ _ e), rfl, _, rfl, ?_⟩
      refine ⟨v, a, ns, t, rfl, h2.mono S1.tup, by omega, by omega, htx.2, S1.seq hA, hn, fun m2 p2 ws2 H2 S2 f2 e2 l2 => ?_, fun m2 H2 S2 => hE (fun z => m2 z.2) H2 (S1.trans S2)⟩
      refine ⟨p1, p2, ws1, ws2, rfl, rfl, S2 _ _ e1, e2, by rw [sizeLine_eq]; omega, fun p3 hp3 => ?_⟩
      obtain ⟨S3, e3⟩ := catN (ws := ws1 ++ ws2) hp3
      have SS := S1.trans (S2.trans S3)
      refine ⟨_, rfl, one, fun t1 ht1 => ⟨one, fun p4 hp4 => ?_⟩⟩
      obtain ⟨S45, e4⟩ := oneN (ws := [.ref t1]) ht1 hp4
      refine ⟨p3, p4, ws1 ++ ws2, [.ref t1], rfl, rfl, S45 _ _ e3, e4, by rw [sizeLine_eq, List.length_append]; show _ + 1 ≤ _; omega, fun p5 hp5 => ?_⟩
      obtain ⟨S6, e6⟩ := catN (ws := ws1 ++ ws2 ++ [.ref t1]) hp5
      exact q ⟨m1, m2⟩ p5 _ _ (SS.trans (S45.trans S6)) ((SS.trans S45).free hp5) e6 (by rw [List.length_append, List.length_append]; show _ + _ + 1 ≤ 3 * (2 * s.lv + 2 * t.lv + 1); omega)
    | @same c u v s t e h1 h2 =>
      have hd1 : max s.dp t.dp + 1 ≤ n + 1 := hd
      have hc' : 2 * s.lv + 2 * t.lv + 1 ≤ 1000 := hc
      refine ⟨_, rfl, _, _, _, _, rfl, rfl, SqT.of e, rfl, ?_⟩
      refine ⟨_, rfl, rfl, _, rfl, iteF' (by decide +kernel) ?_⟩
      refine ⟨_, rfl, rfl, _, rfl, iteF' (by decide +kernel) ?_⟩
      refine ⟨_, rfl, _, _, _, _, rfl, rfl, SqT.of e, rfl, _, rfl, ?_⟩
      refine ⟨u, a, ns, s, rfl, h1, by omega, by omega, htx.1, hA, hn, fun m1 p1 ws1 H1 S1 f1 e1 l1 => ?_, fun m1 H1 S1 => hE (fun z => m1 z.1) H1 S1⟩
      refine ⟨_, rfl, _, _, _, _, rfl, rfl, SqT.of (S1 _ _ e), rfl, _, rfl, ?_⟩
      refine ⟨v, a, ns, t, rfl, h2.mono S1.tup, by omega, by omega, htx.2, S1.seq hA, hn, fun m2 p2 ws2 H2 S2 f2 e2 l2 => ?_, fun m2 H2 S2 => hE (fun z => m2 z.2) H2 (S1.trans S2)⟩
      refine ⟨p1, p2, ws1, ws2, rfl, rfl, S2 _ _ e1, e2, by rw [sizeLine_eq]; omega, fun p3 hp3 => ?_⟩
      obtain ⟨S3, e3⟩ := catN (ws := ws1 ++ ws2) hp3
      have SS := S1.trans (S2.trans S3)
      refine ⟨_, rfl, one, fun t1 ht1 => ⟨one, fun p4 hp4 => ?_⟩⟩
      obtain ⟨S45, e4⟩ := oneN (ws := [.ref t1]) ht1 hp4
      refine ⟨p3, p4, ws1 ++ ws2, [.ref t1], rfl, rfl, S45 _ _ e3, e4, by rw [sizeLine_eq, List.length_append]; show _ + 1 ≤ _; omega, fun p5 hp5 => ?_⟩
      obtain ⟨S6, e6⟩ := catN (ws := ws1 ++ ws2 ++ [.ref t1]) hp5
      exact q ⟨m1, m2⟩ p5 _ _ (SS.trans (S45.trans S6)) ((SS.trans S45).free hp5) e6 (by rw [List.length_append, List.length_append]; show _ + _ + 1 ≤ 3 * (2 * s.lv + 2 * t.lv + 1); omega)
    | @not c u t e h1 =>
      have hd1 : t.dp + 1 ≤ n + 1 := hd
      have hc' : t.wn + 1 ≤ 1000 := hc
      refine ⟨_, rfl, _, _, _, _, rfl, rfl, SqT.of e, rfl, ?_⟩
      refine ⟨_, rfl, rfl, _, rfl, iteT' (by decide +kernel) ?_⟩
      refine ⟨_, rfl, _, _, _, _, rfl, rfl, SqT.of e, rfl, _, rfl, ?_⟩
      refine ⟨u, a, ns, t, rfl, h1, by omega, by omega, htx, hA, hn, fun m1 p1 ws1 H1 S1 f1 e1 l1 => ?_, fun m1 H1 S1 => hE m1 H1 S1⟩
      refine ⟨one, fun t1 ht1 => ⟨one, fun p4 hp4 => ?_⟩⟩
      obtain ⟨S45, e4⟩ := oneN (ws := [.ref t1]) ht1 hp4
      refine ⟨p1, p4, ws1, [.ref t1], rfl, rfl, S45 _ _ e1, e4, by rw [sizeLine_eq]; show _ + 1 ≤ _; omega, fun p5 hp5 => ?_⟩
      obtain ⟨S6, e6⟩ := catN (ws := ws1 ++ [.ref t1]) hp5
      exact q m1 p5 _ _ (S1.trans (S45.trans S6)) ((S1.trans S45).free hp5) e6 (by rw [List.length_append]; show _ + 1 ≤ 3 * (t.wn + 1); omega)
    | @both c u v s t e h1 h2 =>
      have hd1 : max s.dp t.dp + 1 ≤ n + 1 := hd
      have hc' : s.wn + t.wn + 1 ≤ 1000 := hc
      refine ⟨_, rfl, _, _, _, _, rfl, rfl, SqT.of e, rfl, ?_⟩
      refine ⟨_, rfl, rfl, _, rfl, iteF' (by decide +kernel) ?_⟩
      refine ⟨_, rfl, rfl, _, rfl, iteT' (by decide +kernel) ?_⟩
      refine ⟨_, rfl, _, _, _, _, rfl, rfl, SqT.of e, rfl, _, rfl, ?_⟩
      refine ⟨u, a, ns, s, rfl, h1, by omega, by omega, htx.1, hA, hn, fun m1 p1 ws1 H1 S1 f1 e1 l1 => ?_, fun m1 H1 S1 => hE (fun z => m1 z.1) H1 S1⟩
      refine ⟨_, rfl, _, _, _, _, rfl, rfl, SqT.of (S1 _ _ e), rfl, _, rfl, ?_⟩
      refine ⟨v, a, ns, t, rfl, h2.mono S1.tup, by omega, by omega, htx.2, S1.seq hA, hn, fun m2 p2 ws2 H2 S2 f2 e2 l2 => ?_, fun m2 H2 S2 => hE (fun z => m2 z.2) H2 (S1.trans S2)⟩
      refine ⟨p1, p2, ws1, ws2, rfl, S2 _ _ e1, e2, by omega, fun p3 ws3 H3 S3 f3 e3 l3 => ?_⟩
      exact q ⟨m1, m2⟩ p3 _ _ (S1.trans (S2.trans S3)) ((S1.trans S2).free f3) e3 (by show _ ≤ 3 * (s.wn + t.wn + 1); omega)
end
end W05

set_option Elab.async false
set_option linter.all false
set_option maxRecDepth 100000
set_option maxHeartbeats 4000000
namespace W05
open PySem L2 J
section
variable {P : Program} {w : World} {K : PySem.W.Frag} {mg : Str → Option Value} {base : Heap}
/-! ### when_cards, while_cards, block_cards, cards_of -/
def spWhenC : Sp := fun vs H Q _ => ∃ (p0 p1 p2 : Addr) (ws0 ws1 ws2 : List V), vs = [.ref p0, .ref p1, .ref p2] ∧ H p0 = some (.lst ws0) ∧ H p1 = some (.lst ws1) ∧ H p2 = some (.lst ws2) ∧ ws0.length + ws1.length + ws2.length ≤ 2000000 ∧
  ∀ p ws H', Same H H' → H p = none → H' p = some (.lst ws) → ws.length = ws0.length + ws1.length + ws2.length + 2 → Q (.ref p) H'
def spWhilC : Sp := fun vs H Q _ => ∃ (p0 p1 : Addr) (ws0 ws1 : List V), vs = [.ref p0, .ref p1] ∧ H p0 = some (.lst ws0) ∧ H p1 = some (.lst ws1) ∧ ws0.length + ws1.length ≤ 2000000 ∧
  ∀ p ws H', Same H H' → H p = none → H' p = some (.lst ws) → ws.length = ws0.length + ws1.length + 2 → Q (.ref p) H'
theorem ok_when_cards (T : Txt K mg) : FnOk P w K mg base CX0 1 T.f_when_cards T.fd_when_cards ["test", "first", "second"] spWhenC := by
  refine T.when_cards.F.ok sc_when_cards (fun vs H Q E h => ?_) (fun cdv A outer s H vs Q E hr h => ?_)
  · obtain ⟨p0, p1, p2, ws0, ws1, ws2, rfl, _⟩ := h; rfl
  obtain ⟨p0, p1, p2, ws0, ws1, ws2, rfl, e0, e1, e2, hl, q⟩ := h
  have one : (1 : Nat) ≤ sizeLine := by decide
  have two : (2 : Nat) ≤ sizeLine := by decide
  refine ⟨_, (pss_one (ps_ret (pe_op op_cat (pe_op op_cat (pe_op op_cat (pe_op op_cat (pv 0) (pe_lst (pa_cons (pe_tup (pa_cons pe_str (pa_cons (pe_op op_add (pe_callB call_len_seq rfl T.b_len PySem.boot_len (pa_cons (pv 1) pa_nil)) pe_int) pa_nil))) pa_nil))) (pv 1)) (pe_lst (pa_cons (pe_tup (pa_cons pe_str (pa_cons (pe_callB call_len_seq rfl T.b_len PySem.boot_len (pa_cons (pv 2) pa_nil)) pa_nil))) pa_nil))) (pv 2)))), ?_⟩
  refine ⟨_, rfl, _, rfl, _, _, rfl, .inl (SqL.of e1), _, _, rfl, rfl, two, fun t1 ht1 => ⟨one, fun p4 hp4 => ?_⟩⟩
  obtain ⟨S1, f1⟩ := oneN (ws := [.ref t1]) ht1 hp4
  refine ⟨p0, p4, ws0, [.ref t1], rfl, rfl, S1 _ _ e0, f1, by rw [sizeLine_eq]; show _ + 1 ≤ _; omega, fun p5 hp5 => ?_⟩
  obtain ⟨S2, f2⟩ := catN (ws := ws0 ++ [.ref t1]) hp5
  have S12 := S1.trans S2
  refine ⟨_, rfl, ?_⟩
  refine ⟨p5, p1, _, ws1, rfl, rfl, f2, S12 _ _ e1, by rw [sizeLine_eq, List.length_append]; show _ + 1 + _ ≤ _; omega, fun p6 hp6 => ?_⟩
  obtain ⟨S3, f3⟩ := catN (ws := ws0 ++ [.ref t1] ++ ws1) hp6
  have S13 := S12.trans S3
  refine ⟨_, rfl, _, _, rfl, .inl (SqL.of (S13 _ _ e2)), two, fun t2 ht2 => ⟨one, fun p7 hp7 => ?_⟩⟩
  obtain ⟨S4, f4⟩ := oneN (ws := [.ref t2]) ht2 hp7
  refine ⟨p6, p7, _, [.ref t2], rfl, rfl, S4 _ _ f3, f4, by rw [sizeLine_eq, List.length_append, List.length_append]; show _ + 1 + _ + 1 ≤ _; omega, fun p8 hp8 => ?_⟩
  obtain ⟨S5, f5⟩ := catN (ws := ws0 ++ [.ref t1] ++ ws1 ++ [.ref t2]) hp8
  have S15 := S13.trans (S4.trans S5)
  refine ⟨_, rfl, ?_⟩
  refine ⟨p8, p2, _, ws2, rfl, rfl, f5, S15 _ _ e2, by rw [sizeLine_eq, List.length_append, List.length_append, List.length_append]; show _ + 1 + _ + 1 + _ ≤ _; omega, fun p9 hp9 => ?_⟩
  obtain ⟨S6, f6⟩ := catN (ws := ws0 ++ [.ref t1] ++ ws1 ++ [.ref t2] ++ ws2) hp9
  exact q p9 _ _ (S15.trans S6) (S15.free hp9) f6 (by simp only [List.length_append, List.length_cons, List.length_nil]; omega)
theorem ok_while_cards (T : Txt K mg) : FnOk P w K mg base CX0 1 T.f_while_cards T.fd_while_cards ["test", "inner"] spWhilC := by
  refine T.while_cards.F.ok sc_while_cards (fun vs H Q E h => ?_) (fun cdv A outer s H vs Q E hr h => ?_)
  · obtain ⟨p0, p1, ws0, ws1, rfl, _⟩ := h; rfl
  obtain ⟨p0, p1, ws0, ws1, rfl, e0, e1, hl, q⟩ := h
  have one : (1 : Nat) ≤ sizeLine := by decide
  have two : (2 : Nat) ≤ sizeLine := by decide
  refine ⟨_, (pss_one (ps_ret (pe_op op_cat (pe_op op_cat (pe_op op_cat (pv 0) (pe_lst (pa_cons (pe_tup (pa_cons pe_str (pa_cons (pe_op op_add (pe_callB call_len_seq rfl T.b_len PySem.boot_len (pa_cons (pv 1) pa_nil)) pe_int) pa_nil))) pa_nil))) (pv 1)) (pe_lst (pa_cons (pe_tup (pa_cons pe_str (pa_cons (pe_op op_add (pe_op op_add (pe_callB call_len_seq rfl T.b_len PySem.boot_len (pa_cons (pv 0) pa_nil)) pe_int) (pe_callB call_len_seq rfl T.b_len PySem.boot_len (pa_cons (pv 1) pa_nil))) pa_nil))) pa_nil))))), ?_⟩
  refine ⟨_, rfl, _, rfl, _, _, rfl, .inl (SqL.of e1), _, _, rfl, rfl, two, fun t1 ht1 => ⟨one, fun p4 hp4 => ?_⟩⟩
  obtain ⟨S1, f1⟩ := oneN (ws := [.ref t1]) ht1 hp4
  refine ⟨p0, p4, ws0, [.ref t1], rfl, rfl, S1 _ _ e0, f1, by rw [sizeLine_eq]; show _ + 1 ≤ _; omega, fun p5 hp5 => ?_⟩
  obtain ⟨S2, f2⟩ := catN (ws := ws0 ++ [.ref t1]) hp5
  have S12 := S1.trans S2
  refine ⟨_, rfl, ?_⟩
  refine ⟨p5, p1, _, ws1, rfl, rfl, f2, S12 _ _ e1, by rw [sizeLine_eq, List.length_append]; show _ + 1 + _ ≤ _; omega, fun p6 hp6 => ?_⟩
  obtain ⟨S3, f3⟩ := catN (ws := ws0 ++ [.ref t1] ++ ws1) hp6
  have S13 := S12.trans S3
  refine ⟨_, rfl, _, _, rfl, .inl (SqL.of (S13 _ _ e0)), _, _, rfl, rfl, _, rfl, _, _, rfl, .inl (SqL.of (S13 _ _ e1)), _, _, rfl, rfl, two, fun t2 ht2 => ⟨one, fun p7 hp7 => ?_⟩⟩
  obtain ⟨S4, f4⟩ := oneN (ws := [.ref t2]) ht2 hp7
  refine ⟨p6, p7, _, [.ref t2], rfl, rfl, S4 _ _ f3, f4, by rw [sizeLine_eq, List.length_append, List.length_append]; show _ + 1 + _ + 1 ≤ _; omega, fun p8 hp8 => ?_⟩
  obtain ⟨S5, f5⟩ := catN (ws := ws0 ++ [.ref t1] ++ ws1 ++ [.ref t2]) hp8
  exact q p8 _ _ (S13.trans (S4.trans S5)) ((S13.trans S4).free hp8) f5 (by simp only [List.length_append, List.length_cons, List.length_nil]; omega)
def spBlock5 (K : PySem.W.Frag) (C : Addr) (n : Nat) : Sp := fun vs H Q E => ∃ (lb a : Addr) (us : List V) (ns : List Str) (b : Bk), vs = [.ref lb, .ref a] ∧ H lb = some (.lst us) ∧ IsBk H noM us b ∧ b.dp ≤ n ∧ b.wel ∧ b.fit ∧ b.n ≤ 1000 ∧ H a = some (.lst (ns.map V.str)) ∧ ns.length + n ≤ 500 ∧
  (b.str ns = [] → ∀ p ws H', Same H H' → H p = none → H' p = some (.lst ws) → ws.length ≤ 700 * b.n → Q (.ref p) H') ∧ (b.str ns ≠ [] → ∀ H', Same H H' → E (.ref C) none H')
def PBlock5 (H : Hp) (lb a D : Addr) (us : List V) (ns : List Str) (b : Bk) (n i : Nat) (σ : St) (H' : Hp) : Prop :=
  ∃ o3 o4 o5 bi ws, σ = [some (.ref lb), some (.ref a), some (.ref D), o3, o4, o5] ∧ Same H H' ∧ H' D = some (.lst ws) ∧ IsBk H noM (us.drop i) bi ∧ bi.dp ≤ n ∧ bi.wel ∧ bi.fit ∧ b.str ns = bi.str ns ∧ ws.length + 700 * bi.n ≤ 700 * b.n
theorem app_nil1 {α : Type} {xs ys : List α} (h : xs ≠ []) : xs ++ ys ≠ [] := fun z => h (List.append_eq_nil_iff.mp z).1
theorem app_nil2 {α : Type} {xs ys : List α} (h : ys ≠ []) : xs ++ ys ≠ [] := fun z => h (List.append_eq_nil_iff.mp z).2
theorem outs_no {ns : List Str} {s : Sm Str} (h : ¬ s.nm ns) : outs ns s.used ≠ [] := fun z => h (Sm.nm_used.mpr (outs_nil.mp z))
theorem outs_noT {ns : List Str} {s : Ts} (h : ¬ s.nm ns) : outs ns s.used ≠ [] := fun z => h (Ts.nm_used.mpr (outs_nil.mp z))
theorem outs_yes {ns : List Str} {s : Sm Str} (h : s.nm ns) : outs ns s.used = [] := outs_nil.mpr (Sm.nm_used.mp h)
theorem outs_yesT {ns : List Str} {s : Ts} (h : s.nm ns) : outs ns s.used = [] := outs_nil.mpr (Ts.nm_used.mp h)
theorem ok_block_cards (T : Txt K mg) : ∀ n : Nat, FnOk P w K mg base (CX1 P w) (n + 24) T.f_block_cards T.fd_block_cards ["block", "names"] (spBlock5 K T.er.cNoName n)
  | 0 => by
    have no : ∀ vs H Q E, ¬ spBlock5 K T.er.cNoName 0 vs H Q E := fun vs H Q E h => by
      obtain ⟨lb, a, us, ns, b, _, _, _, h1, _⟩ := h
      have := b.dp_pos
      omega
    exact ⟨fun vs H Q E h => absurd h (no vs H Q E), fun A outer s H args us vs Q E _ _ _ _ h => absurd h (no vs H Q E)⟩
  | n + 1 => by
    have G_block_cards := ok_block_cards T n
    have G_sum_cards := (ok_sum_cards (P := P) (w := w) (base := base) T 20).mono (show 22 ≤ n + 24 by omega)
    have G_test_cards := (ok_test_cards (P := P) (w := w) (base := base) T 20).mono (show 22 ≤ n + 24 by omega)
    have G_place_of := (ok_place_ofX (P := P) (w := w) (base := base) T).mono (show 1 ≤ n + 24 by omega)
    have G_when_cards := (ok_when_cards (P := P) (w := w) (base := base) T).mono (show 1 ≤ n + 24 by omega)
    have G_while_cards := (ok_while_cards (P := P) (w := w) (base := base) T).mono (show 1 ≤ n + 24 by omega)
    refine T.block_cards.F.okX sc_block_cards (fun vs H Q E h => ?_) (fun cdv A outer s H vs Q E hr h => ?_)
    · obtain ⟨lb, a, us, ns, b, rfl, _⟩ := h; rfl
    obtain ⟨lb, a, us, ns, b, rfl, hb, hB, hd, hl, hft, hbn, hA, hn, q, hE⟩ := h
    refine ⟨_, (pss_cons (ps_set (i := 2) sc_block_cards.nd rfl (Or.inl rfl) (pe_lst pa_nil))
    (pss_cons (ps_for PassesOwn.leaving rfl (pi_list (pv 0)) (pg_name (i := 3) sc_block_cards.nd rfl (Or.inl rfl)) (pss_cons (ps_set (i := 4) sc_block_cards.nd rfl (Or.inl rfl) (pe_ix ix_tup (pv 3) pe_int (fun _ _ => rfl)))
    (pss_cons (ps_expr (pe_bm PySem.F.plainAttrs_list PySem.F.slot_list_append PySem.F.type_list_append mt_append (pv 2) (pa_cons (pe_tup (pa_cons pe_str pa_nil)) pa_nil)))
    (pss_one (ps_if (pt_cmpR op_eq (pv 4) pe_str (nomark _)) (pss_cons (ps_expr (pe_bm PySem.F.plainAttrs_list PySem.F.slot_list_extend PySem.F.type_list_extend mt_extendP (pv 2) (pa_cons (pe_call G_sum_cards hr rfl T.sum_cards.m T.sum_cards.F.kp T.sum_cards.b .nil cx_pass (pa_cons (pe_ix ix_tup (pv 3) pe_int (fun _ _ => rfl)) (pa_cons (pv 1) pa_nil))) pa_nil)))
    (pss_one (ps_expr (pe_bm PySem.F.plainAttrs_list PySem.F.slot_list_append PySem.F.type_list_append mt_append (pv 2) (pa_cons (pe_tup (pa_cons pe_str (pa_cons (pe_call G_place_of hr rfl T.place_of.m T.place_of.F.kp T.place_of.b .nil cx_pass (pa_cons (pv 1) (pa_cons (pe_ix ix_tup (pv 3) pe_int (fun _ _ => rfl)) pa_nil))) pa_nil))) pa_nil))))) (pss_one (ps_if (pt_cmpR op_eq (pv 4) pe_str (nomark _)) (pss_cons (ps_expr (pe_bm PySem.F.plainAttrs_list PySem.F.slot_list_extend PySem.F.type_list_extend mt_extendP (pv 2) (pa_cons (pe_call G_sum_cards hr rfl T.sum_cards.m T.sum_cards.F.kp T.sum_cards.b .nil cx_pass (pa_cons (pe_ix ix_tup (pv 3) pe_int (fun _ _ => rfl)) (pa_cons (pv 1) pa_nil))) pa_nil)))
    (pss_one (ps_expr (pe_bm PySem.F.plainAttrs_list PySem.F.slot_list_append PySem.F.type_list_append mt_append (pv 2) (pa_cons (pe_tup (pa_cons pe_str pa_nil)) pa_nil))))) (pss_one (ps_if (pt_cmpR op_eq (pv 4) pe_str (nomark _)) (pss_cons (ps_set (i := 5) sc_block_cards.nd rfl (Or.inl rfl) (pe_call G_test_cards hr rfl T.test_cards.m T.test_cards.F.kp T.test_cards.b .nil cx_pass (pa_cons (pe_ix ix_tup (pv 3) pe_int (fun _ _ => rfl)) (pa_cons (pv 1) pa_nil))))
    (pss_one (ps_expr (pe_bm PySem.F.plainAttrs_list PySem.F.slot_list_extend PySem.F.type_list_extend mt_extendP (pv 2) (pa_cons (pe_call G_when_cards hr rfl T.when_cards.m T.when_cards.F.kp T.when_cards.b .nil pass0 (pa_cons (pv 5) (pa_cons (pe_call G_block_cards hr rfl T.block_cards.m T.block_cards.F.kp T.block_cards.b .nil cx_pass (pa_cons (pe_ix ix_tup (pv 3) pe_int (fun _ _ => rfl)) (pa_cons (pv 1) pa_nil))) (pa_cons (pe_call G_block_cards hr rfl T.block_cards.m T.block_cards.F.kp T.block_cards.b .nil cx_pass (pa_cons (pe_ix ix_tup (pv 3) pe_int (fun _ _ => rfl)) (pa_cons (pv 1) pa_nil))) pa_nil)))) pa_nil))))) (pss_one (ps_if (pt_cmpR op_eq (pv 4) pe_str (nomark _)) (pss_one (ps_expr (pe_bm PySem.F.plainAttrs_list PySem.F.slot_list_extend PySem.F.type_list_extend mt_extendP (pv 2) (pa_cons (pe_call G_while_cards hr rfl T.while_cards.m T.while_cards.F.kp T.while_cards.b .nil pass0 (pa_cons (pe_call G_test_cards hr rfl T.test_cards.m T.test_cards.F.kp T.test_cards.b .nil cx_pass (pa_cons (pe_ix ix_tup (pv 3) pe_int (fun _ _ => rfl)) (pa_cons (pv 1) pa_nil))) (pa_cons (pe_call G_block_cards hr rfl T.block_cards.m T.block_cards.F.kp T.block_cards.b .nil cx_pass (pa_cons (pe_ix ix_tup (pv 3) pe_int (fun _ _ => rfl)) (pa_cons (pv 1) pa_nil))) pa_nil))) pa_nil)))) (pss_cons (ps_expr (pe_bm PySem.F.plainAttrs_list PySem.F.slot_list_extend PySem.F.type_list_extend mt_extendP (pv 2) (pa_cons (pe_call G_sum_cards hr rfl T.sum_cards.m T.sum_cards.F.kp T.sum_cards.b .nil cx_pass (pa_cons (pe_ix ix_tup (pv 3) pe_int (fun _ _ => rfl)) (pa_cons (pv 1) pa_nil))) pa_nil)))
    (pss_cons (ps_expr (pe_bm PySem.F.plainAttrs_list PySem.F.slot_list_extend PySem.F.type_list_extend mt_extendP (pv 2) (pa_cons (pe_call G_block_cards hr rfl T.block_cards.m T.block_cards.F.kp T.block_cards.b .nil cx_pass (pa_cons (pe_ix ix_tup (pv 3) pe_int (fun _ _ => rfl)) (pa_cons (pe_op op_cat (pv 1) (pe_lst (pa_cons (pe_ix ix_tup (pv 3) pe_int (fun _ _ => rfl)) pa_nil))) pa_nil))) pa_nil)))
    (pss_one (ps_expr (pe_bm PySem.F.plainAttrs_list PySem.F.slot_list_append PySem.F.type_list_append mt_append (pv 2) (pa_cons (pe_tup (pa_cons pe_str pa_nil)) pa_nil)))))))))))))))))
    (pss_one (ps_ret (pv 2))))), ?_⟩
    have one : (1 : Nat) ≤ sizeLine := by decide
    have two : (2 : Nat) ≤ sizeLine := by decide
    refine ⟨Nat.zero_le _, fun D hD => ?_⟩
    refine ⟨_, rfl, lb, rfl, ⟨_, SqL.of (same_new hD _ _ _ hb)⟩, ?_⟩
    refine for_list (xs := us) (PBlock5 H lb a D us ns b (n + 1)) ⟨none, none, none, b, [], rfl, same_new hD _, upd_same, hB, hd, hl, hft, rfl, by rw [List.length_nil]; omega⟩ (fun i σ H' _ z => by obtain ⟨_, _, _, _, _, _, S, _⟩ := z; exact SqL.of (S _ _ hb)) ?_ ?_
    · rintro i x σ H' hx ⟨o3, o4, o5, bi, ws, rfl, S, eD, hBi, hdi, hli, hfi, hst, hlen⟩
      have hil := (List.getElem?_eq_some_iff.mp hx).1
      have hdrop : us.drop i = x :: us.drop (i + 1) := by
        have := List.drop_eq_getElem_cons hil
        rw [(List.getElem?_eq_some_iff.mp hx).2] at this
        exact this
      rw [hdrop] at hBi
      -- what is appended, a new tuple
      have addT : ∀ {G : Hp} {ws' vs' : List V} {t : Addr}, Same H G → G D = some (.lst ws') → G t = none → Same H (upd (upd G t (.tup vs')) D (.lst (ws' ++ [.ref t]))) ∧ upd G t (.tup vs') D = some (.lst ws') ∧ upd (upd G t (.tup vs')) D (.lst (ws' ++ [.ref t])) D = some (.lst (ws' ++ [.ref t])) :=
        fun S e ht => ⟨Same.at (S.trans (same_new ht _)) hD _, same_new ht _ _ _ e, upd_same⟩
      cases hBi with
      | @set c x u s vs r e hs hr2 =>
        obtain ⟨⟨_, hsf⟩, hrl⟩ := hli
        obtain ⟨hxf, hst5, hrf⟩ := hfi
        have hlv := hsf.2.2
        have es : Bk.str ns (.set x s r) = outs ns (x :: s.used) ++ r.str ns := rfl
        have en : (Bk.set x s r).n = r.n + 1 := rfl
        rw [es] at hst
        rw [en] at hlen
        have ox : outs ns (x :: s.used) = outs ns [x] ++ outs ns s.used := outs_app ns [x] s.used
        rw [ox] at hst
        refine ⟨_, rfl, _, _, _, _, rfl, rfl, SqT.of (S _ _ e), at0, ?_⟩
        refine ⟨_, rfl, .inl ⟨rfl, _, SqL.of eD⟩, one, fun t1 ht1 => ?_⟩
        obtain ⟨S1, e1, f1⟩ := addT (vs' := [V.str "burn"]) S eD ht1
        refine ⟨_, _, _, rfl, rfl, e1, by rw [sizeLine_eq]; omega, ?_⟩
        refine ⟨_, rfl, rfl, _, rfl, iteT' (by decide +kernel) ?_⟩
        refine ⟨_, rfl, .inl ⟨rfl, _, SqL.of f1⟩, _, rfl, _, _, _, _, rfl, rfl, SqT.of (S1 _ _ e), atI_nat (j := 2) rfl, _, rfl, ?_⟩
        refine ⟨u, a, ns, s, rfl, hs.mono S1.tup, hsf.2.1, by omega, hst5.1, SqL.of (S1 _ _ hA), by omega, fun m1 p2 ws2 H2 S2 f2 e2 l2 => ?_, fun m1 H2 S2 => hE (by rw [hst]; exact app_nil1 (app_nil2 (outs_no m1))) H2 (S1.trans S2)⟩
        refine ⟨D, p2, _, _, rfl, rfl, S2 _ _ f1, .inl e2, by rw [sizeLine_eq, List.length_append]; show _ + 1 + _ ≤ _; omega, ?_⟩
        have S3 : Same H (upd H2 D (.lst (ws ++ [.ref t1] ++ ws2))) := Same.at (S1.trans S2) hD _
        have f3 : upd H2 D (.lst (ws ++ [.ref t1] ++ ws2)) D = some (.lst (ws ++ [.ref t1] ++ ws2)) := upd_same
        generalize upd H2 D (.lst (ws ++ [.ref t1] ++ ws2)) = H3 at S3 f3
        refine ⟨_, rfl, .inl ⟨rfl, _, SqL.of f3⟩, _, rfl, _, rfl, _, _, _, _, rfl, rfl, SqT.of (S3 _ _ e), atI_nat (j := 1) rfl, ?_⟩
        refine ⟨a, ns, x, rfl, SqL.of (S3 _ _ hA), by omega, fun j hj => ?_, fun hnone => ⟨by omega, hE ?_ _ S3⟩⟩
        · refine ⟨two, fun t3 ht3 => ?_⟩
          obtain ⟨S4, e4, f4⟩ := addT (vs' := [V.str "store", V.int (j : Int)]) S3 f3 ht3
          refine ⟨_, _, _, rfl, rfl, e4, by rw [sizeLine_eq, List.length_append, List.length_append]; show _ + 1 + _ < _; omega, ?_⟩
          have hx0 : outs ns [x] = [] := outs_nil.mpr fun y hy => by rw [List.mem_singleton.mp hy]; exact List.mem_of_getElem? (lastIx_get hj)
          rw [hx0, outs_yes m1] at hst
          exact ⟨_, _, _, r, _, rfl, S4, f4, hr2, hdi, hrl, hrf, hst, by simp only [List.length_append, List.length_cons, List.length_nil]; omega⟩
        · rw [hst]
          refine app_nil1 (app_nil1 fun z => ?_)
          obtain ⟨j, hj⟩ := lastIx_mem (outs_nil.mp z x (List.mem_singleton.mpr rfl))
          rw [hnone] at hj; cases hj
      | @say c u s vs r e hs hr2 =>
        obtain ⟨⟨_, hsf⟩, hrl⟩ := hli
        obtain ⟨hst5, hrf⟩ := hfi
        have hlv := hsf.2.2
        have es : Bk.str ns (.say s r) = outs ns s.used ++ r.str ns := rfl
        have en : (Bk.say s r).n = r.n + 1 := rfl
        rw [es] at hst
        rw [en] at hlen
        refine ⟨_, rfl, _, _, _, _, rfl, rfl, SqT.of (S _ _ e), at0, ?_⟩
        refine ⟨_, rfl, .inl ⟨rfl, _, SqL.of eD⟩, one, fun t1 ht1 => ?_⟩
        obtain ⟨S1, e1, f1⟩ := addT (vs' := [V.str "burn"]) S eD ht1
        refine ⟨_, _, _, rfl, rfl, e1, by rw [sizeLine_eq]; omega, ?_⟩
        refine ⟨_, rfl, rfl, _, rfl, iteF' (by decide +kernel) ?_⟩
        refine ⟨_, rfl, rfl, _, rfl, iteT' (by decide +kernel) ?_⟩
        refine ⟨_, rfl, .inl ⟨rfl, _, SqL.of f1⟩, _, rfl, _, _, _, _, rfl, rfl, SqT.of (S1 _ _ e), atI_nat (j := 1) rfl, _, rfl, ?_⟩
        refine ⟨u, a, ns, s, rfl, hs.mono S1.tup, hsf.2.1, by omega, hst5.1, SqL.of (S1 _ _ hA), by omega, fun m1 p2 ws2 H2 S2 f2 e2 l2 => ?_, fun m1 H2 S2 => hE (by rw [hst]; exact app_nil1 (outs_no m1)) H2 (S1.trans S2)⟩
        refine ⟨D, p2, _, _, rfl, rfl, S2 _ _ f1, .inl e2, by rw [sizeLine_eq, List.length_append]; show _ + 1 + _ ≤ _; omega, ?_⟩
        have S3 : Same H (upd H2 D (.lst (ws ++ [.ref t1] ++ ws2))) := Same.at (S1.trans S2) hD _
        have f3 : upd H2 D (.lst (ws ++ [.ref t1] ++ ws2)) D = some (.lst (ws ++ [.ref t1] ++ ws2)) := upd_same
        generalize upd H2 D (.lst (ws ++ [.ref t1] ++ ws2)) = H3 at S3 f3
        refine ⟨_, rfl, .inl ⟨rfl, _, SqL.of f3⟩, one, fun t3 ht3 => ?_⟩
        obtain ⟨S4, e4, f4⟩ := addT (vs' := [V.str "say"]) S3 f3 ht3
        refine ⟨_, _, _, rfl, rfl, e4, by rw [sizeLine_eq, List.length_append, List.length_append]; show _ + 1 + _ < _; omega, ?_⟩
        rw [outs_yes m1] at hst
        exact ⟨_, _, _, r, _, rfl, S4, f4, hr2, hdi, hrl, hrf, hst, by simp only [List.length_append, List.length_cons, List.length_nil]; omega⟩
      | @when c p1 q1 u t vb vc vs b1 c1 r e ht n1 e1' h1 n2 e2' h2 hr2 =>
        obtain ⟨⟨_, htf⟩, hb1, hc1, hrl⟩ := hli
        obtain ⟨htt, hbf, hcf, hrf⟩ := hfi
        have hwn := htf.2.2
        have hdd : max (max (b1.dp + 1) (c1.dp + 1)) r.dp ≤ n + 1 := hdi
        have es : Bk.str ns (.when t b1 c1 r) = outs ns t.used ++ b1.str ns ++ c1.str ns ++ r.str ns := rfl
        have en : (Bk.when t b1 c1 r).n = b1.n + c1.n + r.n + 1 := rfl
        rw [es] at hst
        rw [en] at hlen
        refine ⟨_, rfl, _, _, _, _, rfl, rfl, SqT.of (S _ _ e), at0, ?_⟩
        refine ⟨_, rfl, .inl ⟨rfl, _, SqL.of eD⟩, one, fun t1 ht1 => ?_⟩
        obtain ⟨S1, e1, f1⟩ := addT (vs' := [V.str "burn"]) S eD ht1
        refine ⟨_, _, _, rfl, rfl, e1, by rw [sizeLine_eq]; omega, ?_⟩
        refine ⟨_, rfl, rfl, _, rfl, iteF' (by decide +kernel) ?_⟩
        refine ⟨_, rfl, rfl, _, rfl, iteF' (by decide +kernel) ?_⟩
        refine ⟨_, rfl, rfl, _, rfl, iteT' (by decide +kernel) ?_⟩
        refine ⟨_, rfl, _, _, _, _, rfl, rfl, SqT.of (S1 _ _ e), atI_nat (j := 1) rfl, _, rfl, ?_⟩
        refine ⟨u, a, ns, t, rfl, ht.mono S1.tup, htf.2.1, by omega, htt.1, SqL.of (S1 _ _ hA), by omega, fun m1 p2 ws2 H2 S2 f2 e2 l2 => ?_, fun m1 H2 S2 => hE (by rw [hst]; exact app_nil1 (app_nil1 (app_nil1 (outs_noT m1)))) H2 (S1.trans S2)⟩
        have S12 := S1.trans S2
        refine ⟨_, rfl, .inl ⟨rfl, _, SqL.of (S2 _ _ f1)⟩, _, rfl, _, rfl, _, _, _, _, rfl, rfl, SqT.of (S12 _ _ e), atI_nat (j := 2) rfl, _, rfl, ?_⟩
        refine ⟨p1, a, vb, ns, b1, rfl, S12 _ _ e1', h1.same S12, by omega, hb1, hbf, by omega, S12 _ _ hA, by omega, fun m2 p3 ws3 H3 S3 f3 e3 l3 => ?_, fun m2 H3 S3 => hE (by rw [hst]; exact app_nil1 (app_nil1 (app_nil2 m2))) H3 (S12.trans S3)⟩
        have S13 := S12.trans S3
        refine ⟨_, rfl, _, _, _, _, rfl, rfl, SqT.of (S13 _ _ e), atI_nat (j := 3) rfl, _, rfl, ?_⟩
        refine ⟨q1, a, vc, ns, c1, rfl, S13 _ _ e2', h2.same S13, by omega, hc1, hcf, by omega, S13 _ _ hA, by omega, fun m3 p4 ws4 H4 S4 f4 e4 l4 => ?_, fun m3 H4 S4 => hE (by rw [hst]; exact app_nil1 (app_nil2 m3)) H4 (S13.trans S4)⟩
        have S14 := S13.trans S4
        refine ⟨p2, p3, p4, ws2, ws3, ws4, rfl, S4 _ _ (S3 _ _ e2), S4 _ _ e3, e4, by omega, fun p5 ws5 H5 S5 f5 e5 l5 => ?_⟩
        refine ⟨D, p5, _, _, rfl, rfl, S5 _ _ (S4 _ _ (S3 _ _ (S2 _ _ f1))), .inl e5, by rw [sizeLine_eq, List.length_append]; show _ + 1 + _ ≤ _; omega, ?_⟩
        rw [outs_yesT m1, m2, m3] at hst
        exact ⟨_, _, _, r, _, rfl, Same.at (S14.trans S5) hD _, upd_same, hr2, by omega, hrl, hrf, hst, by simp only [List.length_append, List.length_cons, List.length_nil]; omega⟩
      | @whil c p1 u t vb vs b1 r e ht n1 e1' h1 hr2 =>
        obtain ⟨⟨_, htf⟩, hb1, hrl⟩ := hli
        obtain ⟨htt, hbf, hrf⟩ := hfi
        have hwn := htf.2.2
        have hdd : max (b1.dp + 1) r.dp ≤ n + 1 := hdi
        have es : Bk.str ns (.whil t b1 r) = outs ns t.used ++ b1.str ns ++ r.str ns := rfl
        have en : (Bk.whil t b1 r).n = b1.n + r.n + 1 := rfl
        rw [es] at hst
        rw [en] at hlen
        refine ⟨_, rfl, _, _, _, _, rfl, rfl, SqT.of (S _ _ e), at0, ?_⟩
        refine ⟨_, rfl, .inl ⟨rfl, _, SqL.of eD⟩, one, fun t1 ht1 => ?_⟩
        obtain ⟨S1, e1, f1⟩ := addT (vs' := [V.str "burn"]) S eD ht1
        refine ⟨_, _, _, rfl, rfl, e1, by rw [sizeLine_eq]; omega, ?_⟩
        refine ⟨_, rfl, rfl, _, rfl, iteF' (by decide +kernel) ?_⟩
        refine ⟨_, rfl, rfl, _, rfl, iteF' (by decide +kernel) ?_⟩
        refine ⟨_, rfl, rfl, _, rfl, iteF' (by decide +kernel) ?_⟩
        refine ⟨_, rfl, rfl, _, rfl, iteT' (by decide +kernel) ?_⟩
        refine ⟨_, rfl, .inl ⟨rfl, _, SqL.of f1⟩, _, rfl, _, _, _, _, rfl, rfl, SqT.of (S1 _ _ e), atI_nat (j := 1) rfl, _, rfl, ?_⟩
        refine ⟨u, a, ns, t, rfl, ht.mono S1.tup, htf.2.1, by omega, htt.1, SqL.of (S1 _ _ hA), by omega, fun m1 p2 ws2 H2 S2 f2 e2 l2 => ?_, fun m1 H2 S2 => hE (by rw [hst]; exact app_nil1 (app_nil1 (outs_noT m1))) H2 (S1.trans S2)⟩
        have S12 := S1.trans S2
        refine ⟨_, rfl, _, _, _, _, rfl, rfl, SqT.of (S12 _ _ e), atI_nat (j := 2) rfl, _, rfl, ?_⟩
        refine ⟨p1, a, vb, ns, b1, rfl, S12 _ _ e1', h1.same S12, by omega, hb1, hbf, by omega, S12 _ _ hA, by omega, fun m2 p3 ws3 H3 S3 f3 e3 l3 => ?_, fun m2 H3 S3 => hE (by rw [hst]; exact app_nil1 (app_nil2 m2)) H3 (S12.trans S3)⟩
        have S13 := S12.trans S3
        refine ⟨p2, p3, ws2, ws3, rfl, S3 _ _ e2, e3, by omega, fun p5 ws5 H5 S5 f5 e5 l5 => ?_⟩
        refine ⟨D, p5, _, _, rfl, rfl, S5 _ _ (S3 _ _ (S2 _ _ f1)), .inl e5, by rw [sizeLine_eq, List.length_append]; show _ + 1 + _ ≤ _; omega, ?_⟩
        rw [outs_yesT m1, m2] at hst
        exact ⟨_, _, _, r, _, rfl, Same.at (S13.trans S5) hD _, upd_same, hr2, by omega, hrl, hrf, hst, by simp only [List.length_append, List.length_cons, List.length_nil]; omega⟩
      | @wit c p1 x u s vb vs b1 r e hs n1 e1' h1 hr2 =>
        obtain ⟨⟨_, hsf⟩, hb1, hrl⟩ := hli
        obtain ⟨hxf, hst5, hbf, hrf⟩ := hfi
        have hlv := hsf.2.2
        have hdd : max (b1.dp + 1) r.dp ≤ n + 1 := hdi
        have es : Bk.str ns (.wit x s b1 r) = outs ns s.used ++ b1.str (ns ++ [x]) ++ r.str ns := rfl
        have en : (Bk.wit x s b1 r).n = b1.n + r.n + 1 := rfl
        rw [es] at hst
        rw [en] at hlen
        refine ⟨_, rfl, _, _, _, _, rfl, rfl, SqT.of (S _ _ e), at0, ?_⟩
        refine ⟨_, rfl, .inl ⟨rfl, _, SqL.of eD⟩, one, fun t1 ht1 => ?_⟩
        obtain ⟨S1, e1, f1⟩ := addT (vs' := [V.str "burn"]) S eD ht1
        refine ⟨_, _, _, rfl, rfl, e1, by rw [sizeLine_eq]; omega, ?_⟩
        refine ⟨_, rfl, rfl, _, rfl, iteF' (by decide +kernel) ?_⟩
        refine ⟨_, rfl, rfl, _, rfl, iteF' (by decide +kernel) ?_⟩
        refine ⟨_, rfl, rfl, _, rfl, iteF' (by decide +kernel) ?_⟩
        refine ⟨_, rfl, rfl, _, rfl, iteF' (by decide +kernel) ?_⟩
        refine ⟨_, rfl, .inl ⟨rfl, _, SqL.of f1⟩, _, rfl, _, _, _, _, rfl, rfl, SqT.of (S1 _ _ e), atI_nat (j := 2) rfl, _, rfl, ?_⟩
        refine ⟨u, a, ns, s, rfl, hs.mono S1.tup, hsf.2.1, by omega, hst5.1, SqL.of (S1 _ _ hA), by omega, fun m1 p2 ws2 H2 S2 f2 e2 l2 => ?_, fun m1 H2 S2 => hE (by rw [hst]; exact app_nil1 (app_nil1 (outs_no m1))) H2 (S1.trans S2)⟩
        refine ⟨D, p2, _, _, rfl, rfl, S2 _ _ f1, .inl e2, by rw [sizeLine_eq, List.length_append]; show _ + 1 + _ ≤ _; omega, ?_⟩
        have S3 : Same H (upd H2 D (.lst (ws ++ [.ref t1] ++ ws2))) := Same.at (S1.trans S2) hD _
        have f3 : upd H2 D (.lst (ws ++ [.ref t1] ++ ws2)) D = some (.lst (ws ++ [.ref t1] ++ ws2)) := upd_same
        generalize upd H2 D (.lst (ws ++ [.ref t1] ++ ws2)) = H3 at S3 f3
        refine ⟨_, rfl, .inl ⟨rfl, _, SqL.of f3⟩, _, rfl, _, _, _, _, rfl, rfl, SqT.of (S3 _ _ e), atI_nat (j := 3) rfl, _, rfl, ?_⟩
        refine ⟨_, rfl, _, _, _, _, rfl, rfl, SqT.of (S3 _ _ e), atI_nat (j := 1) rfl, one, fun p4 hp4 => ?_⟩
        have S4 := S3.trans (same_new hp4 (.lst [V.str x]))
        have f4 := same_new hp4 (.lst [V.str x]) _ _ f3
        have e4 : upd H3 p4 (.lst [V.str x]) p4 = some (.lst [V.str x]) := upd_same
        generalize upd H3 p4 (.lst [V.str x]) = H4 at S4 f4 e4
        refine ⟨a, p4, _, _, rfl, rfl, S4 _ _ hA, e4, by rw [sizeLine_eq, List.length_map]; show _ + 1 ≤ _; omega, fun p5 hp5 => ?_⟩
        have S5 := S4.trans (same_new hp5 (.lst (ns.map V.str ++ [V.str x])))
        have f5 := same_new hp5 (.lst (ns.map V.str ++ [V.str x])) _ _ f4
        have e5 : upd H4 p5 (.lst (ns.map V.str ++ [V.str x])) p5 = some (.lst ((ns ++ [x]).map V.str)) := by rw [upd_same, List.map_append]; rfl
        generalize upd H4 p5 (.lst (ns.map V.str ++ [V.str x])) = H5 at S5 f5 e5
        refine ⟨p1, p5, vb, ns ++ [x], b1, rfl, S5 _ _ e1', h1.same S5, by omega, hb1, hbf, by omega, e5, by rw [List.length_append]; show _ + 1 + _ ≤ 500; omega, fun m2 p6 ws6 H6 S6 f6 e6 l6 => ?_, fun m2 H6 S6 => hE (by rw [hst]; exact app_nil1 (app_nil2 m2)) H6 (S5.trans S6)⟩
        refine ⟨D, p6, _, _, rfl, rfl, S6 _ _ f5, .inl e6, by rw [sizeLine_eq, List.length_append, List.length_append]; show _ + 1 + _ + _ ≤ _; omega, ?_⟩
        have S7 : Same H (upd H6 D (.lst (ws ++ [.ref t1] ++ ws2 ++ ws6))) := Same.at (S5.trans S6) hD _
        have f7 : upd H6 D (.lst (ws ++ [.ref t1] ++ ws2 ++ ws6)) D = some (.lst (ws ++ [.ref t1] ++ ws2 ++ ws6)) := upd_same
        generalize upd H6 D (.lst (ws ++ [.ref t1] ++ ws2 ++ ws6)) = H7 at S7 f7
        refine ⟨_, rfl, .inl ⟨rfl, _, SqL.of f7⟩, one, fun t8 ht8 => ?_⟩
        obtain ⟨S8, e8, f8⟩ := addT (vs' := [V.str "drop"]) S7 f7 ht8
        refine ⟨_, _, _, rfl, rfl, e8, by rw [sizeLine_eq]; simp only [List.length_append, List.length_cons, List.length_nil]; omega, ?_⟩
        rw [outs_yes m1, m2] at hst
        exact ⟨_, _, _, r, _, rfl, S8, f8, hr2, by omega, hrl, hrf, hst, by simp only [List.length_append, List.length_cons, List.length_nil]; omega⟩
    · rintro σ H' ⟨o3, o4, o5, bi, ws, rfl, S, eD, hBi, hdi, hli, hfi, hst, hlen⟩
      rw [List.drop_length] at hBi
      cases hBi
      exact ⟨_, rfl, q hst D ws H' S hD eD (by have : (Bk.nil).n = 0 := rfl; omega)⟩
def spCardsOf5 (K : PySem.W.Frag) (C : Addr) (n : Nat) : Sp := fun vs H Q E => ∃ (r lb a : Addr) (us : List V) (ns : List Str) (b : Bk), vs = [.ref r] ∧ H r = some (.tup [.ref a, .ref lb]) ∧ H lb = some (.lst us) ∧ IsBk H noM us b ∧ b.dp ≤ n ∧ b.wel ∧ b.fit ∧ b.n ≤ 1000 ∧ H a = some (.lst (ns.map V.str)) ∧ ns.length + n ≤ 500 ∧
  (b.str ns = [] → ∀ v H', Same H H' → Q v H') ∧ (b.str ns ≠ [] → ∀ H', Same H H' → E (.ref C) none H')
theorem ok_cards_of (T : Txt K mg) (n : Nat) : FnOk P w K mg base (CX1 P w) (n + 25) T.f_cards_of T.fd_cards_of ["program"] (spCardsOf5 K T.er.cNoName n) := by
  have G_block_cards := ok_block_cards (P := P) (w := w) (base := base) T n
  refine T.cards_of.F.okX sc_cards_of (fun vs H Q E h => ?_) (fun cdv A outer s H vs Q E hr h => ?_)
  · obtain ⟨r, lb, a, us, ns, b, rfl, _⟩ := h; rfl
  obtain ⟨r, lb, a, us, ns, b, rfl, er, hb, hB, hd, hl, hft, hbn, hA, hn, q, hE⟩ := h
  refine ⟨_, (pss_one (ps_ret (pe_call G_block_cards hr rfl T.block_cards.m T.block_cards.F.kp T.block_cards.b .nil cx_pass (pa_cons (pe_ix ix_tup (pv 0) pe_int (fun _ _ => rfl)) (pa_cons (pe_ix ix_tup (pv 0) pe_int (fun _ _ => rfl)) pa_nil))))), ?_⟩
  refine ⟨_, rfl, _, _, _, _, rfl, rfl, SqT.of er, atI_nat (j := 1) rfl, _, rfl, _, _, _, _, rfl, rfl, SqT.of er, at0, ?_⟩
  exact ⟨lb, a, us, ns, b, rfl, hb, hB, hd, hl, hft, hbn, hA, hn, fun m p ws H' S _ _ _ => q m _ H' S, hE⟩
end
end W05

set_option Elab.async false
set_option linter.all false
set_option maxRecDepth 100000
set_option maxHeartbeats 4000000
namespace W05
open PySem L2 J
section
variable {P : Program} {w : World} {K : PySem.W.Frag} {mg : Str → Option Value} {base : Heap}
/-! ### _law_strange -/
def spStrangeL (K : PySem.W.Frag) : Sp := fun vs H Q _ => ∃ (r lb a : Addr) (us : List V) (ns : List Str) (b : Bk), vs = [.ref r] ∧ H r = some (.tup [.ref a, .ref lb]) ∧ H lb = some (.lst us) ∧ IsBk H noM us b ∧ b.wel ∧ b.n ≤ 400 ∧ H a = some (.lst (ns.map V.str)) ∧ ns.length ≤ 100 ∧
  ∀ p H', Same H H' → H p = none → H' p = some (.lst ((b.str ns).map V.str)) → Q (.ref p) H'
def WStr (K : PySem.W.Frag) (H : Hp) (r D td : Addr) (all : List Str) (m : Nat) (σ : St) (H' : Hp) : Prop :=
  ∃ o3 o4 o5 ws zs acc, σ = [some (.ref r), some (.ref D), some (.ref td), o3, o4, o5] ∧ Same H H' ∧ H' D = some (.lst (List.map V.str acc)) ∧ H' td = some (.lst ws) ∧ Paired (So5 D td H H') ws zs ∧ (zs.map Prod.snd).sum = m ∧ m ≤ 100000 ∧ acc ++ (zs.reverse.map Prod.fst).flatten = all ∧ all.length ≤ 200000
/-- what is to be put on -/
def In5 (H0 : Hp) (D td : Addr) (H : Hp) (L : Addr) (zs : List (List Str × Nat)) : Prop := ∃ ps, L ≠ D ∧ L ≠ td ∧ H L = some (.lst ps) ∧ Paired (So5 D td H0 H) ps zs
theorem prev5 {α β : Type} {F : α → β → Prop} : ∀ {vs : List α} {ws : List β}, Paired F vs ws → Paired F vs.reverse ws.reverse
  | _, _, .nil => .nil
  | _, _, .cons h t => by rw [List.reverse_cons, List.reverse_cons]; exact psnoc (prev5 t) h
theorem sum_app (xs ys : List (List Str × Nat)) : ((xs ++ ys).map Prod.snd).sum = (xs.map Prod.snd).sum + (ys.map Prod.snd).sum := by rw [List.map_append, List.sum_append]
theorem sum_rev (xs : List (List Str × Nat)) : (xs.reverse.map Prod.snd).sum = (xs.map Prod.snd).sum := by
  induction xs with
  | nil => rfl
  | cons x xs ih => rw [List.reverse_cons, sum_app, ih]; simp; omega
theorem len_sum5 {D td : Addr} {H0 H : Hp} : ∀ {vs : List V} {zs : List (List Str × Nat)}, Paired (So5 D td H0 H) vs zs → vs.length ≤ (zs.map Prod.snd).sum
  | _, _, .nil => Nat.le_refl _
  | _, _, .cons h t => by
    obtain ⟨_, _, _, _, _, _, _, _, _, _, h4⟩ := h
    have := h4.pos
    have := len_sum5 t
    rw [List.length_cons, List.map_cons, List.sum_cons]
    omega
theorem len_sumT {H0 H : Hp} {ns : List Str} : ∀ {vs : List V} {zs : List (List Str × Nat)}, Paired (fun v z => Tg5 H0 H ns v z.1 z.2) vs zs → vs.length ≤ (zs.map Prod.snd).sum
  | _, _, .nil => Nat.le_refl _
  | _, _, .cons h t => by
    have := h.pos
    have := len_sumT t
    rw [List.length_cons, List.map_cons, List.sum_cons]
    omega
theorem le_sum5 : ∀ {zs : List (List Str × Nat)} {z : List Str × Nat}, z ∈ zs → z.2 ≤ (zs.map Prod.snd).sum
  | _ :: zs, z, h => by
    rw [List.map_cons, List.sum_cons]
    rcases List.mem_cons.mp h with rfl | h
    · omega
    · have := le_sum5 h; omega
def Pr5 (H0 : Hp) (l : Addr) (ns : List Str) (H : Hp) (v : V) (z : List Str × Nat) : Prop := ∃ a x, v = .ref a ∧ H a = some (.tup [x, .ref l]) ∧ ns.length + z.2 ≤ 900000 ∧ Tg5 H0 H ns x z.1 z.2
theorem Pr5.mono {H0 H H' : Hp} {l : Addr} {ns : List Str} (L : TupLe H H') {v : V} {z : List Str × Nat} (h : Pr5 H0 l ns H v z) : Pr5 H0 l ns H' v z := by
  obtain ⟨a, x, e, h1, h2, h3⟩ := h
  exact ⟨a, x, e, L _ _ h1, h2, h3.mono L⟩
theorem Pr5.so {D td : Addr} {H0 H : Hp} {l : Addr} {ns : List Str} (n1 : l ≠ D) (n2 : l ≠ td) (hl : H l = some (.lst (ns.map V.str))) {v : V} {z : List Str × Nat} (h : Pr5 H0 l ns H v z) : So5 D td H0 H v z := by
  obtain ⟨a, x, e, h1, h2, h3⟩ := h
  exact ⟨a, x, l, ns, e, h1, n1, n2, hl, h2, h3⟩
/-- pairs of each of some things and one row -/
theorem comp5 {H0 H1 : Hp} {D td l : Addr} {ns : List Str} {σ : St} {R : V → Hp → Prop} {J : It} {us : List V} {zs : List (List Str × Nat)} (hσ : ∀ x, cSt [4] (some x) σ = [some x, some (.ref l)]) (n1 : l ≠ D) (n2 : l ≠ td) (hl : H1 l = some (.lst (ns.map V.str))) (hfit : ns.length + (zs.map Prod.snd).sum ≤ 900000)
    (hd : ∃ xs, H1 D = some (.lst xs)) (ht : ∃ xs, H1 td = some (.lst xs)) (hP : Paired (fun v z => Tg5 H0 H1 ns v z.1 z.2) us zs) (hgo : ∀ H i, Same H1 H → i < us.length → J.go i H) (hst : ∀ H, Same H1 H → J.stop us.length H) (hy : ∀ H i x H', Same H1 H → J.yld i H x H' → i < us.length → us[i]? = some x ∧ H' = H)
    (q : ∀ L H', Same H1 H' → H1 L = none → In5 H0 D td H' L zs → R (.ref L) H') (L : Addr) (hL : H1 L = none) : CompW J [4] tTrue (tTup (tCons (tVar 0) (tCons (tVar 1) tNil))) σ R L H1 := by
  have two : (2 : Nat) ≤ sizeLine := by decide
  have hLD : L ≠ D := fun e => by obtain ⟨xs, h⟩ := hd; rw [e, h] at hL; cases hL
  have hLt : L ≠ td := fun e => by obtain ⟨xs, h⟩ := ht; rw [e, h] at hL; cases hL
  have hul := len_sumT hP
  have hpl := plen hP
  refine comp_by (n := us.length) (fun i H' => Same H1 H' ∧ ∃ ps, H' L = some (.lst ps) ∧ Paired (Pr5 H0 l ns H') ps (zs.take i)) ⟨same_new hL _, [], upd_same, .nil⟩ (fun i H' hi z => hgo H' i z.1 hi) (fun H' z => hst H' z.1) ?_ ?_
  · rintro i H' x H'' hi ⟨S, ps, hps, hPp⟩ y
    obtain ⟨hx, rfl⟩ := hy H' i x H'' S y hi
    refine comp_all ?_
    obtain ⟨z, hz, hxz⟩ := pget hP hx
    have hlp := plen hPp
    have hzs := le_sum5 (List.mem_of_getElem? hz)
    rw [hσ]
    refine ⟨_, rfl, _, rfl, two, fun t ht2 => ?_⟩
    have S3 := same_new ht2 (.tup [x, .ref l])
    have e3 := S3 _ _ hps
    have L3 := (but_upd (H := upd H'' t (.tup [x, .ref l])) (l := L) (.lst (ps ++ [.ref t]))).tup e3
    refine ⟨ps, e3, ?_, Same.at (S.trans S3) hL _, ps ++ [.ref t], upd_same, ?_⟩
    · rw [hlp, List.length_take, sizeLine_eq]; omega
    · have et : zs.take (i + 1) = zs.take i ++ [z] := by rw [List.take_add_one, hz]; rfl
      rw [et]
      exact psnoc (Paired.mapP hPp fun _ _ z => (z.mono S3.tup).mono L3) ⟨t, x, rfl, L3 _ _ upd_same, by omega, (hxz.mono (S.trans S3).tup).mono L3⟩
  · rintro H' ⟨S, ps, hps, hPp⟩
    rw [List.take_of_length_le (by omega)] at hPp
    exact q L H' S hL ⟨ps, hLD, hLt, hps, Paired.mapP hPp fun _ _ z => z.so n1 n2 (S _ _ hl)⟩
theorem ok_law_strange (T : Txt K mg) : FnOk P w K mg base CX0 1 T.f_law_strange T.fd_law_strange ["_law_program"] (spStrangeL K) := by
  refine T.law_strange.F.ok sc_law_strange (fun vs H Q E h => ?_) (fun cdv A outer s H vs Q E hr h => ?_)
  · obtain ⟨r, lb, a, us, ns, b, rfl, _⟩ := h; rfl
  obtain ⟨r, lb, a, us, ns, b, rfl, er, eb, hB, hwl, hbn, ea, hn, q⟩ := h
  refine ⟨_, (pss_cons (ps_set (i := 1) sc_law_strange.nd rfl (Or.inl rfl) (pe_lst pa_nil))
    (pss_cons (ps_set (i := 2) sc_law_strange.nd rfl (Or.inl rfl) (pe_lst (pa_cons (pe_tup (pa_cons (pe_ix ix_tup (pv 0) pe_int (fun _ _ => rfl)) (pa_cons (pe_ix ix_tup (pv 0) pe_int (fun _ _ => rfl)) pa_nil))) pa_nil)))
    (pss_cons (ps_while PassesOwn.never (pt_cmpR (op_neNil hr.units0) (pv 2) (pe_lst pa_nil) (nomark _)) (pss_cons (ps_asg (pe_bm0 PySem.F.plainAttrs_list PySem.F.slot_list_pop PySem.F.type_list_pop mt_pop (pv 2)) (pg_tup rfl (pgs_cons (pg_name (i := 3) sc_law_strange.nd rfl (Or.inl rfl)) (pgs_cons (pg_name (i := 4) sc_law_strange.nd rfl (Or.inr rfl)) pgs_nil))))
    (pss_cons (ps_set (i := 5) sc_law_strange.nd rfl (Or.inl rfl) (pe_lst pa_nil))
    (pss_consM (ps_if (pt_val (pe_callB call_isiP rfl T.b_isinstance bt_isinstance (pa_cons (pv 3) (pa_cons (pe_bltn (v := .ty "list") rfl T.b_list bt_list rfl) pa_nil)))) (pss_one (ps_setComp (i := 5) sc_law_strange.nd rfl rfl rfl (js := [4]) (ys := ["_law_names"]) (pi_list (pv 3)) (by rfl) (by rfl) (by decide +kernel) (fun _ _ _ _ => pts_nil) (fun _ _ _ _ => (pe_tup (pa_cons (pv 0) (pa_cons (pv 1) pa_nil)))))) (pss_one (ps_if (pt_cmpR op_eq (pe_ix ix_tup (pv 3) pe_int (fun _ _ => rfl)) pe_str (nomark _)) (pss_one (ps_if (pt_cmpR op_notIn_seq (pe_ix ix_tup (pv 3) pe_int (fun _ _ => rfl)) (pv 4) (by with_unfolding_all rfl)) (pss_one (ps_expr (pe_bm PySem.F.plainAttrs_list PySem.F.slot_list_append PySem.F.type_list_append mt_append (pv 1) (pa_cons (pe_ix ix_tup (pv 3) pe_int (fun _ _ => rfl)) pa_nil)))) pss_nil)) (pss_one (ps_if (pt_cmpR op_eq (pe_ix ix_tup (pv 3) pe_int (fun _ _ => rfl)) pe_str (nomark _)) (pss_one (ps_set (i := 5) sc_law_strange.nd rfl (Or.inl rfl) (pe_lst (pa_cons (pe_tup (pa_cons (pe_tup (pa_cons pe_str (pa_cons (pe_ix ix_tup (pv 3) pe_int (fun _ _ => rfl)) pa_nil))) (pa_cons (pv 4) pa_nil))) (pa_cons (pe_tup (pa_cons (pe_ix ix_tup (pv 3) pe_int (fun _ _ => rfl)) (pa_cons (pv 4) pa_nil))) pa_nil))))) (pss_one (ps_if (pt_cmpR op_eq (pe_ix ix_tup (pv 3) pe_int (fun _ _ => rfl)) pe_str (nomark _)) (pss_one (ps_set (i := 5) sc_law_strange.nd rfl (Or.inl rfl) (pe_lst (pa_cons (pe_tup (pa_cons (pe_ix ix_tup (pv 3) pe_int (fun _ _ => rfl)) (pa_cons (pv 4) pa_nil))) (pa_cons (pe_tup (pa_cons (pe_ix ix_tup (pv 3) pe_int (fun _ _ => rfl)) (pa_cons (pe_op op_cat (pv 4) (pe_lst (pa_cons (pe_ix ix_tup (pv 3) pe_int (fun _ _ => rfl)) pa_nil))) pa_nil))) pa_nil))))) (pss_one (ps_if (pt_cmpR op_ne (pe_ix ix_tup (pv 3) pe_int (fun _ _ => rfl)) pe_str (nomark _)) (pss_one (ps_setComp (i := 5) sc_law_strange.nd rfl rfl rfl (js := [4]) (ys := ["_law_names"]) (pi_tup (pe_slice sl_tup (pv 3) (po_some pe_int) po_none)) (by rfl) (by rfl) (by decide +kernel) (fun _ _ _ _ => pts_nil) (fun _ _ _ _ => (pe_tup (pa_cons (pv 0) (pa_cons (pv 1) pa_nil)))))) pss_nil)))))))))
    (pss_one (ps_expr (pe_bm PySem.F.plainAttrs_list PySem.F.slot_list_extend PySem.F.type_list_extend mt_extendP (pv 2) (pa_cons (pe_listRev rfl rfl T.b_list rfl T.b_reversed bt_reversed (pv 5)) pa_nil))))))))
    (pss_one (ps_ret (pv 1)))))), ?_⟩
  have one : (1 : Nat) ≤ sizeLine := by decide
  have two : (2 : Nat) ≤ sizeLine := by decide
  have hsl := Bk.str_len ns hwl
  have hsw := sw_le hwl
  refine ⟨Nat.zero_le _, fun D hD => ?_⟩
  have S0 := same_new hD (.lst [])
  have eD : upd H D (.lst []) D = some (.lst (List.map V.str [])) := upd_same
  generalize upd H D (.lst []) = H0 at S0 eD
  refine ⟨_, rfl, _, _, _, _, rfl, rfl, SqT.of (S0 _ _ er), atI_nat (j := 1) rfl, _, rfl, _, _, _, _, rfl, rfl, SqT.of (S0 _ _ er), at0, two, fun t ht => ⟨one, fun td htd => ?_⟩⟩
  have S1 := same_new ht (.tup [.ref lb, .ref a])
  have S2 := same_new htd (.lst [.ref t])
  have S02 := S0.trans (S1.trans S2)
  have et := S2 _ _ (upd_same (H := H0) (a := t) (o := .tup [.ref lb, .ref a]))
  have etd : upd (upd H0 t (.tup [.ref lb, .ref a])) td (.lst [.ref t]) td = some (.lst [.ref t]) := upd_same
  have eD2 := S2 _ _ (S1 _ _ eD)
  have htd0 : H td = none := (S0.trans S1).free htd
  have hDt : D ≠ td := fun e => by rw [e] at eD; rw [S1 _ _ eD] at htd; cases htd
  have haD : a ≠ D := fun e => by rw [e, hD] at ea; cases ea
  have hat : a ≠ td := fun e => by rw [e, htd0] at ea; cases ea
  generalize upd (upd H0 t (.tup [.ref lb, .ref a])) td (.lst [.ref t]) = H2 at S02 et etd eD2
  refine ⟨WStr K H r D td (b.str ns), ⟨_, none, none, none, [.ref t], [(b.str ns, b.sw + 1)], [], rfl, S02, eD2, etd, .cons ⟨t, .ref lb, a, ns, rfl, et, haD, hat, S02 _ _ ea, by show ns.length + (b.sw + 1) ≤ 900000; omega, .blk eb hB⟩ .nil, rfl, by show b.sw + 1 + 0 ≤ _; omega, by simp, by omega⟩, ?_⟩
  rintro m σ H5 ⟨o3, o4, o5, ws5, zs5, acc, rfl, S5, eD5, etd5, hP5, hm5, hm6, hall, hal⟩
  refine ⟨_, rfl, Nat.zero_le _, fun pe hpe => ?_⟩
  have Se := same_new hpe (.lst [])
  have S6 := S5.trans Se
  have etd6 := Se _ _ etd5
  have eD6 := Se _ _ eD5
  have ee6 : upd H5 pe (.lst []) pe = some (.lst []) := upd_same
  have hP6 : Paired (So5 D td H (upd H5 pe (.lst []))) ws5 zs5 := Paired.mapP hP5 fun _ _ z => z.mono (fun b o _ _ h => Se _ _ h) Se.tup
  generalize upd H5 pe (.lst []) = H6 at S6 etd6 ee6 hP6 eD6
  refine ⟨_, _, _, rfl, rfl, SqL.of etd6, SqL.of ee6, _, rfl, ?_⟩
  rcases plast hP6 with ⟨rfl, rfl⟩ | ⟨ws7, v, zs7, ⟨z, n⟩, rfl, rfl, hP7, hv⟩
  · refine iteF' rfl ?_
    have : acc = b.str ns := by simpa using hall
    rw [this] at eD6
    exact ⟨_, rfl, q D H6 S6 hD eD6⟩
  refine iteT' (by simp) ?_
  refine ⟨fun σ' H'' => ∃ m', m' < m ∧ WStr K H r D td (b.str ns) m' σ' H'', fun _ _ z => z, ?_⟩
  obtain ⟨a6, x, l, ns6, rfl, ea6, n1, n2, el6, hf6, hk⟩ := hv
  have hpos := hk.pos
  rw [sum_app] at hm5
  simp only [List.map_cons, List.map_nil, List.sum_cons, List.sum_nil, Nat.add_zero] at hm5
  rw [List.reverse_append, List.reverse_singleton, List.singleton_append, List.map_cons, List.flatten_cons] at hall
  refine ⟨_, rfl, .inl ⟨rfl, _, SqL.of etd6⟩, _, _, _, rfl, rfl, etd6, last_get _ _, ?_⟩
  rw [List.dropLast_concat]
  have S7 : Same H (upd H6 td (.lst ws7)) := Same.at S6 htd0 _
  have etd7 : upd H6 td (.lst ws7) td = some (.lst ws7) := upd_same
  have B7 : ∀ b o, b ≠ td → H6 b = some o → upd H6 td (.lst ws7) b = some o := fun b o nb h => by rw [upd_ne nb]; exact h
  have L7 : TupLe H6 (upd H6 td (.lst ws7)) := (but_upd _).tup etd6
  have eD7 := B7 _ _ hDt eD6
  have el7 := B7 _ _ n2 el6
  have hP8 : Paired (So5 D td H (upd H6 td (.lst ws7))) ws7 zs7 := Paired.mapP hP7 fun _ _ z => z.mono (fun b o _ nb h => B7 b o nb h) L7
  have hk7 := hk.mono L7
  have ea7 := L7 _ _ ea6
  generalize upd H6 td (.lst ws7) = H7 at S7 etd7 eD7 el7 hP8 hk7 ea7
  refine ⟨_, _, rfl, SqT.of ea7, rfl, _, _, rfl, _, _, rfl, rfl, ?_⟩
  -- an empty row of things to put on
  refine ⟨Nat.zero_le _, fun p0 hp0 => ?_⟩
  have S8 := same_new hp0 (.lst [])
  have S78 := S7.trans S8
  have ep0 : upd H7 p0 (.lst []) p0 = some (.lst []) := upd_same
  have eD8 := S8 _ _ eD7
  have etd8 := S8 _ _ etd7
  have el8 := S8 _ _ el7
  have hP9 : Paired (So5 D td H (upd H7 p0 (.lst []))) ws7 zs7 := Paired.mapP hP8 fun _ _ z => z.mono (fun b o _ _ h => S8 _ _ h) S8.tup
  have hk8 := hk7.mono S8.tup
  have hp0D : p0 ≠ D := fun e => by rw [e, eD7] at hp0; cases hp0
  have hp0t : p0 ≠ td := fun e => by rw [e, etd7] at hp0; cases hp0
  generalize upd H7 p0 (.lst []) = H8 at S78 ep0 eD8 etd8 el8 hP9 hk8
  -- behind the ways: things to put on
  refine ⟨fun σ' H' => ∃ o5 L zs' pre, σ' = [some (.ref r), some (.ref D), some (.ref td), some x, some (.ref l), some (.ref L)] ∧ Same H H' ∧ H' D = some (.lst (List.map V.str (acc ++ pre))) ∧ H' td = some (.lst ws7) ∧ Paired (So5 D td H H') ws7 zs7 ∧ In5 H D td H' L zs' ∧ (zs'.map Prod.snd).sum + 1 ≤ n ∧ pre ++ (zs'.map Prod.fst).flatten = z ∧ o5 = 0, ?_, ?_⟩
  · dsimp only at hall hf6 hk8
    have W := Tg5.way (.inl S78) hk8
    have hD8 : ∃ xs, H8 D = some (.lst xs) := ⟨_, eD8⟩
    have ht8 : ∃ xs, H8 td = some (.lst xs) := ⟨_, etd8⟩
    cases W with
    | @blk p vs zs _ ep hPz hz =>
      have ep8 := S78 _ _ ep
      refine ⟨_, rfl, _, "list", _, true, rfl, .inl (.lst ep8), by decide +kernel, _, rfl, iteT' rfl ?_⟩
      refine ⟨_, rfl, p, rfl, ⟨_, SqL.of ep8⟩, fun L hL => ?_⟩
      refine comp5 (J := Itl K p) (H0 := H) (D := D) (td := td) (l := l) (ns := ns6) (fun _ => rfl) n1 n2 el8 (by omega) hD8 ht8 hPz (fun H' i S hi => ⟨vs, vs[i], SqL.of (S _ _ ep8), by simp [hi]⟩) (fun H' S => ⟨vs, SqL.of (S _ _ ep8), Nat.le_refl _⟩) (fun H' i x H'' S y hi => ⟨y.2 vs (SqL.of (S _ _ ep8)), y.1⟩) ?_ L hL
      intro L' H' S' f' hI
      exact ⟨0, L', zs, [], rfl, S78.trans S', by rw [List.append_nil]; exact S' _ _ eD8, S' _ _ etd8, Paired.mapP hP9 fun _ _ z => z.mono (fun b o _ _ h => S' _ _ h) S'.tup, hI, hz, rfl, rfl⟩
    | @name c y _ e hn1 =>
      refine ⟨_, rfl, _, "tuple", _, false, rfl, .inr ⟨rfl, _, _, rfl, .inl e⟩, by decide +kernel, _, rfl, iteF' rfl ?_⟩
      refine ⟨_, rfl, _, _, _, _, rfl, rfl, SqT.of e, at0, rfl, _, rfl, iteT' (by decide +kernel) ?_⟩
      refine ⟨_, rfl, _, _, _, _, rfl, rfl, SqT.of e, atI_nat (j := 1) rfl, _, rfl, l, ns6.map V.str, rfl, .inl (SqL.of el8), rfl, flat_strs ns6, _, rfl, ?_⟩
      have hI : ∀ {G : Hp}, G p0 = some (.lst []) → In5 H D td G p0 [] := fun h => ⟨[], hp0D, hp0t, h, .nil⟩
      cases hi : inV (.str y) (ns6.map V.str) with
      | true =>
        have e3 : outs ns6 [y] = [] := by unfold outs; simp [hi]
        exact ⟨0, p0, [], [], rfl, S78, by rw [List.append_nil]; exact eD8, etd8, hP9, hI ep0, by show 0 + 1 ≤ n; exact hn1, by rw [e3]; rfl, rfl⟩
      | false =>
        have e3 : outs ns6 [y] = [y] := by unfold outs; simp [hi]
        have hla : acc.length + 1 ≤ 200000 := by
          have := congrArg List.length hall
          simp only [List.length_append] at this
          have h2 : (outs ns6 [y]).length = 1 := by rw [e3]; rfl
          omega
        refine ⟨_, rfl, .inl ⟨rfl, _, SqL.of eD8⟩, _, rfl, _, _, _, _, rfl, rfl, SqT.of e, atI_nat (j := 1) rfl, _, _, _, rfl, rfl, eD8, by rw [List.length_map, sizeLine_eq]; omega, ?_⟩
        have S9 : Same H (upd H8 D (.lst (acc.map V.str ++ [.str y]))) := Same.at S78 hD _
        have B9 : ∀ b o, b ≠ D → H8 b = some o → upd H8 D (.lst (acc.map V.str ++ [.str y])) b = some o := fun b o nb h => by rw [upd_ne nb]; exact h
        have L9 := (but_upd (H := H8) (l := D) (.lst (acc.map V.str ++ [.str y]))).tup eD8
        exact ⟨0, p0, [], [y], rfl, S9, by rw [upd_same, List.map_append]; rfl, B9 _ _ hDt.symm etd8, Paired.mapP hP9 fun _ _ z => z.mono (fun b o nb _ h => B9 b o nb h) L9, hI (B9 _ _ hp0D ep0), by show 0 + 1 ≤ n; exact hn1, by rw [e3]; rfl, rfl⟩
    | @num c i _ e hn1 =>
      refine ⟨_, rfl, _, "tuple", _, false, rfl, .inr ⟨rfl, _, _, rfl, .inl e⟩, by decide +kernel, _, rfl, iteF' rfl ?_⟩
      refine ⟨_, rfl, _, _, _, _, rfl, rfl, SqT.of e, at0, rfl, _, rfl, iteF' (by decide +kernel) ?_⟩
      refine ⟨_, rfl, _, _, _, _, rfl, rfl, SqT.of e, at0, rfl, _, rfl, iteF' (by decide +kernel) ?_⟩
      refine ⟨_, rfl, _, _, _, _, rfl, rfl, SqT.of e, at0, rfl, _, rfl, iteF' (by decide +kernel) ?_⟩
      refine ⟨_, rfl, _, _, _, _, rfl, rfl, SqT.of e, at0, rfl, _, rfl, iteF' (by decide +kernel) ?_⟩
      exact ⟨0, p0, [], [], rfl, S78, by rw [List.append_nil]; exact eD8, etd8, hP9, ⟨[], hp0D, hp0t, ep0, .nil⟩, by show 0 + 1 ≤ n; exact hn1, rfl, rfl⟩
    | @set c y u z2 m2 _ e hu hn1 =>
      refine ⟨_, rfl, _, "tuple", _, false, rfl, .inr ⟨rfl, _, _, rfl, .inl e⟩, by decide +kernel, _, rfl, iteF' rfl ?_⟩
      refine ⟨_, rfl, _, _, _, _, rfl, rfl, SqT.of e, at0, rfl, _, rfl, iteF' (by decide +kernel) ?_⟩
      refine ⟨_, rfl, _, _, _, _, rfl, rfl, SqT.of e, at0, rfl, _, rfl, iteT' (by decide +kernel) ?_⟩
      refine ⟨_, rfl, _, _, _, _, rfl, rfl, SqT.of e, atI_nat (j := 1) rfl, two, fun t1 ht1 => ?_⟩
      have Q1 := same_new ht1 (.tup [.str "name", .str y])
      have f1 : upd H8 t1 (.tup [.str "name", .str y]) t1 = some (.tup [.str "name", .str y]) := upd_same
      generalize upd H8 t1 (.tup [.str "name", .str y]) = G1 at Q1 f1
      refine ⟨_, rfl, two, fun t2 ht2 => ?_⟩
      have Q2 := Q1.trans (same_new ht2 (.tup [.ref t1, .ref l]))
      have f12 := same_new ht2 (.tup [.ref t1, .ref l]) _ _ f1
      have f2 : upd G1 t2 (.tup [.ref t1, .ref l]) t2 = some (.tup [.ref t1, .ref l]) := upd_same
      generalize upd G1 t2 (.tup [.ref t1, .ref l]) = G2 at Q2 f12 f2
      refine ⟨_, rfl, _, _, _, _, rfl, rfl, SqT.of (Q2 _ _ e), atI_nat (j := 2) rfl, _, rfl, two, fun t3 ht3 => ?_⟩
      have Q3 := Q2.trans (same_new ht3 (.tup [u, .ref l]))
      have f13 := same_new ht3 (.tup [u, .ref l]) _ _ f12
      have f23 := same_new ht3 (.tup [u, .ref l]) _ _ f2
      have f3 : upd G2 t3 (.tup [u, .ref l]) t3 = some (.tup [u, .ref l]) := upd_same
      generalize upd G2 t3 (.tup [u, .ref l]) = G3 at Q3 f13 f23 f3
      refine ⟨two, fun L hL => ?_⟩
      have Q4 := same_new hL (.lst [.ref t2, .ref t3])
      have Q34 := Q3.trans Q4
      have hLD : L ≠ D := fun e => by rw [e, Q3 _ _ eD8] at hL; cases hL
      have hLt : L ≠ td := fun e => by rw [e, Q3 _ _ etd8] at hL; cases hL
      have hk1 : Tg5 H (upd G3 L (.lst [.ref t2, .ref t3])) ns6 (.ref t1) (outs ns6 [y]) 1 := .th (t := .s (.name y)) (.name (Q4 _ _ f13))
      skip
      refine ⟨0, L, [(outs ns6 [y], 1), (z2, m2)], [], rfl, S78.trans Q34, by rw [List.append_nil]; exact Q34 _ _ eD8, Q34 _ _ etd8, Paired.mapP hP9 fun _ _ z => z.mono (fun b o _ _ h => Q34 _ _ h) Q34.tup, ⟨_, hLD, hLt, upd_same, .cons ⟨t2, .ref t1, l, ns6, rfl, Q4 _ _ f23, n1, n2, Q34 _ _ el8, by show ns6.length + 1 ≤ _; omega, hk1⟩ (.cons ⟨t3, u, l, ns6, rfl, Q4 _ _ f3, n1, n2, Q34 _ _ el8, by show ns6.length + m2 ≤ _; omega, hu.mono Q34.tup⟩ .nil)⟩, by show 1 + (m2 + 0) + 1 ≤ n; omega, ?_, rfl⟩
      simp
    | @wit c y u v z1 z2 m1 m2 _ e hu hv hn1 =>
      refine ⟨_, rfl, _, "tuple", _, false, rfl, .inr ⟨rfl, _, _, rfl, .inl e⟩, by decide +kernel, _, rfl, iteF' rfl ?_⟩
      refine ⟨_, rfl, _, _, _, _, rfl, rfl, SqT.of e, at0, rfl, _, rfl, iteF' (by decide +kernel) ?_⟩
      refine ⟨_, rfl, _, _, _, _, rfl, rfl, SqT.of e, at0, rfl, _, rfl, iteF' (by decide +kernel) ?_⟩
      refine ⟨_, rfl, _, _, _, _, rfl, rfl, SqT.of e, at0, rfl, _, rfl, iteT' (by decide +kernel) ?_⟩
      skip
      refine ⟨_, rfl, _, _, _, _, rfl, rfl, SqT.of e, atI_nat (j := 2) rfl, _, rfl, two, fun t2 ht2 => ?_⟩
      have Q2 := same_new ht2 (.tup [u, .ref l])
      have f2 : upd H8 t2 (.tup [u, .ref l]) t2 = some (.tup [u, .ref l]) := upd_same
      generalize upd H8 t2 (.tup [u, .ref l]) = G2 at Q2 f2
      refine ⟨_, rfl, _, _, _, _, rfl, rfl, SqT.of (Q2 _ _ e), atI_nat (j := 3) rfl, _, rfl, _, rfl, _, _, _, _, rfl, rfl, SqT.of (Q2 _ _ e), atI_nat (j := 1) rfl, one, fun p4 hp4 => ?_⟩
      have Q3 := Q2.trans (same_new hp4 (.lst [.str y]))
      have f23 := same_new hp4 (.lst [.str y]) _ _ f2
      have f4 : upd G2 p4 (.lst [.str y]) p4 = some (.lst [.str y]) := upd_same
      generalize upd G2 p4 (.lst [.str y]) = G3 at Q3 f23 f4
      refine ⟨l, p4, _, _, rfl, rfl, Q3 _ _ el8, f4, by rw [sizeLine_eq, List.length_map]; show _ + 1 ≤ _; omega, fun p5 hp5 => ?_⟩
      have hp5D : p5 ≠ D := fun e => by rw [e, Q3 _ _ eD8] at hp5; cases hp5
      have hp5t : p5 ≠ td := fun e => by rw [e, Q3 _ _ etd8] at hp5; cases hp5
      have Q4 := Q3.trans (same_new hp5 (.lst (ns6.map V.str ++ [.str y])))
      have f24 := same_new hp5 (.lst (ns6.map V.str ++ [.str y])) _ _ f23
      have f5 : upd G3 p5 (.lst (ns6.map V.str ++ [.str y])) p5 = some (.lst ((ns6 ++ [y]).map V.str)) := by rw [upd_same, List.map_append]; rfl
      generalize upd G3 p5 (.lst (ns6.map V.str ++ [.str y])) = G4 at Q4 f24 f5
      refine ⟨two, fun t3 ht3 => ?_⟩
      have Q5 := Q4.trans (same_new ht3 (.tup [v, .ref p5]))
      have f25 := same_new ht3 (.tup [v, .ref p5]) _ _ f24
      have f55 := same_new ht3 (.tup [v, .ref p5]) _ _ f5
      have f3 : upd G4 t3 (.tup [v, .ref p5]) t3 = some (.tup [v, .ref p5]) := upd_same
      generalize upd G4 t3 (.tup [v, .ref p5]) = G5 at Q5 f25 f55 f3
      refine ⟨two, fun L hL => ?_⟩
      have Q6 := same_new hL (.lst [.ref t2, .ref t3])
      have Q56 := Q5.trans Q6
      have hLD : L ≠ D := fun e => by rw [e, Q5 _ _ eD8] at hL; cases hL
      have hLt : L ≠ td := fun e => by rw [e, Q5 _ _ etd8] at hL; cases hL
      refine ⟨0, L, [(z1, m1), (z2, m2)], [], rfl, S78.trans Q56, by rw [List.append_nil]; exact Q56 _ _ eD8, Q56 _ _ etd8, Paired.mapP hP9 fun _ _ z => z.mono (fun b o _ _ h => Q56 _ _ h) Q56.tup, ⟨_, hLD, hLt, upd_same, .cons ⟨t2, u, l, ns6, rfl, Q6 _ _ f25, n1, n2, Q56 _ _ el8, by show ns6.length + m1 ≤ _; omega, hu.mono Q56.tup⟩ (.cons ⟨t3, v, p5, ns6 ++ [y], rfl, Q6 _ _ f3, hp5D, hp5t, Q6 _ _ f55, by rw [List.length_append]; show ns6.length + 1 + m2 ≤ _; omega, hv.mono Q56.tup⟩ .nil)⟩, by show m1 + (m2 + 0) + 1 ≤ n; omega, ?_, rfl⟩
      simp
    | @node c wd us zs _ e no1 no2 no3 no4 hPz hz h3 =>
      refine ⟨_, rfl, _, "tuple", _, false, rfl, .inr ⟨rfl, _, _, rfl, .inl e⟩, by decide +kernel, _, rfl, iteF' rfl ?_⟩
      refine ⟨_, rfl, _, _, _, _, rfl, rfl, SqT.of e, at0, rfl, _, rfl, iteF' no2 ?_⟩
      refine ⟨_, rfl, _, _, _, _, rfl, rfl, SqT.of e, at0, rfl, _, rfl, iteF' no3 ?_⟩
      refine ⟨_, rfl, _, _, _, _, rfl, rfl, SqT.of e, at0, rfl, _, rfl, iteF' no4 ?_⟩
      refine ⟨_, rfl, _, _, _, _, rfl, rfl, SqT.of e, at0, rfl, _, rfl, iteT' (by rw [no1]; rfl) ?_⟩
      refine ⟨_, rfl, _, rfl, _, _, rfl, SqT.of e, (by rw [List.length_cons]; exact not_whole _), fun pt hpt => ?_⟩
      have Q1 := same_new hpt (.tup (cutV (.str wd :: us) (some 1) none))
      have e1 : upd H8 pt (.tup (cutV (.str wd :: us) (some 1) none)) pt = some (.tup us) := by rw [upd_same, cutV_tail]
      generalize upd H8 pt (.tup (cutV (.str wd :: us) (some 1) none)) = G1 at Q1 e1
      refine ⟨pt, rfl, ⟨_, SqT.of e1⟩, fun L hL => ?_⟩
      refine comp5 (J := Itt K pt) (H0 := H) (D := D) (td := td) (l := l) (ns := ns6) (fun _ => rfl) n1 n2 (Q1 _ _ el8) (by omega) ⟨_, Q1 _ _ eD8⟩ ⟨_, Q1 _ _ etd8⟩ (Paired.mapP hPz fun _ _ z => z.mono Q1.tup) (fun H' i S hi => ⟨us, us[i], SqT.of (S _ _ e1), by simp [hi]⟩) (fun H' S => ⟨us, SqT.of (S _ _ e1), Nat.le_refl _⟩) (fun H' i x H'' S y hi => ⟨y.2 us (SqT.of (S _ _ e1)), y.1⟩) ?_ L hL
      intro L' H' S' f' hI
      have S'' := Q1.trans S'
      exact ⟨0, L', zs, [], rfl, S78.trans S'', by rw [List.append_nil]; exact S'' _ _ eD8, S'' _ _ etd8, Paired.mapP hP9 fun _ _ z => z.mono (fun b o _ _ h => S'' _ _ h) S''.tup, hI, hz, rfl, rfl⟩
  · rintro σ' H' ⟨_, L, zs', pre, rfl, S9, eD9, etd9, hPa, ⟨ps, hLD, hLt, hps, hPp⟩, hz, hpre, _⟩
    have hpl := len_sum5 hPp
    have hwl7 := len_sum5 hPa
    refine ⟨_, rfl, .inl ⟨rfl, _, SqL.of etd9⟩, _, rfl, L, ps, rfl, hps, fun p2 hp2 => ?_⟩
    have S10 := same_new hp2 (.lst ps.reverse)
    have e10 : upd H' p2 (.lst ps.reverse) p2 = some (.lst ps.reverse) := upd_same
    have hPa2 : Paired (So5 D td H (upd H' p2 (.lst ps.reverse))) ws7 zs7 := Paired.mapP hPa fun _ _ z => z.mono (fun b o _ _ h => S10 _ _ h) S10.tup
    have hPp2 : Paired (So5 D td H (upd H' p2 (.lst ps.reverse))) ps zs' := Paired.mapP hPp fun _ _ z => z.mono (fun b o _ _ h => S10 _ _ h) S10.tup
    generalize upd H' p2 (.lst ps.reverse) = G at S10 e10 hPa2 hPp2
    refine ⟨td, p2, _, _, rfl, rfl, S10 _ _ etd9, .inl e10, by rw [sizeLine_eq, List.length_reverse]; omega, ?_⟩
    have B : ∀ b o, b ≠ td → G b = some o → upd G td (.lst (ws7 ++ ps.reverse)) b = some o := fun b o nb h => by rw [upd_ne nb]; exact h
    have L11 := (but_upd (H := G) (l := td) (.lst (ws7 ++ ps.reverse))).tup (S10 _ _ etd9)
    refine ⟨(zs7.map Prod.snd).sum + (zs'.map Prod.snd).sum, by omega, _, _, _, ws7 ++ ps.reverse, zs7 ++ zs'.reverse, acc ++ pre, rfl, Same.at (S9.trans S10) htd0 _, B _ _ hDt (S10 _ _ eD9), upd_same, papp (Paired.mapP hPa2 fun _ _ z => z.mono (fun b o _ nb h => B b o nb h) L11) (Paired.mapP (prev5 hPp2) fun _ _ z => z.mono (fun b o _ nb h => B b o nb h) L11), by rw [sum_app, sum_rev], by omega, ?_, hal⟩
    rw [← hall, List.reverse_append, List.reverse_reverse, List.map_append, List.flatten_append, ← hpre]
    simp only [List.append_assoc]
end
end W05

set_option Elab.async false
set_option linter.all false
set_option maxRecDepth 100000
set_option maxHeartbeats 4000000
namespace W05
open PySem L2 J
section
variable {P : Program} {w : World} {K : PySem.W.Frag} {mg : Str → Option Value} {base : Heap}
/-! ### worth -/
def spWorth (K : PySem.W.Frag) (n : Nat) : Sp := fun vs H Q _ => ∃ (u : V) (a b : Addr) (ns : List Str) (ps : List Int) (s : Sm Str), vs = [u, .ref a, .ref b] ∧ IsSum H u s ∧ s.dp ≤ n ∧ SqL K H a (ns.map V.str) ∧ SqL K H b (ps.map V.int) ∧ ps.length = ns.length ∧ ns.length ≤ 1000 ∧
  s.lin ns ∧ Q (.int (s.val ns ps)) H
theorem ok_worth (T : Txt K mg) : ∀ n : Nat, FnOk P w K mg base CX0 (n + 2) T.f_worth T.fd_worth ["part", "names", "values"] (spWorth K n)
  | 0 => by
    have no : ∀ vs H Q E, ¬ spWorth K 0 vs H Q E := fun vs H Q E h => by
      obtain ⟨u, a, b, ns, ps, s, _, _, h1, _⟩ := h
      cases s <;> simp [Sm.dp] at h1
    exact ⟨fun vs H Q E h => absurd h (no vs H Q E), fun A outer s H args us vs Q E _ _ _ _ h => absurd h (no vs H Q E)⟩
  | n + 1 => by
    have G_worth := ok_worth T n
    have G_place_of := (ok_place_of (P := P) (w := w) (base := base) T).mono (show 1 ≤ n + 2 by omega)
    have G_reckoned := (ok_reckoned (P := P) (w := w) (base := base) T).mono (show 1 ≤ n + 2 by omega)
    refine T.worth.F.ok sc_worth (fun vs H Q E h => ?_) (fun cdv A outer s H vs Q E hr h => ?_)
    · obtain ⟨u, a, b, ns, ps, s, rfl, _⟩ := h; rfl
    obtain ⟨u, a, b, ns, ps, s, rfl, hu, hd, hA, hB, hlen, hn, hg, q⟩ := h
    refine ⟨_, (pss_cons (ps_set (i := 3) sc_worth.nd rfl (Or.inl rfl) (pe_ix ix_tup (pv 0) pe_int (fun _ _ => rfl)))
    (pss_cons (ps_if (pt_cmpR op_eq (pv 3) pe_str (nomark _)) (pss_one (ps_ret (pe_ix ix_tup (pv 0) pe_int (fun _ _ => rfl)))) pss_nil)
    (pss_cons (ps_if (pt_cmpR op_eq (pv 3) pe_str (nomark _)) (pss_one (ps_ret (pe_ix ix_list (pv 2) (pe_call G_place_of hr rfl T.place_of.m T.place_of.F.kp T.place_of.b .nil pass0 (pa_cons (pv 1) (pa_cons (pe_ix ix_tup (pv 0) pe_int (fun _ _ => rfl)) pa_nil))) (fun _ _ => rfl)))) pss_nil)
    (pss_one (ps_ret (pe_call G_reckoned hr rfl T.reckoned.m T.reckoned.F.kp T.reckoned.b .nil pass0 (pa_cons (pv 3) (pa_cons (pe_call G_worth hr rfl T.worth.m T.worth.F.kp T.worth.b .nil pass0 (pa_cons (pe_ix ix_tup (pv 0) pe_int (fun _ _ => rfl)) (pa_cons (pv 1) (pa_cons (pv 2) pa_nil)))) (pa_cons (pe_call G_worth hr rfl T.worth.m T.worth.F.kp T.worth.b .nil pass0 (pa_cons (pe_ix ix_tup (pv 0) pe_int (fun _ _ => rfl)) (pa_cons (pv 1) (pa_cons (pv 2) pa_nil)))) pa_nil))))))))), ?_⟩
    cases hu with
    | num e =>
      refine ⟨_, rfl, _, _, _, _, rfl, rfl, SqT.of e, rfl, ?_⟩
      refine ⟨_, rfl, rfl, _, rfl, iteT' (by decide +kernel) ?_⟩
      exact ⟨_, rfl, _, _, _, _, rfl, rfl, SqT.of e, rfl, q⟩
    | @name c x e =>
      refine ⟨_, rfl, _, _, _, _, rfl, rfl, SqT.of e, rfl, ?_⟩
      refine ⟨_, rfl, rfl, _, rfl, iteF' (by decide +kernel) ?_⟩
      refine ⟨_, rfl, rfl, _, rfl, iteT' (by decide +kernel) ?_⟩
      obtain ⟨i, hi⟩ := lastIx_mem (show x ∈ ns from hg)
      have hlt := lastIx_lt hi
      have hv : (ps.map V.int)[i]? = some (V.int (ps.getD i 0)) := by
        rw [List.getElem?_map, List.getD_eq_getElem?_getD, List.getElem?_eq_getElem (by omega)]; rfl
      refine ⟨_, rfl, _, rfl, _, rfl, _, _, _, _, rfl, rfl, SqT.of e, rfl, ?_⟩
      refine ⟨a, ns, x, i, rfl, hA, hn, hi, ?_⟩
      refine ⟨_, _, _, _, rfl, rfl, hB, atI_nat hv, ?_⟩
      have : Sm.val ns ps (.name x) = ps.getD i 0 := by unfold Sm.val; rw [hi]
      rw [this] at q
      exact q
    | @op c o u v s t e h1 h2 =>
      have hd1 : s.dp ≤ n ∧ t.dp ≤ n := by
        have : max s.dp t.dp + 1 ≤ n + 1 := hd
        omega
      obtain ⟨g1, g2, g3⟩ := lin_op (ps := ps) hg
      refine ⟨_, rfl, _, _, _, _, rfl, rfl, SqT.of e, rfl, ?_⟩
      refine ⟨_, rfl, rfl, _, rfl, iteF' (by cases o <;> decide +kernel) ?_⟩
      refine ⟨_, rfl, rfl, _, rfl, iteF' (by cases o <;> decide +kernel) ?_⟩
      refine ⟨_, rfl, _, rfl, _, _, _, _, rfl, rfl, SqT.of e, rfl, _, rfl, _, rfl, ?_⟩
      refine ⟨u, a, b, ns, ps, s, rfl, h1, hd1.1, hA, hB, hlen, hn, g1, ?_⟩
      refine ⟨_, rfl, _, _, _, _, rfl, rfl, SqT.of e, rfl, _, rfl, _, rfl, ?_⟩
      refine ⟨v, a, b, ns, ps, t, rfl, h2, hd1.2, hA, hB, hlen, hn, g2, ?_⟩
      exact ⟨o, _, _, rfl, g3, q⟩
end
end W05

set_option Elab.async false
set_option linter.all false
set_option maxRecDepth 100000
set_option maxHeartbeats 4000000
namespace W05
open PySem L2 J
section
variable {P : Program} {w : World} {K : PySem.W.Frag} {mg : Str → Option Value} {base : Heap}
/-! ### holds, _law_true -/
def spHolds (K : PySem.W.Frag) (n : Nat) : Sp := fun vs H Q _ => ∃ (u : V) (a b : Addr) (ns : List Str) (ps : List Int) (t : Ts), vs = [u, .ref a, .ref b] ∧ IsTest H u t ∧ t.dp ≤ n ∧ SqL K H a (ns.map V.str) ∧ SqL K H b (ps.map V.int) ∧ ps.length = ns.length ∧ ns.length ≤ 1000 ∧
  t.lin ns ∧ Q (.bl (t.val ns ps)) H
theorem dec_int (i j : Int) : decide (V.int i = V.int j) = decide (i = j) := by
  by_cases z : i = j
  · rw [z]; simp
  · have z' : ¬ V.int i = V.int j := fun x => z (V.int.inj x)
    rw [decide_eq_false z, decide_eq_false z']
theorem ok_holds (T : Txt K mg) : ∀ n : Nat, FnOk P w K mg base CX0 (n + 2) T.f_holds T.fd_holds ["test", "names", "values"] (spHolds K n)
  | 0 => by
    have no : ∀ vs H Q E, ¬ spHolds K 0 vs H Q E := fun vs H Q E h => by
      obtain ⟨u, a, b, ns, ps, t, _, _, h1, _⟩ := h
      cases t <;> simp [Ts.dp] at h1
    exact ⟨fun vs H Q E h => absurd h (no vs H Q E), fun A outer s H args us vs Q E _ _ _ _ h => absurd h (no vs H Q E)⟩
  | n + 1 => by
    have G_holds := ok_holds T n
    have G_worth := ok_worth (P := P) (w := w) (base := base) T n
    refine T.holds.F.ok sc_holds (fun vs H Q E h => ?_) (fun cdv A outer s H vs Q E hr h => ?_)
    · obtain ⟨u, a, b, ns, ps, s, rfl, _⟩ := h; rfl
    obtain ⟨u, a, b, ns, ps, t, rfl, hu, hd, hA, hB, hlen, hn, hg, q⟩ := h
    refine ⟨_, (pss_cons (ps_set (i := 3) sc_holds.nd rfl (Or.inl rfl) (pe_ix ix_tup (pv 0) pe_int (fun _ _ => rfl)))
    (pss_cons (ps_if (pt_cmpR op_eq (pv 3) pe_str (nomark _)) (pss_one (ps_ret (pe_not (pe_call G_holds hr rfl T.holds.m T.holds.F.kp T.holds.b .nil pass0 (pa_cons (pe_ix ix_tup (pv 0) pe_int (fun _ _ => rfl)) (pa_cons (pv 1) (pa_cons (pv 2) pa_nil))))))) pss_nil)
    (pss_cons (ps_if (pt_cmpR op_eq (pv 3) pe_str (nomark _)) (pss_one (ps_ret (pe_and (pe_call G_holds hr rfl T.holds.m T.holds.F.kp T.holds.b .nil pass0 (pa_cons (pe_ix ix_tup (pv 0) pe_int (fun _ _ => rfl)) (pa_cons (pv 1) (pa_cons (pv 2) pa_nil)))) (pe_one (pe_call G_holds hr rfl T.holds.m T.holds.F.kp T.holds.b .nil pass0 (pa_cons (pe_ix ix_tup (pv 0) pe_int (fun _ _ => rfl)) (pa_cons (pv 1) (pa_cons (pv 2) pa_nil)))))))) pss_nil)
    (pss_cons (ps_set (i := 4) sc_holds.nd rfl (Or.inl rfl) (pe_call G_worth hr rfl T.worth.m T.worth.F.kp T.worth.b .nil pass0 (pa_cons (pe_ix ix_tup (pv 0) pe_int (fun _ _ => rfl)) (pa_cons (pv 1) (pa_cons (pv 2) pa_nil)))))
    (pss_cons (ps_set (i := 5) sc_holds.nd rfl (Or.inl rfl) (pe_call G_worth hr rfl T.worth.m T.worth.F.kp T.worth.b .nil pass0 (pa_cons (pe_ix ix_tup (pv 0) pe_int (fun _ _ => rfl)) (pa_cons (pv 1) (pa_cons (pv 2) pa_nil)))))
    (pss_cons (ps_if (pt_cmpR op_eq (pv 3) pe_str (nomark _)) (pss_one (ps_ret (pe_cmpR op_lt (pv 4) (pv 5) (nomark _)))) pss_nil)
    (pss_one (ps_ret (pe_cmpR op_eq (pv 4) (pv 5) (nomark _)))))))))), ?_⟩
    cases hu with
    | @less c u v s t e h1 h2 =>
      have hd1 : max s.dp t.dp + 1 ≤ n + 1 := hd
      refine ⟨_, rfl, _, _, _, _, rfl, rfl, SqT.of e, rfl, ?_⟩
      refine ⟨_, rfl, rfl, _, rfl, iteF' (by decide +kernel) ?_⟩
      refine ⟨_, rfl, rfl, _, rfl, iteF' (by decide +kernel) ?_⟩
      refine ⟨_, rfl, _, _, _, _, rfl, rfl, SqT.of e, rfl, _, rfl, _, rfl, ?_⟩
      refine ⟨u, a, b, ns, ps, s, rfl, h1, by omega, hA, hB, hlen, hn, hg.1, ?_⟩
      refine ⟨_, rfl, _, _, _, _, rfl, rfl, SqT.of e, rfl, _, rfl, _, rfl, ?_⟩
      refine ⟨v, a, b, ns, ps, t, rfl, h2, by omega, hA, hB, hlen, hn, hg.2.1, ?_⟩
      refine ⟨_, rfl, rfl, _, rfl, iteT' (by decide +kernel) ?_⟩
      exact ⟨_, rfl, _, rfl, _, _, rfl, rfl, q⟩
    | @same c u v s t e h1 h2 =>
      have hd1 : max s.dp t.dp + 1 ≤ n + 1 := hd
      refine ⟨_, rfl, _, _, _, _, rfl, rfl, SqT.of e, rfl, ?_⟩
      refine ⟨_, rfl, rfl, _, rfl, iteF' (by decide +kernel) ?_⟩
      refine ⟨_, rfl, rfl, _, rfl, iteF' (by decide +kernel) ?_⟩
      refine ⟨_, rfl, _, _, _, _, rfl, rfl, SqT.of e, rfl, _, rfl, _, rfl, ?_⟩
      refine ⟨u, a, b, ns, ps, s, rfl, h1, by omega, hA, hB, hlen, hn, hg.1, ?_⟩
      refine ⟨_, rfl, _, _, _, _, rfl, rfl, SqT.of e, rfl, _, rfl, _, rfl, ?_⟩
      refine ⟨v, a, b, ns, ps, t, rfl, h2, by omega, hA, hB, hlen, hn, hg.2.1, ?_⟩
      refine ⟨_, rfl, rfl, _, rfl, iteF' (by decide +kernel) ?_⟩
      refine ⟨_, rfl, _, rfl, rfl, ?_⟩
      show Q (.bl (decide (V.int (s.val ns ps) = V.int (t.val ns ps)))) H
      rw [dec_int]
      exact q
    | @not c u t e h1 =>
      have hd' : t.dp + 1 ≤ n + 1 := hd
      refine ⟨_, rfl, _, _, _, _, rfl, rfl, SqT.of e, rfl, ?_⟩
      refine ⟨_, rfl, rfl, _, rfl, iteT' (by decide +kernel) ?_⟩
      refine ⟨_, rfl, _, _, _, _, rfl, rfl, SqT.of e, rfl, _, rfl, _, rfl, ?_⟩
      exact ⟨u, a, b, ns, ps, t, rfl, h1, by omega, hA, hB, hlen, hn, hg, _, rfl, q⟩
    | @both c u v s t e h1 h2 =>
      have hd' : max s.dp t.dp + 1 ≤ n + 1 := hd
      refine ⟨_, rfl, _, _, _, _, rfl, rfl, SqT.of e, rfl, ?_⟩
      refine ⟨_, rfl, rfl, _, rfl, iteF' (by decide +kernel) ?_⟩
      refine ⟨_, rfl, rfl, _, rfl, iteT' (by decide +kernel) ?_⟩
      refine ⟨_, rfl, _, _, _, _, rfl, rfl, SqT.of e, rfl, _, rfl, _, rfl, ?_⟩
      refine ⟨u, a, b, ns, ps, s, rfl, h1, by omega, hA, hB, hlen, hn, hg.1, _, rfl, ?_⟩
      have q' : Q (.bl (s.val ns ps && t.val ns ps)) H := q
      refine ite2 (fun c => ?_) (fun c => ?_)
      · refine ⟨_, rfl, _, _, _, _, rfl, rfl, SqT.of e, rfl, _, rfl, _, rfl, ?_⟩
        refine ⟨v, a, b, ns, ps, t, rfl, h2, by omega, hA, hB, hlen, hn, hg.2, ?_⟩
        rw [c, Bool.true_and] at q'
        exact q'
      · rw [Bool.eq_false_iff.mpr c, Bool.false_and] at q'
        exact q'
end
end W05

set_option Elab.async false
set_option linter.all false
set_option maxRecDepth 100000
set_option maxHeartbeats 4000000
namespace W05
open PySem L2 J
section
variable {P : Program} {w : World} {K : PySem.W.Frag} {mg : Str → Option Value} {base : Heap}
/-! ### Course: put_ahead, worth_now, holds_now -/
def spPutA (C : Addr) : Sp := fun vs H Q _ => ∃ (a : CAd) (ns : List Str) (ps said : List Int) (oil used : Int) (ws us : List V) (lb : Addr), vs = [.ref a.p, .ref lb] ∧ CrsAt C H a ns ps said oil used ws ∧ H lb = some (.lst us) ∧ ws.length + us.length ≤ 1000000 ∧
  ∀ H', CrsAt C H' a ns ps said oil used (ws ++ us.reverse) → COut a H H' → Q .non H'
theorem ok_Course_put_ahead (T : Txt K mg) : FnOk P w K mg base CX0 1 T.f_Course_put_ahead T.fd_Course_put_ahead ["self", "block"] (spPutA T.c_Course) := by
  refine T.Course_put_ahead.F.ok sc_Course_put_ahead (fun vs H Q E h => ?_) (fun cdv A outer s H vs Q E hr h => ?_)
  · obtain ⟨a, ns, ps, said, oil, used, ws, us, lb, rfl, _⟩ := h; rfl
  obtain ⟨a, ns, ps, said, oil, used, ws, us, lb, rfl, hM, hb, hl, q⟩ := h
  refine ⟨_, (pss_one (ps_expr (pe_bm PySem.F.plainAttrs_list PySem.F.slot_list_extend PySem.F.type_list_extend mt_extendP (pe_fld (pv 0) rfl) (pa_cons (pe_listRev rfl rfl T.b_list rfl T.b_reversed bt_reversed (pv 1)) pa_nil)))), ?_⟩
  obtain ⟨dx, fs, e, hf⟩ := hM.ob
  refine ⟨_, rfl, a.p, T.c_Course, dx, fs, _, rfl, e, T.cl_Course, T.na_Course_ahead, (hf.at_ _).trans (cfl_ahead ..), .inl ⟨rfl, _, SqL.of hM.ea⟩, ?_⟩
  refine ⟨_, rfl, lb, us, rfl, hb, fun p2 hp2 => ?_⟩
  have S2 := same_new hp2 (.lst us.reverse)
  refine ⟨a.la, p2, _, _, rfl, rfl, S2 _ _ hM.ea, .inl upd_same, by rw [sizeLine_eq, List.length_reverse]; omega, ?_⟩
  have r := (hM.same S2).aheadTo (ws ++ us.reverse)
  exact q _ r.1 ((COut.of S2).trans r.2)
def spWNow (C : Addr) : Sp := fun vs H Q _ => ∃ (a : CAd) (ns : List Str) (ps said : List Int) (oil used : Int) (ws : List V) (u : V) (s : Sm Str), vs = [.ref a.p, u] ∧ CrsAt C H a ns ps said oil used ws ∧ IsSum H u s ∧ s.fin ns ∧ ps.length = ns.length ∧ ns.length ≤ 500 ∧ Q (.int (s.val ns ps)) H
theorem ok_Course_worth_now (T : Txt K mg) : FnOk P w K mg base CX0 23 T.f_Course_worth_now T.fd_Course_worth_now ["self", "part"] (spWNow T.c_Course) := by
  have G_worth := ok_worth (P := P) (w := w) (base := base) T 20
  refine T.Course_worth_now.F.ok sc_Course_worth_now (fun vs H Q E h => ?_) (fun cdv A outer s H vs Q E hr h => ?_)
  · obtain ⟨a, ns, ps, said, oil, used, ws, u, s, rfl, _⟩ := h; rfl
  obtain ⟨a, ns, ps, said, oil, used, ws, u, s, rfl, hM, hu, hf2, pl, nl, q⟩ := h
  refine ⟨_, (pss_one (ps_ret (pe_call G_worth hr rfl T.worth.m T.worth.F.kp T.worth.b .nil pass0 (pa_cons (pv 1) (pa_cons (pe_fld (pv 0) rfl) (pa_cons (pe_fld (pv 0) rfl) pa_nil)))))), ?_⟩
  obtain ⟨dx, fs, e, hf⟩ := hM.ob
  refine ⟨_, rfl, _, rfl, a.p, T.c_Course, dx, fs, _, rfl, e, T.cl_Course, T.na_Course_row, (hf.at_ _).trans (cfl_row ..), _, rfl, a.p, T.c_Course, dx, fs, _, rfl, e, T.cl_Course, T.na_Course_held, (hf.at_ _).trans (cfl_held ..), ?_⟩
  exact ⟨u, a.lr, a.lh, ns, ps, s, rfl, hu, hf2.2.1, SqL.of hM.er, SqL.of hM.eh, pl, by omega, hf2.1, q⟩
def spHNow (C : Addr) : Sp := fun vs H Q _ => ∃ (a : CAd) (ns : List Str) (ps said : List Int) (oil used : Int) (ws : List V) (u : V) (t : Ts), vs = [.ref a.p, u] ∧ CrsAt C H a ns ps said oil used ws ∧ IsTest H u t ∧ t.fin ns ∧ ps.length = ns.length ∧ ns.length ≤ 500 ∧ Q (.bl (t.val ns ps)) H
theorem ok_Course_holds_now (T : Txt K mg) : FnOk P w K mg base CX0 23 T.f_Course_holds_now T.fd_Course_holds_now ["self", "test"] (spHNow T.c_Course) := by
  have G_holds := ok_holds (P := P) (w := w) (base := base) T 20
  refine T.Course_holds_now.F.ok sc_Course_holds_now (fun vs H Q E h => ?_) (fun cdv A outer s H vs Q E hr h => ?_)
  · obtain ⟨a, ns, ps, said, oil, used, ws, u, s, rfl, _⟩ := h; rfl
  obtain ⟨a, ns, ps, said, oil, used, ws, u, s, rfl, hM, hu, hf2, pl, nl, q⟩ := h
  refine ⟨_, (pss_one (ps_ret (pe_call G_holds hr rfl T.holds.m T.holds.F.kp T.holds.b .nil pass0 (pa_cons (pv 1) (pa_cons (pe_fld (pv 0) rfl) (pa_cons (pe_fld (pv 0) rfl) pa_nil)))))), ?_⟩
  obtain ⟨dx, fs, e, hf⟩ := hM.ob
  refine ⟨_, rfl, _, rfl, a.p, T.c_Course, dx, fs, _, rfl, e, T.cl_Course, T.na_Course_row, (hf.at_ _).trans (cfl_row ..), _, rfl, a.p, T.c_Course, dx, fs, _, rfl, e, T.cl_Course, T.na_Course_held, (hf.at_ _).trans (cfl_held ..), ?_⟩
  exact ⟨u, a.lr, a.lh, ns, ps, s, rfl, hu, hf2.2.1, SqL.of hM.er, SqL.of hM.eh, pl, by omega, hf2.1, q⟩
end
end W05

set_option Elab.async false
set_option linter.all false
set_option maxRecDepth 100000
set_option maxHeartbeats 4000000
namespace W05
open PySem L2 J
section
variable {P : Program} {w : World} {K : PySem.W.Frag} {mg : Str → Option Value} {base : Heap}
/-! ### Course: begin_while, begin_with, begin -/
def spBegin (C : Addr) (aw : V → Prop) (kd : Od → Prop) : Sp := fun vs H Q _ => ∃ (a : CAd) (ns0 ns ns' : List Str) (ps ps' said said' : List Int) (oil used : Int) (ws : List V) (v : V) (x : Od) (r r' : List Wi) (l : Nat) (H0 : Hp),
  vs = [.ref a.p, v] ∧ kd x ∧ CrsAt C H a ns ps said oil used ws ∧ CNew a H0 ∧ Same H0 H ∧ Paired (IsWi aw H0) ws.reverse r ∧ IsOd H0 v x ∧ WInv ns0 (.o x :: r) ns ps said (l + 1) ∧ WStp x r ns ps said r' ns' ps' said' ∧
  ∀ H' ws', CrsAt C H' a ns' ps' said' oil used ws' → Paired (IsWi aw H0) ws'.reverse r' → COut a H H' → Q .non H'
def kWhil : Od → Prop
  | .whil _ _ => True
  | _ => False
def kWit : Od → Prop
  | .wit _ _ _ => True
  | _ => False
theorem rev_app {F : V → Wi → Prop} {ws us : List V} {r : List Wi} {b : Bk} (h : Paired F ws.reverse r) (g : Paired F us (wis b)) : Paired F (ws ++ us.reverse).reverse (wis b ++ r) := by
  rw [List.reverse_append, List.reverse_reverse]
  exact papp g h
theorem ok_Course_begin_while (T : Txt K mg) : FnOk P w K mg base CX0 24 T.f_Course_begin_while T.fd_Course_begin_while ["self", "order"] (spBegin T.c_Course (fun v => v = .ref T.a_AWAY) kWhil) := by
  have G_Course_holds_now := ok_Course_holds_now (P := P) (w := w) (base := base) T
  have G_Course_put_ahead := (ok_Course_put_ahead (P := P) (w := w) (base := base) T).mono (show 1 ≤ 23 by omega)
  refine T.Course_begin_while.F.ok sc_Course_begin_while (fun vs H Q E h => ?_) (fun cdv A outer s H vs Q E hr h => ?_)
  · obtain ⟨a, ns0, ns, ns', ps, ps', said, said', oil, used, ws, v, x, r, r', l, H0, rfl, _⟩ := h; rfl
  obtain ⟨a, ns0, ns, ns', ps, ps', said, said', oil, used, ws, v, x, r, r', l, H0, rfl, hk, hM, hN, S0, hP, hx, hI, hst, q⟩ := h
  refine ⟨_, (pss_one (ps_if (pt_val (pe_meth (pv 0) T.cl_Course T.me_Course_holds_now G_Course_holds_now hr T.Course_holds_now.b .nil pass0 (pa_cons (pe_ix ix_tup (pv 1) pe_int (fun _ _ => rfl)) pa_nil))) (pss_cons (ps_expr (pe_bm PySem.F.plainAttrs_list PySem.F.slot_list_append PySem.F.type_list_append mt_append (pe_fld (pv 0) rfl) (pa_cons (pv 1) pa_nil)))
    (pss_one (ps_expr (pe_meth (pv 0) T.cl_Course T.me_Course_put_ahead G_Course_put_ahead hr T.Course_put_ahead.b .nil pass0 (pa_cons (pe_ix ix_tup (pv 1) pe_int (fun _ _ => rfl)) pa_nil))))) pss_nil)), ?_⟩
  obtain ⟨dx, fs, e, hf⟩ := hM.ob
  cases hx with
  | set _ _ => exact hk.elim
  | say _ _ => exact hk.elim
  | when _ _ _ _ _ _ => exact hk.elim
  | wit _ _ _ _ => exact hk.elim
  | @whil c p1 u t vb b ec ht e1 h1 =>
    have hlin : t.fin ns ∧ b.lin ns := by cases hI.sc with | o lx _ => exact lx
    have ec' := S0 _ _ ec
    refine ⟨_, rfl, a.p, dx, fs, rfl, e, (hf.at_ _).trans (cfl_no (by decide +kernel)), _, rfl, _, _, _, _, rfl, rfl, SqT.of ec', atI_nat (j := 1) rfl, ?_⟩
    refine ⟨a, ns, ps, said, oil, used, ws, u, t, rfl, hM, ht.mono S0.tup, hlin.1, hI.pl, hI.nl, _, rfl, ?_⟩
    have hwl := plen hP
    rw [List.length_reverse] at hwl
    have htl := hI.tl
    have hfew := hI.few (.whil t b) (List.mem_cons_self ..)
    have hfew' : b.n + 1 ≤ 400 := hfew
    have hbl := h1.len
    rw [List.length_cons] at htl
    cases hst with
    | whil1 hv =>
      rw [hv]
      refine iteT' rfl ?_
      refine ⟨_, rfl, a.p, T.c_Course, dx, fs, _, rfl, e, T.cl_Course, T.na_Course_ahead, (hf.at_ _).trans (cfl_ahead ..), .inl ⟨rfl, _, SqL.of hM.ea⟩, _, rfl, ?_⟩
      refine ⟨_, _, _, rfl, rfl, hM.ea, by rw [sizeLine_eq]; omega, ?_⟩
      obtain ⟨hM2, M2⟩ := hM.aheadTo (ws ++ [.ref c])
      have S2 := hN.same S0 M2
      obtain ⟨dx2, fs2, e2, hf2⟩ := hM2.ob
      refine ⟨_, rfl, a.p, dx2, fs2, rfl, e2, (hf2.at_ _).trans (cfl_no (by decide +kernel)), _, rfl, _, _, _, _, rfl, rfl, SqT.of (S2 _ _ ec), atI_nat (j := 2) rfl, ?_⟩
      refine ⟨a, ns, ps, said, oil, used, _, vb, p1, rfl, hM2, S2 _ _ e1, by rw [List.length_append]; show _ + 1 + _ ≤ _; omega, fun H3 hM3 M3 => ?_⟩
      refine q H3 _ hM3 (rev_app ?_ (wis_of (ods_of h1))) (M2.trans M3)
      rw [List.reverse_append]
      exact .cons (.o (.whil ec ht e1 h1)) hP
    | whil0 hv =>
      rw [hv]
      exact iteF' rfl (q H ws hM hP (COut.refl a H))
theorem ok_Course_begin_with (T : Txt K mg) : FnOk P w K mg base CX0 24 T.f_Course_begin_with T.fd_Course_begin_with ["self", "order"] (spBegin T.c_Course (fun v => v = .ref T.a_AWAY) kWit) := by
  have G_Course_worth_now := ok_Course_worth_now (P := P) (w := w) (base := base) T
  have G_Course_put_ahead := (ok_Course_put_ahead (P := P) (w := w) (base := base) T).mono (show 1 ≤ 23 by omega)
  refine T.Course_begin_with.F.ok sc_Course_begin_with (fun vs H Q E h => ?_) (fun cdv A outer s H vs Q E hr h => ?_)
  · obtain ⟨a, ns0, ns, ns', ps, ps', said, said', oil, used, ws, v, x, r, r', l, H0, rfl, _⟩ := h; rfl
  obtain ⟨a, ns0, ns, ns', ps, ps', said, said', oil, used, ws, v, x, r, r', l, H0, rfl, hk, hM, hN, S0, hP, hx, hI, hst, q⟩ := h
  refine ⟨_, (pss_cons (ps_set (i := 2) sc_Course_begin_with.nd rfl (Or.inl rfl) (pe_meth (pv 0) T.cl_Course T.me_Course_worth_now G_Course_worth_now hr T.Course_worth_now.b .nil pass0 (pa_cons (pe_ix ix_tup (pv 1) pe_int (fun _ _ => rfl)) pa_nil)))
    (pss_cons (ps_expr (pe_bm PySem.F.plainAttrs_list PySem.F.slot_list_append PySem.F.type_list_append mt_append (pe_fld (pv 0) rfl) (pa_cons (pe_ix ix_tup (pv 1) pe_int (fun _ _ => rfl)) pa_nil)))
    (pss_cons (ps_expr (pe_bm PySem.F.plainAttrs_list PySem.F.slot_list_append PySem.F.type_list_append mt_append (pe_fld (pv 0) rfl) (pa_cons (pv 2) pa_nil)))
    (pss_cons (ps_expr (pe_bm PySem.F.plainAttrs_list PySem.F.slot_list_append PySem.F.type_list_append mt_append (pe_fld (pv 0) rfl) (pa_cons (pe_glob (v := .ref T.a_AWAY) rfl T.m_AWAY rfl) pa_nil)))
    (pss_one (ps_expr (pe_meth (pv 0) T.cl_Course T.me_Course_put_ahead G_Course_put_ahead hr T.Course_put_ahead.b .nil pass0 (pa_cons (pe_ix ix_tup (pv 1) pe_int (fun _ _ => rfl)) pa_nil)))))))), ?_⟩
  obtain ⟨dx, fs, e, hf⟩ := hM.ob
  cases hx with
  | set _ _ => exact hk.elim
  | say _ _ => exact hk.elim
  | when _ _ _ _ _ _ => exact hk.elim
  | whil _ _ _ _ => exact hk.elim
  | @wit c p1 x u t vb b ec ht e1 h1 =>
    have hlin : t.fin ns ∧ ns.length < 500 ∧ b.lin (ns ++ [x]) := by cases hI.sc with | o lx _ => exact lx
    have ec' := S0 _ _ ec
    have hwl := plen hP
    rw [List.length_reverse] at hwl
    have htl := hI.tl
    have hpl := hI.pl
    have hfew := hI.few (.wit x t b) (List.mem_cons_self ..)
    have hfew' : b.n + 1 ≤ 400 := hfew
    have hbl := h1.len
    rw [List.length_cons] at htl
    cases hst
    refine ⟨_, rfl, a.p, dx, fs, rfl, e, (hf.at_ _).trans (cfl_no (by decide +kernel)), _, rfl, _, _, _, _, rfl, rfl, SqT.of ec', atI_nat (j := 2) rfl, ?_⟩
    refine ⟨a, ns, ps, said, oil, used, ws, u, t, rfl, hM, ht.mono S0.tup, hlin.1, hI.pl, hI.nl, ?_⟩
    refine ⟨_, rfl, a.p, T.c_Course, dx, fs, _, rfl, e, T.cl_Course, T.na_Course_row, (hf.at_ _).trans (cfl_row ..), .inl ⟨rfl, _, SqL.of hM.er⟩, _, rfl, _, _, _, _, rfl, rfl, SqT.of ec', atI_nat (j := 1) rfl, ?_⟩
    refine ⟨_, _, _, rfl, rfl, hM.er, by rw [sizeLine_eq, List.length_map]; omega, ?_⟩
    obtain ⟨hM1, M1⟩ := hM.rowTo (ns ++ [x])
    rw [List.map_append] at hM1 M1
    have S1 := hN.same S0 M1
    obtain ⟨dx1, fs1, e1', hf1⟩ := hM1.ob
    refine ⟨_, rfl, a.p, T.c_Course, dx1, fs1, _, rfl, e1', T.cl_Course, T.na_Course_held, (hf1.at_ _).trans (cfl_held ..), .inl ⟨rfl, _, SqL.of hM1.eh⟩, _, rfl, ?_⟩
    refine ⟨_, _, _, rfl, rfl, hM1.eh, by rw [sizeLine_eq, List.length_map]; omega, ?_⟩
    obtain ⟨hM2, M2⟩ := hM1.heldTo (ps ++ [t.val ns ps])
    rw [List.map_append] at hM2 M2
    have S2 := hN.same S1 M2
    obtain ⟨dx2, fs2, e2', hf2⟩ := hM2.ob
    refine ⟨_, rfl, a.p, T.c_Course, dx2, fs2, _, rfl, e2', T.cl_Course, T.na_Course_ahead, (hf2.at_ _).trans (cfl_ahead ..), .inl ⟨rfl, _, SqL.of hM2.ea⟩, ?_⟩
    refine ⟨_, _, _, rfl, rfl, hM2.ea, by rw [sizeLine_eq]; omega, ?_⟩
    obtain ⟨hM3, M3⟩ := hM2.aheadTo (ws ++ [.ref T.a_AWAY])
    have S3 := hN.same S2 M3
    obtain ⟨dx3, fs3, e3', hf3⟩ := hM3.ob
    refine ⟨_, rfl, a.p, dx3, fs3, rfl, e3', (hf3.at_ _).trans (cfl_no (by decide +kernel)), _, rfl, _, _, _, _, rfl, rfl, SqT.of (S3 _ _ ec), atI_nat (j := 3) rfl, ?_⟩
    refine ⟨a, ns ++ [x], ps ++ [t.val ns ps], said, oil, used, _, vb, p1, rfl, hM3, S3 _ _ e1, by rw [List.length_append]; show _ + 1 + _ ≤ _; omega, fun H4 hM4 M4 => ?_⟩
    refine q H4 _ hM4 (rev_app ?_ (wis_of (ods_of h1))) (M1.trans (M2.trans (M3.trans M4)))
    rw [List.reverse_append]
    exact .cons (.gone rfl) hP
end
end W05

set_option Elab.async false
set_option linter.all false
set_option maxRecDepth 100000
set_option maxHeartbeats 4000000
namespace W05
open PySem L2 J
section
variable {P : Program} {w : World} {K : PySem.W.Frag} {mg : Str → Option Value} {base : Heap}
/-! ### Course: begin -/
theorem ok_Course_begin (T : Txt K mg) : FnOk P w K mg base CX0 25 T.f_Course_begin T.fd_Course_begin ["self", "order"] (spBegin T.c_Course (fun v => v = .ref T.a_AWAY) (fun _ => True)) := by
  have G_Course_worth_now := (ok_Course_worth_now (P := P) (w := w) (base := base) T).mono (show 23 ≤ 24 by omega)
  have G_Course_holds_now := (ok_Course_holds_now (P := P) (w := w) (base := base) T).mono (show 23 ≤ 24 by omega)
  have G_Course_put_ahead := (ok_Course_put_ahead (P := P) (w := w) (base := base) T).mono (show 1 ≤ 24 by omega)
  have G_place_of := (ok_place_of (P := P) (w := w) (base := base) T).mono (show 1 ≤ 24 by omega)
  have G_Course_begin_while := ok_Course_begin_while (P := P) (w := w) (base := base) T
  have G_Course_begin_with := ok_Course_begin_with (P := P) (w := w) (base := base) T
  refine T.Course_begin.F.ok sc_Course_begin (fun vs H Q E h => ?_) (fun cdv A outer s H vs Q E hr h => ?_)
  · obtain ⟨a, ns0, ns, ns', ps, ps', said, said', oil, used, ws, v, x, r, r', l, H0, rfl, _⟩ := h; rfl
  obtain ⟨a, ns0, ns, ns', ps, ps', said, said', oil, used, ws, v, x, r, r', l, H0, rfl, hk, hM, hN, S0, hP, hx, hI, hst, q⟩ := h
  refine ⟨_, (pss_cons (ps_set (i := 2) sc_Course_begin.nd rfl (Or.inl rfl) (pe_ix ix_tup (pv 1) pe_int (fun _ _ => rfl)))
    (pss_one (ps_if (pt_cmpR op_eq (pv 2) pe_str (nomark _)) (pss_one (ps_asg (pe_meth (pv 0) T.cl_Course T.me_Course_worth_now G_Course_worth_now hr T.Course_worth_now.b .nil pass0 (pa_cons (pe_ix ix_tup (pv 1) pe_int (fun _ _ => rfl)) pa_nil)) (pg_sub (pe_fld (pv 0) rfl) (pe_call G_place_of hr rfl T.place_of.m T.place_of.F.kp T.place_of.b .nil pass0 (pa_cons (pe_fld (pv 0) rfl) (pa_cons (pe_ix ix_tup (pv 1) pe_int (fun _ _ => rfl)) pa_nil))) set_list))) (pss_one (ps_if (pt_cmpR op_eq (pv 2) pe_str (nomark _)) (pss_one (ps_expr (pe_bm PySem.F.plainAttrs_list PySem.F.slot_list_append PySem.F.type_list_append mt_append (pe_fld (pv 0) rfl) (pa_cons (pe_meth (pv 0) T.cl_Course T.me_Course_worth_now G_Course_worth_now hr T.Course_worth_now.b .nil pass0 (pa_cons (pe_ix ix_tup (pv 1) pe_int (fun _ _ => rfl)) pa_nil)) pa_nil)))) (pss_one (ps_if (pt_cmpR op_eq (pv 2) pe_str (nomark _)) (pss_one (ps_expr (pe_meth (pv 0) T.cl_Course T.me_Course_put_ahead G_Course_put_ahead hr T.Course_put_ahead.b .nil pass0 (pa_cons (pe_ifExp (pt_val (pe_meth (pv 0) T.cl_Course T.me_Course_holds_now G_Course_holds_now hr T.Course_holds_now.b .nil pass0 (pa_cons (pe_ix ix_tup (pv 1) pe_int (fun _ _ => rfl)) pa_nil))) (pe_ix ix_tup (pv 1) pe_int (fun _ _ => rfl)) (pe_ix ix_tup (pv 1) pe_int (fun _ _ => rfl))) pa_nil)))) (pss_one (ps_if (pt_cmpR op_eq (pv 2) pe_str (nomark _)) (pss_one (ps_expr (pe_meth (pv 0) T.cl_Course T.me_Course_begin_while G_Course_begin_while hr T.Course_begin_while.b .nil pass0 (pa_cons (pv 1) pa_nil)))) (pss_one (ps_expr (pe_meth (pv 0) T.cl_Course T.me_Course_begin_with G_Course_begin_with hr T.Course_begin_with.b .nil pass0 (pa_cons (pv 1) pa_nil))))))))))))), ?_⟩
  obtain ⟨dx, fs, e, hf⟩ := hM.ob
  have hpl := hI.pl
  have hnl := hI.nl
  have hsl := hI.sl
  have htl := hI.tl
  rw [List.length_cons] at htl
  have hwl := plen hP
  rw [List.length_reverse] at hwl
  cases hx with
  | @set c x u t ec ht =>
    have hlin : x ∈ ns ∧ t.fin ns := by cases hI.sc with | o lx _ => exact lx
    have ec' := S0 _ _ ec
    cases hst with
    | @set _ _ j _ _ _ _ hj =>
      have hlt := lastIx_lt hj
      refine ⟨_, rfl, _, _, _, _, rfl, rfl, SqT.of ec', at0, ?_⟩
      refine ⟨_, rfl, rfl, _, rfl, iteT' (by decide +kernel) ?_⟩
      refine ⟨_, rfl, a.p, dx, fs, rfl, e, (hf.at_ _).trans (cfl_no (by decide +kernel)), _, rfl, _, _, _, _, rfl, rfl, SqT.of ec', atI_nat (j := 2) rfl, ?_⟩
      refine ⟨a, ns, ps, said, oil, used, ws, u, t, rfl, hM, ht.mono S0.tup, hlin.2, hI.pl, hI.nl, ?_⟩
      refine ⟨_, rfl, a.p, T.c_Course, dx, fs, _, rfl, e, T.cl_Course, T.na_Course_held, (hf.at_ _).trans (cfl_held ..), ?_⟩
      refine ⟨_, rfl, a.p, T.c_Course, dx, fs, _, rfl, e, T.cl_Course, T.na_Course_row, (hf.at_ _).trans (cfl_row ..), _, rfl, _, _, _, _, rfl, rfl, SqT.of ec', atI_nat (j := 1) rfl, ?_⟩
      refine ⟨a.lr, ns, x, j, rfl, SqL.of hM.er, by omega, hj, ?_⟩
      have hix : ixN (ps.map V.int).length (j : Int) = some j := by
        unfold ixN
        rw [List.length_map]
        simp
        omega
      refine ⟨a.lh, _, _, j, rfl, rfl, hM.eh, hix, ?_⟩
      have r := hM.heldTo (ps.set j (t.val ns ps))
      rw [List.map_set] at r
      exact q _ _ r.1 hP r.2
  | @say c u t ec ht =>
    have hlin : t.fin ns := by cases hI.sc with | o lx _ => exact lx
    have ec' := S0 _ _ ec
    cases hst
    refine ⟨_, rfl, _, _, _, _, rfl, rfl, SqT.of ec', at0, ?_⟩
    refine ⟨_, rfl, rfl, _, rfl, iteF' (by decide +kernel) ?_⟩
    refine ⟨_, rfl, rfl, _, rfl, iteT' (by decide +kernel) ?_⟩
    refine ⟨_, rfl, a.p, T.c_Course, dx, fs, _, rfl, e, T.cl_Course, T.na_Course_said, (hf.at_ _).trans (cfl_said ..), .inl ⟨rfl, _, SqL.of hM.es⟩, ?_⟩
    refine ⟨_, rfl, a.p, dx, fs, rfl, e, (hf.at_ _).trans (cfl_no (by decide +kernel)), _, rfl, _, _, _, _, rfl, rfl, SqT.of ec', atI_nat (j := 1) rfl, ?_⟩
    refine ⟨a, ns, ps, said, oil, used, ws, u, t, rfl, hM, ht.mono S0.tup, hlin, hI.pl, hI.nl, ?_⟩
    refine ⟨_, _, _, rfl, rfl, hM.es, by rw [sizeLine_eq, List.length_map]; omega, ?_⟩
    obtain ⟨hM2, M2⟩ := hM.saidTo (said ++ [t.val ns ps])
    rw [List.map_append] at hM2 M2
    exact q _ _ hM2 hP M2
  | @when c p1 q1 u t vb vc b d ec ht e1 h1 e2 h2 =>
    have hlin : t.fin ns ∧ b.lin ns ∧ d.lin ns := by cases hI.sc with | o lx _ => exact lx
    have ec' := S0 _ _ ec
    have hfew : b.n + d.n + 1 ≤ 400 := hI.few (.when t b d) (List.mem_cons_self ..)
    have hbl := h1.len
    have hdl := h2.len
    refine ⟨_, rfl, _, _, _, _, rfl, rfl, SqT.of ec', at0, ?_⟩
    refine ⟨_, rfl, rfl, _, rfl, iteF' (by decide +kernel) ?_⟩
    refine ⟨_, rfl, rfl, _, rfl, iteF' (by decide +kernel) ?_⟩
    refine ⟨_, rfl, rfl, _, rfl, iteT' (by decide +kernel) ?_⟩
    refine ⟨_, rfl, a.p, dx, fs, rfl, e, (hf.at_ _).trans (cfl_no (by decide +kernel)), ?_⟩
    refine ⟨_, rfl, a.p, dx, fs, rfl, e, (hf.at_ _).trans (cfl_no (by decide +kernel)), _, rfl, _, _, _, _, rfl, rfl, SqT.of ec', atI_nat (j := 1) rfl, ?_⟩
    refine ⟨a, ns, ps, said, oil, used, ws, u, t, rfl, hM, ht.mono S0.tup, hlin.1, hI.pl, hI.nl, _, rfl, ?_⟩
    cases hst with
    | when1 hv =>
      rw [hv]
      refine iteT' rfl ?_
      refine ⟨_, rfl, _, _, _, _, rfl, rfl, SqT.of ec', atI_nat (j := 2) rfl, ?_⟩
      refine ⟨a, ns, ps, said, oil, used, ws, vb, p1, rfl, hM, S0 _ _ e1, by omega, fun H3 hM3 M3 => ?_⟩
      exact q H3 _ hM3 (rev_app hP (wis_of (ods_of h1))) M3
    | when0 hv =>
      rw [hv]
      refine iteF' rfl ?_
      refine ⟨_, rfl, _, _, _, _, rfl, rfl, SqT.of ec', atI_nat (j := 3) rfl, ?_⟩
      refine ⟨a, ns, ps, said, oil, used, ws, vc, q1, rfl, hM, S0 _ _ e2, by omega, fun H3 hM3 M3 => ?_⟩
      exact q H3 _ hM3 (rev_app hP (wis_of (ods_of h2))) M3
  | @whil c p1 u t vb b ec ht e1 h1 =>
    have ec' := S0 _ _ ec
    refine ⟨_, rfl, _, _, _, _, rfl, rfl, SqT.of ec', at0, ?_⟩
    refine ⟨_, rfl, rfl, _, rfl, iteF' (by decide +kernel) ?_⟩
    refine ⟨_, rfl, rfl, _, rfl, iteF' (by decide +kernel) ?_⟩
    refine ⟨_, rfl, rfl, _, rfl, iteF' (by decide +kernel) ?_⟩
    refine ⟨_, rfl, rfl, _, rfl, iteT' (by decide +kernel) ?_⟩
    refine ⟨_, rfl, a.p, dx, fs, rfl, e, (hf.at_ _).trans (cfl_no (by decide +kernel)), _, rfl, ?_⟩
    exact ⟨a, ns0, ns, ns', ps, ps', said, said', oil, used, ws, _, .whil t b, r, r', l, H0, rfl, trivial, hM, hN, S0, hP, .whil ec ht e1 h1, hI, hst, q⟩
  | @wit c p1 x u t vb b ec ht e1 h1 =>
    have ec' := S0 _ _ ec
    refine ⟨_, rfl, _, _, _, _, rfl, rfl, SqT.of ec', at0, ?_⟩
    refine ⟨_, rfl, rfl, _, rfl, iteF' (by decide +kernel) ?_⟩
    refine ⟨_, rfl, rfl, _, rfl, iteF' (by decide +kernel) ?_⟩
    refine ⟨_, rfl, rfl, _, rfl, iteF' (by decide +kernel) ?_⟩
    refine ⟨_, rfl, rfl, _, rfl, iteF' (by decide +kernel) ?_⟩
    refine ⟨_, rfl, a.p, dx, fs, rfl, e, (hf.at_ _).trans (cfl_no (by decide +kernel)), _, rfl, ?_⟩
    exact ⟨a, ns0, ns, ns', ps, ps', said, said', oil, used, ws, _, .wit x t b, r, r', l, H0, rfl, trivial, hM, hN, S0, hP, .wit ec ht e1 h1, hI, hst, q⟩
/-! ### Course: go -/
def wfW (f : WFin) : Str := if f.word = true then "done" else "dry"
def spGo (C : Addr) (aw : V → Prop) : Sp := fun vs H Q _ => ∃ (a : CAd) (ns0 ns : List Str) (ps said : List Int) (oil l m : Nat) (ws : List V) (r : List Wi) (H0 : Hp) (f : WFin),
  vs = [.ref a.p] ∧ l ≤ oil ∧ CrsAt C H a ns ps said (oil : Int) ((oil - l : Nat) : Int) ws ∧ CNew a H0 ∧ Same H0 H ∧ Paired (IsWi aw H0) ws.reverse r ∧ WInv ns0 r ns ps said l ∧ Walk m r ns ps said l f ∧
  ∀ H' ns' ws', CrsAt C H' a ns' f.pots f.told (oil : Int) ((oil - f.left : Nat) : Int) ws' → COut a H H' → f.left ≤ oil → Q (.str (wfW f)) H'
def WGo (C : Addr) (aw : V → Prop) (H H0 : Hp) (a : CAd) (ns0 : List Str) (oil : Nat) (f : WFin) (m : Nat) (σ : St) (H' : Hp) : Prop :=
  ∃ (o1 : Option V) (ns : List Str) (ps said : List Int) (l : Nat) (ws : List V) (r : List Wi), σ = [some (.ref a.p), o1] ∧ l ≤ oil ∧ CrsAt C H' a ns ps said (oil : Int) ((oil - l : Nat) : Int) ws ∧ COut a H H' ∧ Paired (IsWi aw H0) ws.reverse r ∧ WInv ns0 r ns ps said l ∧ Walk m r ns ps said l f
theorem od_word {H : Hp} {v : V} {x : Od} (h : IsOd H v x) : ∃ c wd r, v = .ref c ∧ H c = some (.tup (.str wd :: r)) ∧ (decide (wd = ("away" : Str)) && r.isEmpty) = false := by
  cases h with
  | set e _ => exact ⟨_, _, _, rfl, e, by simp⟩
  | say e _ => exact ⟨_, _, _, rfl, e, by simp⟩
  | when e _ _ _ _ _ => exact ⟨_, _, _, rfl, e, by simp⟩
  | whil e _ _ _ => exact ⟨_, _, _, rfl, e, by simp⟩
  | wit e _ _ _ => exact ⟨_, _, _, rfl, e, by simp⟩
theorem ok_Course_go (T : Txt K mg) : FnOk P w K mg base CX0 26 T.f_Course_go T.fd_Course_go ["self"] (spGo T.c_Course (fun v => v = .ref T.a_AWAY)) := by
  have G_Course_begin := ok_Course_begin (P := P) (w := w) (base := base) T
  refine T.Course_go.F.ok sc_Course_go (fun vs H Q E h => ?_) (fun cdv A outer s H vs Q E hr h => ?_)
  · obtain ⟨a, ns0, ns, ps, said, oil, l, m, ws, r, H0, f, rfl, _⟩ := h; rfl
  obtain ⟨a, ns0, ns, ps, said, oil, l, m, ws, r, H0, f, rfl, hlo, hM, hN, S0, hP, hI, hW, q⟩ := h
  refine ⟨_, (pss_cons (ps_while PassesOwn.never (pt_truth (pe_fld (pv 0) rfl) (by intro _; rfl)) (pss_cons (ps_set (i := 1) sc_Course_go.nd rfl (Or.inl rfl) (pe_bm0 PySem.F.plainAttrs_list PySem.F.slot_list_pop PySem.F.type_list_pop mt_pop (pe_fld (pv 0) rfl)))
    (pss_one (ps_if (pt_cmpR (op_eqAway hr.units1) (pv 1) (pe_glob (v := .ref T.a_AWAY) rfl T.m_AWAY rfl) (nomark _)) (pss_cons (ps_expr (pe_bm0 PySem.F.plainAttrs_list PySem.F.slot_list_pop PySem.F.type_list_pop mt_pop (pe_fld (pv 0) rfl)))
    (pss_one (ps_expr (pe_bm0 PySem.F.plainAttrs_list PySem.F.slot_list_pop PySem.F.type_list_pop mt_pop (pe_fld (pv 0) rfl))))) (pss_one (ps_if (pt_cmpR op_eq (pe_fld (pv 0) rfl) (pe_fld (pv 0) rfl) (nomark _)) (pss_one (ps_ret pe_str)) (pss_cons (ps_fldaug (pv 0) pe_int in_add)
    (pss_one (ps_expr (pe_meth (pv 0) T.cl_Course T.me_Course_begin G_Course_begin hr T.Course_begin.b .nil pass0 (pa_cons (pv 1) pa_nil)))))))))))
    (pss_one (ps_ret pe_str))), ?_⟩
  refine ⟨WGo T.c_Course (fun v => v = .ref T.a_AWAY) H H0 a ns0 oil f, ⟨m, none, ns, ps, said, l, ws, r, rfl, hlo, hM, COut.refl a H, hP, hI, hW⟩, ?_⟩
  rintro m σ H2 ⟨o1, ns2, ps2, said2, l2, ws2, r2, rfl, hlo2, hM2, M2, hP2, hI2, hW2⟩
  have S2 := hN.same S0 M2
  obtain ⟨dx, fs, e, hf⟩ := hM2.ob
  have hwl := plen hP2
  rw [List.length_reverse] at hwl
  have fa : fs.lookup ("ahead" : Str) = some (V.ref a.la) := (hf.at_ _).trans (cfl_ahead ..)
  have fu : fs.lookup ("used" : Str) = some (V.int ((oil - l2 : Nat) : Int)) := (hf.at_ _).trans (cfl_used ..)
  have fo : fs.lookup ("oil" : Str) = some (V.int (oil : Int)) := (hf.at_ _).trans (cfl_oil ..)
  have stepP : ∀ {x : Wi} {r : List Wi}, r2 = x :: r → ∃ ws' v, ws2 = ws' ++ [v] ∧ IsWi (fun v => v = .ref T.a_AWAY) H0 v x ∧ Paired (IsWi (fun v => v = .ref T.a_AWAY) H0) ws'.reverse r := fun er => by
    rw [er] at hP2
    exact prev hP2
  by_cases hst : ∃ (l3 : Nat) (x : Od) (r : List Wi), l2 = l3 + 1 ∧ r2 = .o x :: r
  · obtain ⟨l3, x, r, rfl, rfl⟩ := hst
    obtain ⟨m', r', ns', ps', s', rfl, st, hW3⟩ := hW2.stp
    obtain ⟨ws', v, rfl, hv, hP'⟩ := stepP rfl
    cases hv with
    | o hx =>
    obtain ⟨c, wd, rr, rfl, ec, hne⟩ := od_word hx
    refine ⟨_, rfl, a.p, T.c_Course, dx, fs, _, rfl, e, T.cl_Course, T.na_Course_ahead, fa, true, .inl ⟨_, SqL.of hM2.ea, by simp⟩, iteT' rfl ?_⟩
    refine ⟨fun σ' H'' => ∃ m2, m2 < m' + 1 ∧ WGo T.c_Course (fun v => v = .ref T.a_AWAY) H H0 a ns0 oil f m2 σ' H'', fun _ _ z => z, ?_⟩
    refine ⟨_, rfl, a.p, T.c_Course, dx, fs, _, rfl, e, T.cl_Course, T.na_Course_ahead, fa, .inl ⟨rfl, _, SqL.of hM2.ea⟩, _, _, _, rfl, rfl, hM2.ea, last_get _ _, ?_⟩
    rw [List.dropLast_concat]
    obtain ⟨hM3, M3⟩ := hM2.aheadTo ws'
    have S3 := hN.same S2 M3
    obtain ⟨dx3, fs3, e3, hf3⟩ := hM3.ob
    refine ⟨_, rfl, c, T.a_AWAY, wd, rr, rfl, rfl, .inl (S3 _ _ ec), T.k_AWAY _, _, rfl, iteF' hne ?_⟩
    refine ⟨_, rfl, a.p, T.c_Course, dx3, fs3, _, rfl, e3, T.cl_Course, T.na_Course_used, (hf3.at_ _).trans (cfl_used ..), _, rfl, a.p, T.c_Course, dx3, fs3, _, rfl, e3, T.cl_Course, T.na_Course_oil, (hf3.at_ _).trans (cfl_oil ..), rfl, _, rfl, iteF' (decide_eq_false (fun z => by injection z; omega)) ?_⟩
    refine ⟨_, rfl, a.p, T.c_Course, dx3, fs3, _, rfl, e3, T.cl_Course, T.na_Course_used, (hf3.at_ _).trans (cfl_used ..), _, _, rfl, rfl, dx3, fs3, e3, Nat.lt_of_le_of_lt hf3.len (by decide), ?_⟩
    have eu : (((oil - (l3 + 1) : Nat) : Int) + 1) = ((oil - l3 : Nat) : Int) := by omega
    have hf4 := hf3.put (f := "used") (v := .int (((oil - (l3 + 1) : Nat) : Int) + 1)) (m' := cfl a.lr a.lh a.ls (oil : Int) (((oil - (l3 + 1) : Nat) : Int) + 1) a.la) (cfl_used ..) (cfl_putUsed _ _ _ _ _ _ _)
    obtain ⟨hM4, M4⟩ := hM3.fld (dx := dx3) hf4
    have S4 := hN.same S3 M4
    obtain ⟨dx5, fs5, e5, hf5⟩ := hM4.ob
    refine ⟨_, rfl, a.p, dx5, fs5, rfl, e5, (hf5.at_ _).trans (cfl_no (by decide +kernel)), _, rfl, ?_⟩
    refine ⟨a, ns0, ns2, ns', ps2, ps', said2, s', _, _, ws', _, x, r, r', l3, H0, rfl, trivial, hM4, hN, S4, hP', hx, hI2, st, fun H6 ws6 hM6 hP6 M6 => ?_⟩
    exact ⟨m', Nat.lt_succ_self _, _, ns', ps', s', l3, ws6, r', rfl, by omega, by rw [← eu]; exact hM6, M2.trans (M3.trans (M4.trans M6)), hP6, hI2.next st, hW3⟩
  cases hW2 with
  | done =>
    have hw0 : ws2 = [] := List.eq_nil_of_length_eq_zero hwl
    refine ⟨_, rfl, a.p, T.c_Course, dx, fs, _, rfl, e, T.cl_Course, T.na_Course_ahead, fa, false, .inl ⟨_, SqL.of hM2.ea, by rw [hw0]; rfl⟩, iteF' rfl ?_⟩
    exact q H2 _ _ hM2 M2 hlo2
  | @dry x r _ _ _ =>
    obtain ⟨ws', v, rfl, hv, hP'⟩ := stepP rfl
    cases hv with
    | o hx =>
    obtain ⟨c, wd, rr, rfl, ec, hne⟩ := od_word hx
    refine ⟨_, rfl, a.p, T.c_Course, dx, fs, _, rfl, e, T.cl_Course, T.na_Course_ahead, fa, true, .inl ⟨_, SqL.of hM2.ea, by simp⟩, iteT' rfl ?_⟩
    refine ⟨fun σ' H'' => ∃ m', m' < 0 ∧ WGo T.c_Course (fun v => v = .ref T.a_AWAY) H H0 a ns0 oil ⟨false, said2, ps2, 0⟩ m' σ' H'', fun _ _ z => z, ?_⟩
    refine ⟨_, rfl, a.p, T.c_Course, dx, fs, _, rfl, e, T.cl_Course, T.na_Course_ahead, fa, .inl ⟨rfl, _, SqL.of hM2.ea⟩, _, _, _, rfl, rfl, hM2.ea, last_get _ _, ?_⟩
    rw [List.dropLast_concat]
    obtain ⟨hM3, M3⟩ := hM2.aheadTo ws'
    have S3 := hN.same S2 M3
    obtain ⟨dx3, fs3, e3, hf3⟩ := hM3.ob
    refine ⟨_, rfl, c, T.a_AWAY, wd, rr, rfl, rfl, .inl (S3 _ _ ec), T.k_AWAY _, _, rfl, iteF' hne ?_⟩
    refine ⟨_, rfl, a.p, T.c_Course, dx3, fs3, _, rfl, e3, T.cl_Course, T.na_Course_used, (hf3.at_ _).trans (cfl_used ..), _, rfl, a.p, T.c_Course, dx3, fs3, _, rfl, e3, T.cl_Course, T.na_Course_oil, (hf3.at_ _).trans (cfl_oil ..), rfl, _, rfl, iteT' (decide_eq_true (by rw [Nat.sub_zero])) ?_⟩
    exact q _ _ _ hM3 (M2.trans M3) (Nat.zero_le _)
  | @gone m' r ns x ps i _ _ _ hW3 =>
    obtain ⟨ws', v, rfl, hv, hP'⟩ := stepP rfl
    cases hv with
    | gone hv =>
    subst hv
    refine ⟨_, rfl, a.p, T.c_Course, dx, fs, _, rfl, e, T.cl_Course, T.na_Course_ahead, fa, true, .inl ⟨_, SqL.of hM2.ea, by simp⟩, iteT' rfl ?_⟩
    refine ⟨fun σ' H'' => ∃ m2, m2 < m' + 1 ∧ WGo T.c_Course (fun v => v = .ref T.a_AWAY) H H0 a ns0 oil f m2 σ' H'', fun _ _ z => z, ?_⟩
    refine ⟨_, rfl, a.p, T.c_Course, dx, fs, _, rfl, e, T.cl_Course, T.na_Course_ahead, fa, .inl ⟨rfl, _, SqL.of hM2.ea⟩, _, _, _, rfl, rfl, hM2.ea, last_get _ _, ?_⟩
    rw [List.dropLast_concat]
    obtain ⟨hM3, M3⟩ := hM2.aheadTo ws'
    obtain ⟨dx3, fs3, e3, hf3⟩ := hM3.ob
    refine ⟨_, rfl, T.a_AWAY, T.a_AWAY, "away", [], rfl, rfl, T.k_AWAY _, T.k_AWAY _, _, rfl, iteT' (by decide +kernel) ?_⟩
    have er3 := hM3.er
    rw [List.map_append] at er3
    refine ⟨_, rfl, a.p, T.c_Course, dx3, fs3, _, rfl, e3, T.cl_Course, T.na_Course_row, (hf3.at_ _).trans (cfl_row ..), .inl ⟨rfl, _, SqL.of er3⟩, _, _, _, rfl, rfl, er3, last_get _ _, ?_⟩
    rw [show (ns.map V.str ++ [x].map V.str).dropLast = ns.map V.str from List.dropLast_concat]
    obtain ⟨hM4, M4⟩ := hM3.rowTo ns
    obtain ⟨dx4, fs4, e4, hf4⟩ := hM4.ob
    have eh4 := hM4.eh
    rw [List.map_append] at eh4
    refine ⟨_, rfl, a.p, T.c_Course, dx4, fs4, _, rfl, e4, T.cl_Course, T.na_Course_held, (hf4.at_ _).trans (cfl_held ..), .inl ⟨rfl, _, SqL.of eh4⟩, _, _, _, rfl, rfl, eh4, last_get _ _, ?_⟩
    rw [show (ps.map V.int ++ [i].map V.int).dropLast = ps.map V.int from List.dropLast_concat]
    obtain ⟨hM5, M5⟩ := hM4.heldTo ps
    exact ⟨m', Nat.lt_succ_self _, _, ns, ps, said2, l2, ws', r, rfl, hlo2, hM5, M2.trans (M3.trans (M4.trans M5)), hP', hI2.gone, hW3⟩
  | _ => exact absurd ⟨_, _, _, rfl, rfl⟩ hst
end
end W05

set_option Elab.async false
set_option linter.all false
set_option maxRecDepth 100000
set_option maxHeartbeats 4000000
namespace W05
open PySem L2 J
section
variable {P : Program} {w : World} {K : PySem.W.Frag} {mg : Str → Option Value} {base : Heap}
/-! ### Course: its making; followed -/
/-- all that was there but p is there still -/
def Kp (p : Addr) (H H' : Hp) : Prop := ∀ b o, b ≠ p → H b = some o → H' b = some o
theorem Kp.free {p : Addr} {H H' : Hp} (k : Kp p H H') {l : Addr} (hp : l ≠ p) (h : H' l = none) : H l = none := by
  cases e : H l with
  | none => rfl
  | some o => rw [k l o hp e] at h; cases h
theorem Kp.trans {p : Addr} {H H1 H2 : Hp} (a : Kp p H H1) (b : Kp p H1 H2) : Kp p H H2 := fun c o n e => b c o n (a c o n e)
theorem kp_fld {p : Addr} {H : Hp} (o : HO) : Kp p H (upd H p o) := fun b u n e => by rw [upd_ne n]; exact e
theorem kp_new {p l : Addr} {H : Hp} (h : H l = none) (o : HO) : Kp p H (upd H l o) := fun b u n e => by rw [upd_ne (ne_of_none e h)]; exact e
def spCInit (C : Addr) : Sp := fun vs H Q _ => ∃ (p dx r ln lb lq : Addr) (ns : List Str) (us : List V) (ps : List Int) (oil : Int), vs = [.ref p, .ref r, .ref lq, .int oil] ∧ H p = some (.ins C dx []) ∧ H r = some (.tup [.ref ln, .ref lb]) ∧ H ln = some (.lst (ns.map V.str)) ∧ H lb = some (.lst us) ∧ H lq = some (.lst (ps.map V.int)) ∧ us.length ≤ 1000 ∧
  ∀ lr lh ls la H', H lr = none → H lh = none → H ls = none → H la = none → CrsAt C H' ⟨p, lr, lh, ls, la⟩ ns ps [] oil 0 us.reverse → Kp p H H' → Q .non H'
theorem ok_Course_init (T : Txt K mg) : FnOk P w K mg base CX0 2 T.f_Course_init T.fd_Course_init ["self", "program", "starts", "oil"] (spCInit T.c_Course) := by
  have G_Course_put_ahead := ok_Course_put_ahead (P := P) (w := w) (base := base) T
  refine T.Course_init.F.ok sc_Course_init (fun vs H Q E h => ?_) (fun cdv A outer s H vs Q E hr h => ?_)
  · obtain ⟨p, dx, r, ln, lb, lq, ns, us, ps, oil, rfl, _⟩ := h; rfl
  obtain ⟨p, dx, r, ln, lb, lq, ns, us, ps, oil, rfl, hp, er, en, eb, eq, hul, q⟩ := h
  refine ⟨_, (pss_cons (ps_fld (pv 0) (pe_callTy call_list_of rfl T.b_list bt_list (pa_cons (pe_ix ix_tup (pv 1) pe_int (fun _ _ => rfl)) pa_nil)) rfl)
    (pss_cons (ps_fld (pv 0) (pe_callTy call_list_of rfl T.b_list bt_list (pa_cons (pv 2) pa_nil)) rfl)
    (pss_cons (ps_fld (pv 0) (pe_lst pa_nil) rfl)
    (pss_cons (ps_fld (pv 0) (pv 3) rfl)
    (pss_cons (ps_fld (pv 0) pe_int rfl)
    (pss_cons (ps_fld (pv 0) (pe_lst pa_nil) rfl)
    (pss_one (ps_expr (pe_meth (pv 0) T.cl_Course T.me_Course_put_ahead G_Course_put_ahead hr T.Course_put_ahead.b .nil pass0 (pa_cons (pe_ix ix_tup (pv 1) pe_int (fun _ _ => rfl)) pa_nil)))))))))), ?_⟩
  have npr : r ≠ p := ne_of er hp (fun z => by cases z)
  have npn : ln ≠ p := ne_of en hp (fun z => by cases z)
  have npb : lb ≠ p := ne_of eb hp (fun z => by cases z)
  have npq : lq ≠ p := ne_of eq hp (fun z => by cases z)
  have n0 : ([] : List (Str × V)).length = 0 := rfl
  -- row
  refine ⟨_, rfl, _, _, _, _, rfl, rfl, SqT.of er, at0, _, _, rfl, .inl (SqL.of en), fun lr hlr => ?_⟩
  have k1 : Kp p H (upd H lr (.lst (ns.map V.str))) := kp_new hlr _
  have p1 : upd H lr (.lst (ns.map V.str)) p = some (.ins T.c_Course dx []) := same_new hlr _ _ _ hp
  have r1 : upd H lr (.lst (ns.map V.str)) lr = some (.lst (ns.map V.str)) := upd_same
  have npl : lr ≠ p := fun z => by rw [z, hp] at hlr; cases hlr
  generalize upd H lr (.lst (ns.map V.str)) = H1 at k1 p1 r1
  obtain ⟨a1, b1⟩ := Has.nil.snoc (f := "row") (v := .ref lr) (by decide) rfl
  refine ⟨_, rfl, p, T.c_Course, dx, [], rfl, p1, T.cl_Course, T.na_Course_row, (by show 0 < 1000; decide), ?_⟩
  generalize hf1 : putF "row" (.ref lr) [] = fs1 at a1 b1
  have k2 := k1.trans (kp_fld (H := H1) (.ins T.c_Course dx fs1))
  have p2 : upd H1 p (.ins T.c_Course dx fs1) p = some (.ins T.c_Course dx fs1) := upd_same
  have r2 : upd H1 p (.ins T.c_Course dx fs1) lr = some (.lst (ns.map V.str)) := by rw [upd_ne npl]; exact r1
  generalize upd H1 p (.ins T.c_Course dx fs1) = H2 at k2 p2 r2
  -- held
  refine ⟨_, rfl, _, _, rfl, .inl (SqL.of (k2 _ _ npq eq)), fun lh hlh => ?_⟩
  have nph : lh ≠ p := fun z => by rw [z, p2] at hlh; cases hlh
  have nrh : lr ≠ lh := ne_of_none r2 hlh
  have hlh0 : H lh = none := k2.free nph hlh
  have k3 := k2.trans (kp_new (p := p) hlh (.lst (ps.map V.int)))
  have p3 : upd H2 lh (.lst (ps.map V.int)) p = some (.ins T.c_Course dx fs1) := same_new hlh _ _ _ p2
  have r3 : upd H2 lh (.lst (ps.map V.int)) lr = some (.lst (ns.map V.str)) := same_new hlh _ _ _ r2
  have h3 : upd H2 lh (.lst (ps.map V.int)) lh = some (.lst (ps.map V.int)) := upd_same
  generalize upd H2 lh (.lst (ps.map V.int)) = H3 at k3 p3 r3 h3
  obtain ⟨a2, b2⟩ := a1.snoc (f := "held") (v := .ref lh) (by omega) (by show List.lookup _ [(("row" : Str), V.ref lr)] = none; rw [lk_cons, if_neg (by decide +kernel)]; rfl)
  refine ⟨_, rfl, p, T.c_Course, dx, fs1, rfl, p3, T.cl_Course, T.na_Course_held, Nat.lt_of_le_of_lt a1.len (by decide), ?_⟩
  generalize hf2 : putF "held" (.ref lh) fs1 = fs2 at a2 b2
  have k4 := k3.trans (kp_fld (H := H3) (.ins T.c_Course dx fs2))
  have p4 : upd H3 p (.ins T.c_Course dx fs2) p = some (.ins T.c_Course dx fs2) := upd_same
  have r4 : upd H3 p (.ins T.c_Course dx fs2) lr = some (.lst (ns.map V.str)) := by rw [upd_ne npl]; exact r3
  have h4 : upd H3 p (.ins T.c_Course dx fs2) lh = some (.lst (ps.map V.int)) := by rw [upd_ne nph]; exact h3
  generalize upd H3 p (.ins T.c_Course dx fs2) = H4 at k4 p4 r4 h4
  -- said
  refine ⟨Nat.zero_le _, fun ls hls => ?_⟩
  have nps : ls ≠ p := fun z => by rw [z, p4] at hls; cases hls
  have nrs : lr ≠ ls := ne_of_none r4 hls
  have nhs : lh ≠ ls := ne_of_none h4 hls
  have hls0 : H ls = none := k4.free nps hls
  have k5 := k4.trans (kp_new (p := p) hls (.lst []))
  have p5 : upd H4 ls (.lst []) p = some (.ins T.c_Course dx fs2) := same_new hls _ _ _ p4
  have r5 : upd H4 ls (.lst []) lr = some (.lst (ns.map V.str)) := same_new hls _ _ _ r4
  have h5 : upd H4 ls (.lst []) lh = some (.lst (ps.map V.int)) := same_new hls _ _ _ h4
  have s5 : upd H4 ls (.lst []) ls = some (.lst []) := upd_same
  generalize upd H4 ls (.lst []) = H5 at k5 p5 r5 h5 s5
  obtain ⟨a3, b3⟩ := a2.snoc (f := "said") (v := .ref ls) (by omega) (by show List.lookup _ [(("row" : Str), V.ref lr), (("held" : Str), V.ref lh)] = none; rw [lk_cons, if_neg (by decide +kernel), lk_cons, if_neg (by decide +kernel)]; rfl)
  refine ⟨_, rfl, p, T.c_Course, dx, fs2, rfl, p5, T.cl_Course, T.na_Course_said, Nat.lt_of_le_of_lt a2.len (by decide), ?_⟩
  generalize hf3 : putF "said" (.ref ls) fs2 = fs3 at a3 b3
  -- oil, used
  obtain ⟨a4, b4⟩ := a3.snoc (f := "oil") (v := .int oil) (by omega) (by show List.lookup _ [(("row" : Str), V.ref lr), (("held" : Str), V.ref lh), (("said" : Str), V.ref ls)] = none; rw [lk_cons, if_neg (by decide +kernel), lk_cons, if_neg (by decide +kernel), lk_cons, if_neg (by decide +kernel)]; rfl)
  refine ⟨_, rfl, _, rfl, p, T.c_Course, dx, fs3, rfl, upd_same, T.cl_Course, T.na_Course_oil, Nat.lt_of_le_of_lt a3.len (by decide), ?_⟩
  generalize hf4 : putF "oil" (.int oil) fs3 = fs4 at a4 b4
  obtain ⟨a5, b5⟩ := a4.snoc (f := "used") (v := .int 0) (by omega) (by show List.lookup _ [(("row" : Str), V.ref lr), (("held" : Str), V.ref lh), (("said" : Str), V.ref ls), (("oil" : Str), V.int oil)] = none; rw [lk_cons, if_neg (by decide +kernel), lk_cons, if_neg (by decide +kernel), lk_cons, if_neg (by decide +kernel), lk_cons, if_neg (by decide +kernel)]; rfl)
  refine ⟨_, rfl, p, T.c_Course, dx, fs4, rfl, upd_same, T.cl_Course, T.na_Course_used, Nat.lt_of_le_of_lt a4.len (by decide), ?_⟩
  generalize hf5 : putF "used" (.int 0) fs4 = fs5 at a5 b5
  rw [upd_upd, upd_upd]
  have k6 := k5.trans (kp_fld (H := H5) (.ins T.c_Course dx fs5))
  have p6 : upd H5 p (.ins T.c_Course dx fs5) p = some (.ins T.c_Course dx fs5) := upd_same
  have r6 : upd H5 p (.ins T.c_Course dx fs5) lr = some (.lst (ns.map V.str)) := by rw [upd_ne npl]; exact r5
  have h6 : upd H5 p (.ins T.c_Course dx fs5) lh = some (.lst (ps.map V.int)) := by rw [upd_ne nph]; exact h5
  have s6 : upd H5 p (.ins T.c_Course dx fs5) ls = some (.lst []) := by rw [upd_ne nps]; exact s5
  generalize upd H5 p (.ins T.c_Course dx fs5) = H6 at k6 p6 r6 h6 s6
  -- ahead
  refine ⟨Nat.zero_le _, fun la hla => ?_⟩
  have npa : la ≠ p := fun z => by rw [z, p6] at hla; cases hla
  have nra : lr ≠ la := ne_of_none r6 hla
  have nha : lh ≠ la := ne_of_none h6 hla
  have nsa : ls ≠ la := ne_of_none s6 hla
  have hla0 : H la = none := k6.free npa hla
  obtain ⟨a6, b6⟩ := a5.snoc (f := "ahead") (v := .ref la) (by omega) (by show List.lookup _ [(("row" : Str), V.ref lr), (("held" : Str), V.ref lh), (("said" : Str), V.ref ls), (("oil" : Str), V.int oil), (("used" : Str), V.int 0)] = none; rw [lk_cons, if_neg (by decide +kernel), lk_cons, if_neg (by decide +kernel), lk_cons, if_neg (by decide +kernel), lk_cons, if_neg (by decide +kernel), lk_cons, if_neg (by decide +kernel)]; rfl)
  refine ⟨_, rfl, p, T.c_Course, dx, fs5, rfl, (same_new hla _ _ _ p6), T.cl_Course, T.na_Course_ahead, Nat.lt_of_le_of_lt a5.len (by decide), ?_⟩
  generalize hf6 : putF "ahead" (.ref la) fs5 = fs6 at a6 b6
  have k7 := (k6.trans (kp_new (p := p) hla (.lst []))).trans (kp_fld (H := upd H6 la (.lst [])) (.ins T.c_Course dx fs6))
  have hM : CrsAt T.c_Course (upd (upd H6 la (.lst [])) p (.ins T.c_Course dx fs6)) ⟨p, lr, lh, ls, la⟩ ns ps [] oil 0 [] := by
    refine ⟨⟨dx, fs6, upd_same, a6⟩, ?_, ?_, ?_, ?_, ⟨nrh, nrs, nra, nhs, nha, nsa⟩⟩
    · rw [upd_ne npl]; exact same_new hla _ _ _ r6
    · rw [upd_ne nph]; exact same_new hla _ _ _ h6
    · rw [upd_ne nps]; exact same_new hla _ _ _ s6
    · rw [upd_ne npa]; exact upd_same
  generalize upd (upd H6 la (.lst [])) p (.ins T.c_Course dx fs6) = H7 at k7 hM
  obtain ⟨dx7, fs7, e7, hf7⟩ := hM.ob
  refine ⟨_, rfl, p, dx7, fs7, rfl, e7, (hf7.at_ _).trans (cfl_no (by decide +kernel)), _, rfl, _, _, _, _, rfl, rfl, SqT.of (k7 _ _ npr er), atI_nat (j := 1) rfl, ?_⟩
  refine ⟨⟨p, lr, lh, ls, la⟩, ns, ps, [], oil, 0, [], us, lb, rfl, hM, k7 _ _ npb eb, by show 0 + _ ≤ _; omega, fun H8 hM8 M8 => ?_⟩
  refine q lr lh ls la H8 hlr hlh0 hls0 hla0 hM8 fun b o nb e => ?_
  exact M8 b o nb (ne_of_none e hlr) (ne_of_none e hlh0) (ne_of_none e hls0) (ne_of_none e hla0) (k7 b o nb e)
end
section
variable {P : Program} {w : World} {K : PySem.W.Frag} {mg : Str → Option Value} {base : Heap}
/-! ### followed, or a stranger -/
def spFollowed (K : PySem.W.Frag) (C : Addr) (n : Nat) : Sp := fun vs H Q E => ∃ (r lb a lq : Addr) (us : List V) (ns : List Str) (b : Bk) (ps : List Int) (oil : Nat), vs = [.ref r, .ref lq, .int (oil : Int)] ∧ H r = some (.tup [.ref a, .ref lb]) ∧ H lb = some (.lst us) ∧ IsBk H noM us b ∧ b.dp ≤ n ∧ b.wel ∧ b.fit ∧ b.n ≤ 400 ∧
  H a = some (.lst (ns.map V.str)) ∧ ns.length ≤ 100 ∧ ns.length + n ≤ 400 ∧ H lq = some (.lst (ps.map V.int)) ∧ ps.length = ns.length ∧ oil ≤ 1000 ∧
  (b.str ns = [] → ∀ v H', Same H H' → Q v H') ∧ (b.str ns ≠ [] → ∀ H', Same H H' → E (.ref C) none H')
theorem ok_followed (T : Txt K mg) (n : Nat) : FnOk P w K mg base (CX1 P w) (n + 28) T.f_followed T.fd_followed ["program", "starts", "oil"] (spFollowed K T.er.cNoName n) := by
  have G_strangers := (ok_strangers (P := P) (w := w) (base := base) T n).mono (show n + 25 ≤ n + 27 by omega)
  have G_Course_init := (ok_Course_init (P := P) (w := w) (base := base) T).mono (show 2 ≤ n + 26 by omega)
  have G_Course_go := (ok_Course_go (P := P) (w := w) (base := base) T).mono (show 26 ≤ n + 27 by omega)
  refine T.followed.F.okX sc_followed (fun vs H Q E h => ?_) (fun cdv A outer s H vs Q E hr h => ?_)
  · obtain ⟨r, lb, a, lq, us, ns, b, ps, oil, rfl, _⟩ := h; rfl
  obtain ⟨r, lb, a, lq, us, ns, b, ps, oil, rfl, er, eb, hB, hd, hwl, hft, hbn, ea, hn, hnd, eq, hpl, ho, q, hE⟩ := h
  refine ⟨_, (pss_cons (ps_set (i := 3) sc_followed.nd rfl (Or.inl rfl) (pe_call G_strangers hr rfl T.strangers.m T.strangers.F.kp T.strangers.b .nil pass0 (pa_cons (pv 0) pa_nil)))
    (pss_cons (ps_if (pt_truth (pv 3) (by intro _; rfl)) (pss_cons (ps_set (i := 4) sc_followed.nd rfl (Or.inl rfl) (pe_ix ix_list (pv 3) pe_int (fun _ _ => rfl)))
    (pss_one (ps_raise cx_lands rfl rfl T.er.mNoName T.er.qNoName F.excBase_ValueError (by decide) F.excBase_ValueError (pa_cons (pe_fstr2 pe_str (pv 4)) pa_nil)))) pss_nil)
    (pss_cons (ps_set (i := 5) sc_followed.nd rfl (Or.inl rfl) (pe_make T.mk_Course G_Course_init hr rfl T.mg_Course T.Course_init.b .nil pass0 (pa_cons (pv 0) (pa_cons (pv 1) (pa_cons (pv 2) pa_nil)))))
    (pss_cons (ps_set (i := 6) sc_followed.nd rfl (Or.inl rfl) (pe_meth0 (pv 5) T.cl_Course T.me_Course_go G_Course_go hr T.Course_go.b .nil pass0))
    (pss_one (ps_ret (pe_tup (pa_cons (pv 6) (pa_cons (pe_fld (pv 5) rfl) (pa_cons (pe_slice sl_list (pe_fld (pv 5) rfl) po_none (po_some (pe_callB call_len_seq rfl T.b_len PySem.boot_len (pa_cons (pe_ix ix_tup (pv 0) pe_int (fun _ _ => rfl)) pa_nil)))) (pa_cons (pe_fld (pv 5) rfl) pa_nil))))))))))), ?_⟩
  have four : (4 : Nat) ≤ sizeLine := by decide
  have hsl := Bk.str_len ns hwl
  refine ⟨_, rfl, r, lb, a, us, ns, b, rfl, er, eb, hB, hd, hwl, by omega, ea, by omega, fun p1 H1 S1 f1 e1 => ?_⟩
  cases hst : b.str ns with
  | cons x xs =>
    rw [hst] at e1
    have hx := Bk.str_tx ns hft x (by rw [hst]; exact List.mem_cons_self ..)
    have hz : (PySem.Str.ofString "no jar is called ").length = 17 := by decide
    refine ⟨_, rfl, true, .inl ⟨_, SqL.of e1, rfl⟩, iteT' rfl ?_⟩
    refine ⟨_, rfl, _, _, _, _, rfl, rfl, SqL.of e1, at0, ?_⟩
    exact ⟨_, rfl, (by rw [hz]; decide), _, rfl, _, rfl, (by rw [sizeLine_eq]; omega), (by rw [Str.length_append, hz, sizeLine_eq]; omega), (by show 1 ≤ sizeLine; decide), hE (by rw [hst]; exact fun z => nomatch z) _ S1⟩
  | nil =>
  rw [hst] at e1
  have hl : b.lin ns := Bk.lin_of hwl (by omega) hst
  obtain ⟨m, f, hW, hE2⟩ := walks (ns0 := ns) oil (r := wis b) (ns := ns) (ps := ps) (s := []) (by have := sc_block (ns0 := ns) (w := []) hl .nil; rw [List.append_nil] at this; exact this) hpl
  refine ⟨_, rfl, false, .inl ⟨_, SqL.of e1, rfl⟩, iteF' rfl ?_⟩
  refine ⟨_, rfl, _, rfl, _, rfl, fun p dx hp hdx hne => ?_⟩
  have ndx : ∀ b o, H1 b = some o → b ≠ dx := fun b o e => ne_of_none e hdx
  have np : ∀ b o, H1 b = some o → b ≠ p := fun b o e => ne_of_none e hp
  have ho' : ∀ b o, H1 b = some o → upd (upd H1 dx (.own p)) p (.ins T.c_Course dx []) b = some o := fun b o e => by rw [upd_ne (np b o e), upd_ne (ndx b o e)]; exact e
  have hul := hB.len
  refine ⟨p, dx, r, a, lb, lq, ns, us, ps, _, rfl, upd_same, ho' _ _ (S1 _ _ er), ho' _ _ (S1 _ _ ea), ho' _ _ (S1 _ _ eb), ho' _ _ (S1 _ _ eq), by omega, fun lr lh ls la H2 hlr hlh hls hla hM keep => ⟨rfl, ?_⟩⟩
  have fr : ∀ b, upd (upd H1 dx (.own p)) p (.ins T.c_Course dx []) b = none → H b = none := fun b hb => by
    cases e : H b with
    | none => rfl
    | some o => rw [ho' _ _ (S1 _ _ e)] at hb; cases hb
  have S2 : Same H H2 := fun b o e => keep b o (np b o (S1 _ _ e)) (ho' b o (S1 _ _ e))
  have hN : CNew ⟨p, lr, lh, ls, la⟩ H := ⟨S1.free hp, fr _ hlr, fr _ hlh, fr _ hls, fr _ hla⟩
  obtain ⟨dx2, fs2, e2, hf2⟩ := hM.ob
  refine ⟨_, rfl, p, dx2, fs2, rfl, e2, (hf2.at_ _).trans (cfl_no (by decide +kernel)), ?_⟩
  refine ⟨⟨p, lr, lh, ls, la⟩, ns, ns, ps, [], oil, oil, m, us.reverse, wis b, H, f, rfl, Nat.le_refl _, by rw [Nat.sub_self]; exact hM, hN, S2, by rw [List.reverse_reverse]; exact wis_of (ods_of hB), WInv.start hl hbn hpl (by omega) ho, hW, fun H3 ns3 ws3 hM3 M3 hle => ?_⟩
  have S3 := hN.same S2 M3
  obtain ⟨dx3, fs3, e3, hf3⟩ := hM3.ob
  refine ⟨_, rfl, _, rfl, p, T.c_Course, dx3, fs3, _, rfl, e3, T.cl_Course, T.na_Course_said, (hf3.at_ _).trans (cfl_said ..), _, rfl, p, T.c_Course, dx3, fs3, _, rfl, e3, T.cl_Course, T.na_Course_held, (hf3.at_ _).trans (cfl_held ..), ?_⟩
  refine ⟨_, rfl, _, _, _, _, rfl, rfl, SqT.of (S3 _ _ er), at0, _, _, rfl, .inl (SqL.of (S3 _ _ ea)), ?_⟩
  rw [List.length_map]
  refine ⟨_, rfl, _, _, rfl, SqL.of hM3.eh, fun p4 hp4 => ?_⟩
  have S4 := same_new hp4 (.lst (cutV (f.pots.map V.int) none (some (ns.length : Int))))
  have hM4 := hM3.same S4
  generalize upd H3 p4 (.lst (cutV (f.pots.map V.int) none (some (ns.length : Int)))) = H4 at S4 hM4
  obtain ⟨dx4, fs4, e5, hf4⟩ := hM4.ob
  refine ⟨_, rfl, p, T.c_Course, dx4, fs4, _, rfl, e5, T.cl_Course, T.na_Course_used, (hf4.at_ _).trans (cfl_used ..), four, fun p6 hp6 => ?_⟩
  exact q hst _ _ (S3.trans (S4.trans (same_new hp6 _)))
end
end W05

set_option Elab.async false
set_option linter.all false
set_option maxRecDepth 100000
set_option maxHeartbeats 4000000
namespace W05
open PySem L2 J
section
variable {P : Program} {w : World} {K : PySem.W.Frag} {mg : Str → Option Value} {base : Heap}
/-! ### _law_whole, _law_at -/
def spWhole (K : PySem.W.Frag) : Sp := fun vs H Q _ => ∃ i : Int, vs = [.int i] ∧ Q (.bl true) H
theorem ok_law_whole (T : Txt K mg) : FnOk P w K mg base CX0 1 T.f_law_whole T.fd_law_whole ["_law_found"] (spWhole K) := by
  refine T.law_whole.F.ok sc_law_whole (fun vs H Q E h => ?_) (fun cdv A outer s H vs Q E hr h => ?_)
  · obtain ⟨i, rfl, _⟩ := h; rfl
  obtain ⟨i, rfl, q⟩ := h
  refine ⟨_, (pss_one (ps_ret (pe_and (pe_callB call_isiP rfl T.b_isinstance bt_isinstance (pa_cons (pv 0) (pa_cons (pe_bltn (v := .ty "int") rfl T.b_int bt_int rfl) pa_nil))) (pe_one (pe_not (pe_callB call_isiP rfl T.b_isinstance bt_isinstance (pa_cons (pv 0) (pa_cons (pe_bltn (v := .ty "bool") rfl T.b_bool bt_bool rfl) pa_nil)))))))), ?_⟩
  refine ⟨_, rfl, _, _, _, _, rfl, .inl (.int i), (by decide +kernel : isT "int" "int" = some true), _, rfl, iteT' rfl ?_⟩
  exact ⟨_, rfl, _, _, _, _, rfl, .inl (.int i), (by decide +kernel : isT "int" "bool" = some false), _, rfl, q⟩
end
section
variable {P : Program} {w : World} {K : PySem.W.Frag} {mg : Str → Option Value} {base : Heap}
def spAt (K : PySem.W.Frag) : Sp := fun vs H Q _ => ∃ (a : Addr) (ns : List Int) (k : Nat), vs = [.ref a, .int k] ∧ SqL K H a (ns.map V.int) ∧ ns.length ≤ 63 ∧ Q (.int (ns.getD k 0)) H
theorem ok_law_at (T : Txt K mg) : FnOk P w K mg base CX0 1 T.f_law_at T.fd_law_at ["_law_script", "_law_k"] (spAt K) := by
  refine T.law_at.F.ok sc_law_at (fun vs H Q E h => ?_) (fun cdv A outer s H vs Q E hr h => ?_)
  · obtain ⟨a, ns, k, rfl, _⟩ := h; rfl
  obtain ⟨a, ns, k, rfl, hS, hn, q⟩ := h
  refine ⟨_, (pss_cons (ps_if (pt_cmpR op_lt (pv 1) (pe_callB call_len_seq rfl T.b_len PySem.boot_len (pa_cons (pv 0) pa_nil)) (nomark _)) (pss_one (ps_ret (pe_ix ix_list (pv 0) (pv 1) (fun _ _ => rfl)))) pss_nil)
    (pss_one (ps_ret pe_int))), ?_⟩
  have hl : (ns.map V.int).length = ns.length := List.length_map _
  refine ⟨_, rfl, _, rfl, a, _, rfl, .inl hS, _, _, rfl, rfl, _, rfl, ?_⟩
  refine ite2 (fun c => ?_) (fun c => ?_)
  · have c' : (k : Int) < ((ns.map V.int).length : Int) := of_decide_eq_true c
    rw [hl] at c'
    have hk : k < ns.length := by omega
    refine ⟨_, rfl, _, rfl, _, _, _, _, rfl, rfl, hS, atI_nat (by rw [List.getElem?_map, List.getElem?_eq_getElem hk]; rfl), ?_⟩
    rw [List.getD_eq_getElem?_getD, List.getElem?_eq_getElem hk] at q
    exact q
  · have c' : ¬ (k : Int) < ((ns.map V.int).length : Int) := of_decide_eq_false (Bool.eq_false_iff.mpr c)
    rw [hl] at c'
    rw [List.getD_eq_getElem?_getD, List.getElem?_eq_none (by omega)] at q
    exact q
end
section
variable {P : Program} {w : World} {K : PySem.W.Frag} {mg : Str → Option Value} {base : Heap}
/-! ### _law_draw, _law_leaf, _law_sum_of, _law_test_of, _law_head_of -/
def spDraw : Sp := fun vs H Q _ => ∃ (n p m : Int), vs = [.int n, .int p, .int m] ∧ 0 < p ∧ 0 < m ∧ Q (.int (drw n p m)) H
theorem ok_law_draw (T : Txt K mg) : FnOk P w K mg base CX0 1 T.f_law_draw T.fd_law_draw ["_law_number", "_law_prime", "_law_many"] spDraw := by
  refine T.law_draw.F.ok sc_law_draw (fun vs H Q E h => ?_) (fun cdv A outer s H vs Q E hr h => ?_)
  · obtain ⟨n, p, m, rfl, _⟩ := h; rfl
  obtain ⟨n, p, m, rfl, hp, hm, q⟩ := h
  refine ⟨_, (pss_one (ps_ret (pe_op op_mod (pe_op op_mod (pe_op op_mulB (pv 0) pe_int) (pv 1)) (pv 2)))), ?_⟩
  exact ⟨_, rfl, _, _, rfl, rfl, mul_smallR rfl, _, rfl, _, _, rfl, rfl, hp, _, rfl, _, _, rfl, rfl, hm, q⟩
def spLeaf (K : PySem.W.Frag) : Sp := fun vs H Q _ => ∃ (salt p1 p2 : Int) (a : Addr) (sc : List Str), vs = [.int salt, .int p1, .int p2, .ref a] ∧ SqL K H a (sc.map V.str) ∧ 0 < p1 ∧ 0 < p2 ∧
  ∀ u H', Same H H' → IsSum H' u (leafF salt p1 p2 sc) → Q u H'
theorem ok_law_leaf (T : Txt K mg) : FnOk P w K mg base CX0 2 T.f_law_leaf T.fd_law_leaf ["_law_salt", "_law_prime", "_law_second", "_law_scope"] (spLeaf K) := by
  have G_law_draw := ok_law_draw (P := P) (w := w) (base := base) T
  refine T.law_leaf.F.ok sc_law_leaf (fun vs H Q E h => ?_) (fun cdv A outer s H vs Q E hr h => ?_)
  · obtain ⟨salt, p1, p2, a, sc, rfl, _⟩ := h; rfl
  obtain ⟨salt, p1, p2, a, sc, rfl, hS, h1, h2, q⟩ := h
  refine ⟨_, (pss_cons (ps_set (i := 4) sc_law_leaf.nd rfl (Or.inl rfl) (pe_call G_law_draw hr rfl T.law_draw.m T.law_draw.F.kp T.law_draw.b .nil pass0 (pa_cons (pv 0) (pa_cons (pv 1) (pa_cons (pe_op op_add (pe_callB call_len_seq rfl T.b_len PySem.boot_len (pa_cons (pv 3) pa_nil)) pe_int) pa_nil)))))
    (pss_cons (ps_if (pt_cmpR op_lt (pv 4) (pe_callB call_len_seq rfl T.b_len PySem.boot_len (pa_cons (pv 3) pa_nil)) (nomark _)) (pss_one (ps_ret (pe_tup (pa_cons pe_str (pa_cons (pe_ix ix_list (pv 3) (pv 4) (fun _ _ => rfl)) pa_nil))))) pss_nil)
    (pss_cons (ps_set (i := 5) sc_law_leaf.nd rfl (Or.inl rfl) (pe_op op_sub (pe_call G_law_draw hr rfl T.law_draw.m T.law_draw.F.kp T.law_draw.b .nil pass0 (pa_cons (pv 0) (pa_cons (pv 2) (pa_cons pe_int pa_nil)))) pe_int))
    (pss_consM (ps_if (pt_cmpR op_eq (pv 5) pe_int (nomark _)) (pss_one (ps_set (i := 5) sc_law_leaf.nd rfl (Or.inl rfl) (pe_op op_add (pe_op op_pow pe_int pe_int) pe_int))) pss_nil)
    (pss_consM (ps_if (pt_cmpR op_eq (pv 5) pe_int (nomark _)) (pss_one (ps_set (i := 5) sc_law_leaf.nd rfl (Or.inl rfl) (pe_op op_sub (pe_op op_mod (pe_op op_mulB (pv 0) pe_int) (pe_op op_pow pe_int pe_int)) (pe_op op_mulB pe_int (pe_op op_pow pe_int pe_int))))) pss_nil)
    (pss_one (ps_ret (pe_tup (pa_cons pe_str (pa_cons (pv 5) pa_nil)))))))))), ?_⟩
  have eqi : ∀ {x y : Int}, decide (V.int x = V.int y) = true → x = y := fun c => by injection (of_decide_eq_true c)
  have nqi : ∀ {x y : Int}, ¬ decide (V.int x = V.int y) = true → ¬ x = y := fun c z => c (decide_eq_true (by rw [z]))
  have two : (2 : Nat) ≤ sizeLine := by decide
  have hl : (sc.map V.str).length = sc.length := List.length_map _
  have hm : (0 : Int) < ((sc.map V.str).length : Int) + 2 := by omega
  refine ⟨_, rfl, _, rfl, _, rfl, a, _, rfl, .inl hS, _, _, rfl, rfl, salt, p1, _, rfl, h1, hm, ?_⟩
  have d0 := drw_lo (n := salt) (p := p1) hm
  rw [hl] at d0 ⊢
  refine ⟨_, rfl, _, rfl, _, _, rfl, .inl hS, _, _, rfl, rfl, _, rfl, ?_⟩
  rw [hl]
  refine ite2 (fun c => ?_) (fun c => ?_)
  · have c1 : drw salt p1 ((sc.length : Int) + 2) < (sc.length : Int) := of_decide_eq_true c
    refine ⟨_, rfl, _, rfl, _, _, _, _, rfl, rfl, hS, atI_str d0 c1, two, fun p hp => ?_⟩
    refine q _ _ (same_new hp _) ?_
    have e : leafF salt p1 p2 sc = .name ((sc[(drw salt p1 ((sc.length : Int) + 2)).toNat]?).getD "") := if_pos c1
    rw [e]
    exact .name upd_same
  · have c1 : ¬ drw salt p1 ((sc.length : Int) + 2) < (sc.length : Int) := of_decide_eq_false (Bool.eq_false_iff.mpr c)
    have e : leafF salt p1 p2 sc = .num (leafN salt p2) := if_neg c1
    rw [e] at q
    refine ⟨_, rfl, _, rfl, salt, p2, 13, rfl, h2, by decide, _, _, rfl, rfl, ?_⟩
    refine ⟨fun σ' H' => σ' = [some (.int salt), some (.int p1), some (.int p2), some (.ref a), some (.int (drw salt p1 ((sc.length : Int) + 2))), some (.int (if drw salt p2 13 - 3 = 9 then 10 ^ 30 + 7 else drw salt p2 13 - 3))] ∧ H' = H, ?_, ?_⟩
    · refine ⟨_, rfl, rfl, _, rfl, ?_⟩
      refine ite2 (fun c => ?_) (fun c => ?_)
      · have c2 : drw salt p2 13 - 3 = 9 := eqi c
        refine ⟨_, _, rfl, rfl, ⟨by decide, by decide, by decide⟩, _, _, rfl, rfl, ?_, rfl⟩
        rw [if_pos c2]
        rfl
      · have c2 : ¬ drw salt p2 13 - 3 = 9 := nqi c
        rw [if_neg c2]
        exact ⟨rfl, rfl⟩
    · rintro σ' H' ⟨rfl, rfl⟩
      have fin : ∀ (m : Int), m = leafN salt p2 → ∀ p, H' p = none → Q (.ref p) (upd H' p (.tup [.str "num", .int m])) := fun m em p hp => by
        subst em
        exact q _ _ (same_new hp _) (.num upd_same)
      have eN : leafN salt p2 = if drw salt p2 13 - 3 = 9 then 10 ^ 30 + 7 else if drw salt p2 13 - 3 = 8 then salt * 48271 % 10 ^ 30 - 5 * 10 ^ 29 else drw salt p2 13 - 3 := rfl
      refine ⟨fun σ' H'' => σ' = [some (.int salt), some (.int p1), some (.int p2), some (.ref a), some (.int (drw salt p1 ((sc.length : Int) + 2))), some (.int (leafN salt p2))] ∧ H'' = H', ?_, ?_⟩
      · refine ⟨_, rfl, rfl, _, rfl, ?_⟩
        refine ite2 (fun c => ?_) (fun c => ?_)
        · have c2 : (if drw salt p2 13 - 3 = 9 then 10 ^ 30 + 7 else drw salt p2 13 - 3) = 8 := eqi c
          have c3 : drw salt p2 13 - 3 = 8 := by
            by_cases z : drw salt p2 13 - 3 = 9
            · rw [if_pos z] at c2
              exact absurd c2 (by decide)
            · rw [if_neg z] at c2
              exact c2
          refine ⟨_, rfl, _, _, rfl, rfl, mul_smallR rfl, _, _, rfl, rfl, ⟨by decide, by decide, by decide⟩, _, _, rfl, rfl, (by show (0 : Int) < 10 ^ 30; decide), _, _, rfl, rfl, ⟨by decide, by decide, by decide⟩, _, _, rfl, rfl, mul_small rfl, _, _, rfl, rfl, ?_, rfl⟩
          have eN' : leafN salt p2 = salt * 48271 % 10 ^ 30 - 5 * 10 ^ 29 := by rw [eN, if_neg (by omega), if_pos c3]
          rw [eN']
          rfl
        · have c2 : ¬ (if drw salt p2 13 - 3 = 9 then 10 ^ 30 + 7 else drw salt p2 13 - 3) = 8 := nqi c
          refine ⟨?_, rfl⟩
          rw [eN]
          by_cases z : drw salt p2 13 - 3 = 9
          · rw [if_pos z, if_pos z]
          · rw [if_neg z] at c2
            rw [if_neg z, if_neg z, if_neg c2]
      · rintro σ' H'' ⟨rfl, rfl⟩
        exact ⟨_, rfl, two, fun p hp => fin _ rfl p hp⟩
end
end W05

set_option Elab.async false
set_option linter.all false
set_option maxRecDepth 100000
set_option maxHeartbeats 4000000
namespace W05
open PySem L2 J
section
variable {P : Program} {w : World} {K : PySem.W.Frag} {mg : Str → Option Value} {base : Heap}
def spSumOf (K : PySem.W.Frag) : Sp := fun vs H Q _ => ∃ (salt : Int) (a : Addr) (sc : List Str), vs = [.int salt, .ref a] ∧ SqL K H a (sc.map V.str) ∧ ∀ u H', Same H H' → IsSum H' u (sumF salt sc) → Q u H'
def PTurn (H : Hp) (salt way less : Int) (a : Addr) (u2 : V) (one : Sm Str) (k : Nat) (σ : St) (H' : Hp) : Prop :=
  ∃ u o, σ = [some (.int salt), some (.ref a), some (.int way), some (.int less), some u, some u2, o, none] ∧ Same H H' ∧ IsSum H' u (turned one less k)
theorem ok_law_sum_of (T : Txt K mg) : FnOk P w K mg base CX0 3 T.f_law_sum_of T.fd_law_sum_of ["_law_salt", "_law_scope"] (spSumOf K) := by
  have G_law_draw := (ok_law_draw (P := P) (w := w) (base := base) T).mono (show 1 ≤ 2 by omega)
  have G_law_leaf := ok_law_leaf (P := P) (w := w) (base := base) T
  refine T.law_sum_of.F.ok sc_law_sum_of (fun vs H Q E h => ?_) (fun cdv A outer s H vs Q E hr h => ?_)
  · obtain ⟨salt, a, sc, rfl, _⟩ := h; rfl
  obtain ⟨salt, a, sc, rfl, hS, q⟩ := h
  refine ⟨_, (pss_cons (ps_set (i := 2) sc_law_sum_of.nd rfl (Or.inl rfl) (pe_call G_law_draw hr rfl T.law_draw.m T.law_draw.F.kp T.law_draw.b .nil pass0 (pa_cons (pv 0) (pa_cons pe_int (pa_cons pe_int pa_nil)))))
    (pss_cons (ps_set (i := 3) sc_law_sum_of.nd rfl (Or.inl rfl) (pe_call G_law_draw hr rfl T.law_draw.m T.law_draw.F.kp T.law_draw.b .nil pass0 (pa_cons (pv 0) (pa_cons pe_int (pa_cons pe_int pa_nil)))))
    (pss_cons (ps_set (i := 4) sc_law_sum_of.nd rfl (Or.inl rfl) (pe_call G_law_leaf hr rfl T.law_leaf.m T.law_leaf.F.kp T.law_leaf.b .nil pass0 (pa_cons (pv 0) (pa_cons pe_int (pa_cons pe_int (pa_cons (pv 1) pa_nil))))))
    (pss_cons (ps_set (i := 5) sc_law_sum_of.nd rfl (Or.inl rfl) (pe_call G_law_leaf hr rfl T.law_leaf.m T.law_leaf.F.kp T.law_leaf.b .nil pass0 (pa_cons (pv 0) (pa_cons pe_int (pa_cons pe_int (pa_cons (pv 1) pa_nil))))))
    (pss_cons (ps_if (pt_cmpR op_lt (pv 2) pe_int (nomark _)) (pss_one (ps_ret (pv 4))) pss_nil)
    (pss_cons (ps_if (pt_cmpR op_eq (pv 2) pe_int (nomark _)) (pss_one (ps_ret (pe_tup (pa_cons pe_str (pa_cons (pv 4) (pa_cons (pv 5) pa_nil)))))) pss_nil)
    (pss_cons (ps_if (pt_cmpR op_eq (pv 2) pe_int (nomark _)) (pss_one (ps_ret (pe_tup (pa_cons pe_str (pa_cons (pv 4) (pa_cons (pv 5) pa_nil)))))) pss_nil)
    (pss_cons (ps_if (pt_cmpR op_eq (pv 2) pe_int (nomark _)) (pss_one (ps_ret (pe_tup (pa_cons pe_str (pa_cons (pv 4) (pa_cons (pe_tup (pa_cons pe_str (pa_cons (pe_op op_sub (pv 3) pe_int) pa_nil))) pa_nil)))))) pss_nil)
    (pss_cons (ps_if (pt_cmpR op_eq (pv 2) pe_int (nomark _)) (pss_cons (ps_for PassesOwn.never rfl (pi_range1 rfl T.b_range (pa_cons (pe_op op_add (pv 3) pe_int) pa_nil)) (pg_name (i := 6) sc_law_sum_of.nd rfl (Or.inl rfl)) (pss_one (ps_set (i := 4) sc_law_sum_of.nd rfl (Or.inl rfl) (pe_tup (pa_cons (pe_ix ix_list (pe_lst (pa_cons pe_str (pa_cons pe_str pa_nil))) (pe_op op_mod (pv 6) pe_int) (fun _ _ => rfl)) (pa_cons (pv 4) (pa_cons (pe_tup (pa_cons pe_str (pa_cons (pv 3) pa_nil))) pa_nil)))))))
    (pss_one (ps_ret (pv 4)))) pss_nil)
    (pss_cons (ps_if (pt_cmpR op_eq (pv 2) pe_int (nomark _)) (pss_cons (ps_set (i := 7) sc_law_sum_of.nd rfl (Or.inl rfl) (pe_tup (pa_cons pe_str (pa_cons (pe_tup (pa_cons pe_str (pa_cons (pe_tup (pa_cons pe_str (pa_cons (pv 3) pa_nil))) (pa_cons (pe_tup (pa_cons pe_str (pa_cons (pv 5) (pa_cons (pv 4) pa_nil)))) pa_nil)))) (pa_cons (pv 5) pa_nil)))))
    (pss_one (ps_ret (pe_tup (pa_cons pe_str (pa_cons (pv 7) (pa_cons (pe_tup (pa_cons pe_str (pa_cons (pv 4) (pa_cons (pe_tup (pa_cons pe_str (pa_cons (pv 3) pa_nil))) pa_nil)))) pa_nil))))))) pss_nil)
    (pss_one (ps_ret (pe_tup (pa_cons pe_str (pa_cons (pe_tup (pa_cons pe_str (pa_cons (pv 4) (pa_cons (pv 5) pa_nil)))) (pa_cons (pe_tup (pa_cons pe_str (pa_cons (pe_tup (pa_cons pe_str (pa_cons (pv 3) pa_nil))) (pa_cons (pv 5) pa_nil)))) pa_nil)))))))))))))))), ?_⟩
  have two : (2 : Nat) ≤ sizeLine := by decide
  have three : (3 : Nat) ≤ sizeLine := by decide
  refine ⟨_, rfl, salt, 1051, 8, rfl, by decide, by decide, ?_⟩
  refine ⟨_, rfl, salt, 1061, 4, rfl, by decide, by decide, ?_⟩
  have w0 := drw_lo (n := salt) (p := 1051) (show (0 : Int) < 8 by decide)
  have w8 := drw_hi (n := salt) (p := 1051) (show (0 : Int) < 8 by decide)
  have l0 := drw_lo (n := salt) (p := 1061) (show (0 : Int) < 4 by decide)
  have l4 := drw_hi (n := salt) (p := 1061) (show (0 : Int) < 4 by decide)
  refine ⟨_, rfl, _, rfl, salt, 1009, 1013, a, sc, rfl, hS, by decide, by decide, fun u1 H1 S1 h1 => ?_⟩
  refine ⟨_, rfl, _, rfl, salt, 1019, 1021, a, sc, rfl, S1.seq hS, by decide, by decide, fun u2 H2 S2 h2 => ?_⟩
  have eF : sumF salt sc = (if drw salt 1051 8 < 2 then leafF salt 1009 1013 sc else if drw salt 1051 8 = 2 then .op .add (leafF salt 1009 1013 sc) (leafF salt 1019 1021 sc) else if drw salt 1051 8 = 3 then .op .sub (leafF salt 1009 1013 sc) (leafF salt 1019 1021 sc)
    else if drw salt 1051 8 = 4 then .op .mul (leafF salt 1009 1013 sc) (.num (drw salt 1061 4 - 1)) else if drw salt 1051 8 = 7 then turned (leafF salt 1009 1013 sc) (drw salt 1061 4) (drw salt 1061 4 + 3).toNat
    else if drw salt 1051 8 = 6 then .op .sub (.op .add (.op .mul (.num (drw salt 1061 4)) (.op .sub (leafF salt 1019 1021 sc) (leafF salt 1009 1013 sc))) (leafF salt 1019 1021 sc)) (.op .sub (leafF salt 1009 1013 sc) (.num (drw salt 1061 4)))
    else .op .sub (.op .add (leafF salt 1009 1013 sc) (leafF salt 1019 1021 sc)) (.op .mul (.num (drw salt 1061 4)) (leafF salt 1019 1021 sc))) := rfl
  rw [eF] at q
  have hu1 := h1.mono S2.tup
  have SH := S1.trans S2
  generalize drw salt 1051 8 = way at q w0 w8
  generalize drw salt 1061 4 = less at q l0 l4
  generalize leafF salt 1009 1013 sc = one at q hu1 h1
  generalize leafF salt 1019 1021 sc = tw at q h2
  have eqi : ∀ {x y : Int}, decide (V.int x = V.int y) = true → x = y := fun c => by injection (of_decide_eq_true c)
  have nqi : ∀ {x y : Int}, ¬ decide (V.int x = V.int y) = true → ¬ x = y := fun c z => c (decide_eq_true (by rw [z]))
  refine ⟨_, rfl, _, _, rfl, rfl, _, rfl, ?_⟩
  refine ite2 (fun c => ?_) (fun c => ?_)
  · have c1 : way < 2 := of_decide_eq_true c
    rw [if_pos c1] at q
    exact ⟨_, rfl, q _ _ SH hu1⟩
  have c1 : ¬ way < 2 := of_decide_eq_false (Bool.eq_false_iff.mpr c)
  rw [if_neg c1] at q
  refine ⟨_, rfl, rfl, _, rfl, ?_⟩
  refine ite2 (fun c => ?_) (fun c => ?_)
  · rw [if_pos (eqi c)] at q
    refine ⟨_, rfl, _, rfl, three, fun p hp => q _ _ (SH.trans (same_new hp _)) (.op (o := .add) upd_same (hu1.mono (same_new hp _).tup) (h2.mono (same_new hp _).tup))⟩
  rw [if_neg (nqi c)] at q
  refine ⟨_, rfl, rfl, _, rfl, ?_⟩
  refine ite2 (fun c => ?_) (fun c => ?_)
  · rw [if_pos (eqi c)] at q
    refine ⟨_, rfl, _, rfl, three, fun p hp => q _ _ (SH.trans (same_new hp _)) (.op (o := .sub) upd_same (hu1.mono (same_new hp _).tup) (h2.mono (same_new hp _).tup))⟩
  rw [if_neg (nqi c)] at q
  refine ⟨_, rfl, rfl, _, rfl, ?_⟩
  refine ite2 (fun c => ?_) (fun c => ?_)
  · rw [if_pos (eqi c)] at q
    refine ⟨_, rfl, _, rfl, _, _, rfl, rfl, two, fun p1 hp1 => ⟨three, fun p hp => ?_⟩⟩
    have Sa := same_new hp1 (.tup [.str "num", .int (less - 1)])
    have Sb := Sa.trans (same_new hp (.tup [.str "mul", u1, .ref p1]))
    exact q _ _ (SH.trans Sb) (.op (o := .mul) upd_same (hu1.mono Sb.tup) (.num (same_new hp _ _ _ upd_same)))
  rw [if_neg (nqi c)] at q
  refine ⟨_, rfl, rfl, _, rfl, ?_⟩
  refine ite2 (fun c => ?_) (fun c => ?_)
  · rw [if_pos (eqi c)] at q
    have hq : ((less + 3 : Int)).toNat = (less + 3).toNat := rfl
    refine ⟨_, rfl, _, _, rfl, rfl, _, rfl, by omega, by omega, ?_⟩
    refine for_range (PTurn H2 salt way less a u2 one) ⟨u1, none, rfl, fun _ _ z => z, hu1⟩ ?_ ?_
    · rintro k σ H' hk ⟨u, o, rfl, S, hu⟩
      have hat : atI [V.str "add", V.str "sub"] ((0 + (k : Int)) % 2) = some (.str (if k % 2 = 0 then O3.add else O3.sub).w) := by
        have h2' : k % 2 = 0 ∨ k % 2 = 1 := by omega
        rcases h2' with z | z
        · rw [if_pos z, show ((0 + (k : Int)) % 2) = 0 by omega]; rfl
        · rw [if_neg (by omega), show ((0 + (k : Int)) % 2) = 1 by omega]; rfl
      refine ⟨two, fun l hl => ⟨_, rfl, _, _, rfl, rfl, (by show (0 : Int) < _; decide), _, _, _, _, rfl, rfl, SqL.of upd_same, hat, _, rfl, _, rfl, two, fun p1 hp1 => ⟨three, fun p hp => ?_⟩⟩⟩
      have Sa := same_new hl (.lst [V.str "add", V.str "sub"])
      have Sb := Sa.trans (same_new hp1 (.tup [.str "num", .int less]))
      have Sc := same_new hp (.tup [.str (if k % 2 = 0 then O3.add else O3.sub).w, u, .ref p1])
      exact ⟨_, _, rfl, S.trans (Sb.trans Sc), .op upd_same (hu.mono (Sb.trans Sc).tup) (.num (Sc _ _ upd_same))⟩
    · rintro σ H' ⟨u, o, rfl, S, hu⟩
      exact ⟨_, rfl, q _ _ (SH.trans S) hu⟩
  rw [if_neg (nqi c)] at q
  refine ⟨_, rfl, rfl, _, rfl, ?_⟩
  refine ite2 (fun c => ?_) (fun c => ?_)
  · rw [if_pos (eqi c)] at q
    refine ⟨_, rfl, two, fun p1 hp1 => ⟨_, rfl, _, rfl, three, fun p2 hp2 => ⟨three, fun p3 hp3 => ⟨_, rfl, three, fun p4 hp4 => ?_⟩⟩⟩⟩
    have S3 := same_new hp1 (.tup [.str "num", .int less])
    have S4 := same_new hp2 (.tup [.str "sub", u2, u1])
    have S5 := same_new hp3 (.tup [.str "mul", .ref p1, .ref p2])
    have S6 := same_new hp4 (.tup [.str "add", .ref p3, u2])
    have S46 := S4.trans (S5.trans S6)
    have S36 := S3.trans S46
    have d : IsSum (upd (upd (upd (upd H2 p1 (.tup [.str "num", .int less])) p2 (.tup [.str "sub", u2, u1])) p3 (.tup [.str "mul", .ref p1, .ref p2])) p4 (.tup [.str "add", .ref p3, u2])) (.ref p4) (.op .add (.op .mul (.num less) (.op .sub tw one)) tw) :=
      .op upd_same (.op (o := .mul) (S6 _ _ upd_same) (.num (S46 _ _ upd_same)) (.op (o := .sub) ((S5.trans S6) _ _ upd_same) (h2.mono S36.tup) (hu1.mono S36.tup))) (h2.mono S36.tup)
    generalize upd (upd (upd (upd H2 p1 (.tup [.str "num", .int less])) p2 (.tup [.str "sub", u2, u1])) p3 (.tup [.str "mul", .ref p1, .ref p2])) p4 (.tup [.str "add", .ref p3, u2]) = H6 at S36 d
    refine ⟨_, rfl, _, rfl, _, rfl, two, fun p5 hp5 => ⟨three, fun p6 hp6 => ⟨three, fun p7 hp7 => ?_⟩⟩⟩
    have S7 := same_new hp5 (.tup [.str "num", .int less])
    have S8 := same_new hp6 (.tup [.str "sub", u1, .ref p5])
    have S9 := same_new hp7 (.tup [.str "sub", .ref p4, .ref p6])
    have S79 := S7.trans (S8.trans S9)
    exact q _ _ (SH.trans (S36.trans S79)) (.op (o := .sub) upd_same (d.mono S79.tup) (.op (o := .sub) (S9 _ _ upd_same) (hu1.mono (S36.trans S79).tup) (.num ((S8.trans S9) _ _ upd_same))))
  rw [if_neg (nqi c)] at q
  refine ⟨_, rfl, _, rfl, three, fun p1 hp1 => ⟨_, rfl, two, fun p2 hp2 => ⟨_, rfl, three, fun p3 hp3 => ⟨three, fun p4 hp4 => ?_⟩⟩⟩⟩
  have S3 := same_new hp1 (.tup [.str "add", u1, u2])
  have S4 := same_new hp2 (.tup [.str "num", .int less])
  have S5 := same_new hp3 (.tup [.str "mul", .ref p2, u2])
  have S6 := same_new hp4 (.tup [.str "sub", .ref p1, .ref p3])
  have S46 := S4.trans (S5.trans S6)
  have S36 := S3.trans S46
  exact q _ _ (SH.trans S36) (.op (o := .sub) upd_same (.op (o := .add) (S46 _ _ upd_same) (hu1.mono S36.tup) (h2.mono S36.tup)) (.op (o := .mul) (S6 _ _ upd_same) (.num ((S5.trans S6) _ _ upd_same)) (h2.mono S36.tup)))
end
end W05

set_option Elab.async false
set_option linter.all false
set_option maxRecDepth 100000
set_option maxHeartbeats 4000000
namespace W05
open PySem L2 J
section
variable {P : Program} {w : World} {K : PySem.W.Frag} {mg : Str → Option Value} {base : Heap}
def spTestOf (K : PySem.W.Frag) : Sp := fun vs H Q _ => ∃ (salt : Int) (a : Addr) (sc : List Str), vs = [.int salt, .ref a] ∧ SqL K H a (sc.map V.str) ∧ ∀ u H', Same H H' → IsTest H' u (testF salt sc) → Q u H'
theorem ok_law_test_of (T : Txt K mg) : FnOk P w K mg base CX0 4 T.f_law_test_of T.fd_law_test_of ["_law_salt", "_law_scope"] (spTestOf K) := by
  have G_law_draw := (ok_law_draw (P := P) (w := w) (base := base) T).mono (show 1 ≤ 3 by omega)
  have G_law_leaf := (ok_law_leaf (P := P) (w := w) (base := base) T).mono (show 2 ≤ 3 by omega)
  have G_law_sum_of := ok_law_sum_of (P := P) (w := w) (base := base) T
  refine T.law_test_of.F.ok sc_law_test_of (fun vs H Q E h => ?_) (fun cdv A outer s H vs Q E hr h => ?_)
  · obtain ⟨salt, a, sc, rfl, _⟩ := h; rfl
  obtain ⟨salt, a, sc, rfl, hS, q⟩ := h
  refine ⟨_, (pss_cons (ps_set (i := 2) sc_law_test_of.nd rfl (Or.inl rfl) (pe_call G_law_draw hr rfl T.law_draw.m T.law_draw.F.kp T.law_draw.b .nil pass0 (pa_cons (pv 0) (pa_cons pe_int (pa_cons pe_int pa_nil)))))
    (pss_cons (ps_set (i := 3) sc_law_test_of.nd rfl (Or.inl rfl) (pe_call G_law_leaf hr rfl T.law_leaf.m T.law_leaf.F.kp T.law_leaf.b .nil pass0 (pa_cons (pv 0) (pa_cons pe_int (pa_cons pe_int (pa_cons (pv 1) pa_nil))))))
    (pss_consM (ps_if (pt_cmpR op_eq (pe_call G_law_draw hr rfl T.law_draw.m T.law_draw.F.kp T.law_draw.b .nil pass0 (pa_cons (pv 0) (pa_cons pe_int (pa_cons pe_int pa_nil)))) pe_int (nomark _)) (pss_one (ps_set (i := 3) sc_law_test_of.nd rfl (Or.inl rfl) (pe_call G_law_sum_of hr rfl T.law_sum_of.m T.law_sum_of.F.kp T.law_sum_of.b .nil pass0 (pa_cons (pv 0) (pa_cons (pv 1) pa_nil))))) pss_nil)
    (pss_cons (ps_set (i := 4) sc_law_test_of.nd rfl (Or.inl rfl) (pe_tup (pa_cons pe_str (pa_cons (pv 3) (pa_cons (pe_tup (pa_cons pe_str (pa_cons (pe_op op_sub (pe_call G_law_draw hr rfl T.law_draw.m T.law_draw.F.kp T.law_draw.b .nil pass0 (pa_cons (pv 0) (pa_cons pe_int (pa_cons pe_int pa_nil)))) pe_int) pa_nil))) pa_nil)))))
    (pss_cons (ps_if (pt_cmpR op_eq (pv 2) pe_int (nomark _)) (pss_one (ps_ret (pe_tup (pa_cons pe_str (pa_cons (pv 3) (pa_cons (pe_call G_law_leaf hr rfl T.law_leaf.m T.law_leaf.F.kp T.law_leaf.b .nil pass0 (pa_cons (pv 0) (pa_cons pe_int (pa_cons pe_int (pa_cons (pv 1) pa_nil))))) pa_nil)))))) pss_nil)
    (pss_cons (ps_if (pt_cmpR op_eq (pv 2) pe_int (nomark _)) (pss_one (ps_ret (pe_tup (pa_cons pe_str (pa_cons (pv 4) pa_nil))))) pss_nil)
    (pss_cons (ps_if (pt_cmpR op_eq (pv 2) pe_int (nomark _)) (pss_cons (ps_set (i := 5) sc_law_test_of.nd rfl (Or.inl rfl) (pe_tup (pa_cons pe_str (pa_cons (pv 3) (pa_cons (pe_call G_law_leaf hr rfl T.law_leaf.m T.law_leaf.F.kp T.law_leaf.b .nil pass0 (pa_cons (pv 0) (pa_cons pe_int (pa_cons pe_int (pa_cons (pv 1) pa_nil))))) pa_nil)))))
    (pss_one (ps_ret (pe_tup (pa_cons pe_str (pa_cons (pe_tup (pa_cons pe_str (pa_cons (pv 4) (pa_cons (pv 5) pa_nil)))) (pa_cons (pe_tup (pa_cons pe_str (pa_cons (pe_tup (pa_cons pe_str (pa_cons (pv 5) (pa_cons (pv 4) pa_nil)))) pa_nil))) pa_nil))))))) pss_nil)
    (pss_cons (ps_if (pt_cmpR op_eq (pv 2) pe_int (nomark _)) (pss_one (ps_ret (pe_tup (pa_cons pe_str (pa_cons (pe_tup (pa_cons pe_str (pa_cons (pe_tup (pa_cons pe_str (pa_cons (pv 4) pa_nil))) pa_nil))) (pa_cons (pe_tup (pa_cons pe_str (pa_cons (pe_tup (pa_cons pe_str (pa_cons (pe_un un_neg pe_int) pa_nil))) (pa_cons (pv 3) pa_nil)))) pa_nil)))))) pss_nil)
    (pss_one (ps_ret (pv 4))))))))))), ?_⟩
  have two : (2 : Nat) ≤ sizeLine := by decide
  have three : (3 : Nat) ≤ sizeLine := by decide
  have eqi : ∀ {x y : Int}, decide (V.int x = V.int y) = true → x = y := fun c => by injection (of_decide_eq_true c)
  have nqi : ∀ {x y : Int}, ¬ decide (V.int x = V.int y) = true → ¬ x = y := fun c z => c (decide_eq_true (by rw [z]))
  refine ⟨_, rfl, salt, 1063, 7, rfl, by decide, by decide, ?_⟩
  refine ⟨_, rfl, _, rfl, salt, 1009, 1013, a, sc, rfl, hS, by decide, by decide, fun u1 H1 S1 h1 => ?_⟩
  refine ⟨fun σ' H' => ∃ u, σ' = [some (.int salt), some (.ref a), some (.int (drw salt 1063 7)), some u, none, none] ∧ Same H H' ∧ IsSum H' u (if drw salt 1097 3 = 1 then sumF salt sc else leafF salt 1009 1013 sc), ?_, ?_⟩
  · refine ⟨_, rfl, salt, 1097, 3, rfl, by decide, by decide, rfl, _, rfl, ?_⟩
    refine ite2 (fun c => ?_) (fun c => ?_)
    · refine ⟨_, rfl, _, rfl, salt, a, sc, rfl, S1.seq hS, fun u2 H2 S2 h2 => ⟨u2, rfl, S1.trans S2, ?_⟩⟩
      rw [if_pos (eqi c)]
      exact h2
    · refine ⟨u1, rfl, S1, ?_⟩
      rw [if_neg (nqi c)]
      exact h1
  rintro σ' H' ⟨u, rfl, S, hu⟩
  have eF : testF salt sc = (if drw salt 1063 7 = 3 then Ts.same (if drw salt 1097 3 = 1 then sumF salt sc else leafF salt 1009 1013 sc) (leafF salt 1019 1021 sc)
    else if drw salt 1063 7 = 4 then .not (Ts.less (if drw salt 1097 3 = 1 then sumF salt sc else leafF salt 1009 1013 sc) (.num (drw salt 1069 9 - 1)))
    else if drw salt 1063 7 = 6 then .both (.both (Ts.less (if drw salt 1097 3 = 1 then sumF salt sc else leafF salt 1009 1013 sc) (.num (drw salt 1069 9 - 1))) (Ts.same (if drw salt 1097 3 = 1 then sumF salt sc else leafF salt 1009 1013 sc) (leafF salt 1019 1021 sc)))
      (.not (.both (Ts.same (if drw salt 1097 3 = 1 then sumF salt sc else leafF salt 1009 1013 sc) (leafF salt 1019 1021 sc)) (Ts.less (if drw salt 1097 3 = 1 then sumF salt sc else leafF salt 1009 1013 sc) (.num (drw salt 1069 9 - 1)))))
    else if drw salt 1063 7 = 5 then .both (.not (.not (Ts.less (if drw salt 1097 3 = 1 then sumF salt sc else leafF salt 1009 1013 sc) (.num (drw salt 1069 9 - 1))))) (.less (.num (-6)) (if drw salt 1097 3 = 1 then sumF salt sc else leafF salt 1009 1013 sc))
    else Ts.less (if drw salt 1097 3 = 1 then sumF salt sc else leafF salt 1009 1013 sc) (.num (drw salt 1069 9 - 1))) := rfl
  rw [eF] at q
  generalize (if drw salt 1097 3 = 1 then sumF salt sc else leafF salt 1009 1013 sc) = one at q hu
  refine ⟨_, rfl, _, rfl, salt, 1069, 9, rfl, by decide, by decide, _, _, rfl, rfl, two, fun p1 hp1 => ⟨three, fun p2 hp2 => ?_⟩⟩
  have Sa := same_new hp1 (.tup [.str "num", .int (drw salt 1069 9 - 1)])
  have Sb := same_new hp2 (.tup [.str "less", u, .ref p1])
  have hl : IsTest (upd (upd H' p1 (.tup [.str "num", .int (drw salt 1069 9 - 1)])) p2 (.tup [.str "less", u, .ref p1])) (.ref p2) (.less one (.num (drw salt 1069 9 - 1))) := .less upd_same (hu.mono (Sa.trans Sb).tup) (.num (Sb _ _ upd_same))
  have SS := S.trans (Sa.trans Sb)
  have hu2 := hu.mono (Sa.trans Sb).tup
  generalize upd (upd H' p1 (.tup [.str "num", .int (drw salt 1069 9 - 1)])) p2 (.tup [.str "less", u, .ref p1]) = H2 at hl SS hu2
  generalize (Ts.less one (.num (drw salt 1069 9 - 1))) = least at q hl
  refine ⟨_, rfl, rfl, _, rfl, ?_⟩
  refine ite2 (fun c => ?_) (fun c => ?_)
  · rw [if_pos (eqi c)] at q
    refine ⟨_, rfl, _, rfl, _, rfl, salt, 1019, 1021, a, sc, rfl, SS.seq hS, by decide, by decide, fun u3 H3 S3 h3 => ⟨three, fun p3 hp3 => ?_⟩⟩
    have S4 := same_new hp3 (.tup [.str "same", u, u3])
    exact q _ _ (SS.trans (S3.trans S4)) (.same upd_same (hu2.mono (S3.trans S4).tup) (h3.mono S4.tup))
  rw [if_neg (nqi c)] at q
  refine ⟨_, rfl, rfl, _, rfl, ?_⟩
  refine ite2 (fun c => ?_) (fun c => ?_)
  · rw [if_pos (eqi c)] at q
    refine ⟨_, rfl, two, fun p3 hp3 => ?_⟩
    have S4 := same_new hp3 (.tup [.str "not", .ref p2])
    exact q _ _ (SS.trans S4) (.not upd_same (hl.mono S4.tup))
  rw [if_neg (nqi c)] at q
  refine ⟨_, rfl, rfl, _, rfl, ?_⟩
  refine ite2 (fun c => ?_) (fun c => ?_)
  · rw [if_pos (eqi c)] at q
    refine ⟨_, rfl, _, rfl, _, rfl, salt, 1019, 1021, a, sc, rfl, SS.seq hS, by decide, by decide, fun u3 H3 S3 h3 => ⟨three, fun p3 hp3 => ?_⟩⟩
    have S4 := same_new hp3 (.tup [.str "same", u, u3])
    have ho : IsTest (upd H3 p3 (.tup [.str "same", u, u3])) (.ref p3) (.same one (leafF salt 1019 1021 sc)) := .same upd_same (hu2.mono (S3.trans S4).tup) (h3.mono S4.tup)
    have SS4 := SS.trans (S3.trans S4)
    have hl4 := hl.mono (S3.trans S4).tup
    generalize upd H3 p3 (.tup [.str "same", u, u3]) = H4 at ho SS4 hl4
    refine ⟨_, rfl, _, rfl, three, fun p5 hp5 => ⟨_, rfl, _, rfl, three, fun p6 hp6 => ⟨two, fun p7 hp7 => ⟨three, fun p8 hp8 => ?_⟩⟩⟩⟩
    have S5 := same_new hp5 (.tup [.str "both", .ref p2, .ref p3])
    have S6 := same_new hp6 (.tup [.str "both", .ref p3, .ref p2])
    have S7 := same_new hp7 (.tup [.str "not", .ref p6])
    have S8 := same_new hp8 (.tup [.str "both", .ref p5, .ref p7])
    have S68 := S6.trans (S7.trans S8)
    have S58 := S5.trans S68
    exact q _ _ (SS4.trans S58) (.both upd_same (.both (S68 _ _ upd_same) (hl4.mono S58.tup) (ho.mono S58.tup)) (.not (S8 _ _ upd_same) (.both ((S7.trans S8) _ _ upd_same) (ho.mono S58.tup) (hl4.mono S58.tup))))
  rw [if_neg (nqi c)] at q
  refine ⟨_, rfl, rfl, _, rfl, ?_⟩
  refine ite2 (fun c => ?_) (fun c => ?_)
  · rw [if_pos (eqi c)] at q
    refine ⟨_, rfl, two, fun p5 hp5 => ⟨two, fun p6 hp6 => ⟨_, rfl, two, fun p7 hp7 => ⟨_, rfl, three, fun p8 hp8 => ⟨three, fun p9 hp9 => ?_⟩⟩⟩⟩⟩
    have S5 := same_new hp5 (.tup [.str "not", .ref p2])
    have S6 := same_new hp6 (.tup [.str "not", .ref p5])
    have S7 := same_new hp7 (.tup [.str "num", .int (-6)])
    have S8 := same_new hp8 (.tup [.str "less", .ref p7, u])
    have S9 := same_new hp9 (.tup [.str "both", .ref p6, .ref p8])
    have S79 := S7.trans (S8.trans S9)
    have S69 := S6.trans S79
    have S59 := S5.trans S69
    exact q _ _ (SS.trans S59) (.both upd_same (.not (S79 _ _ upd_same) (.not (S69 _ _ upd_same) (hl.mono S59.tup))) (.less (S9 _ _ upd_same) (.num ((S8.trans S9) _ _ upd_same)) (hu2.mono S59.tup)))
  rw [if_neg (nqi c)] at q
  exact ⟨_, rfl, q _ _ SS hl⟩
end
section
variable {P : Program} {w : World} {K : PySem.W.Frag} {mg : Str → Option Value} {base : Heap}
def spHead (K : PySem.W.Frag) : Sp := fun vs H Q _ => ∃ (way salt : Int) (a : Addr) (sc : List Str), vs = [.int way, .int salt, .ref a] ∧ H a = some (.lst (sc.map V.str)) ∧ sc.length ≤ 1000 ∧
  ∀ u H', Same H H' → (∀ M, IsHd H' M u (headF way salt sc)) → Q u H'
theorem ok_law_head_of (T : Txt K mg) : FnOk P w K mg base CX0 5 T.f_law_head_of T.fd_law_head_of ["_law_way", "_law_salt", "_law_scope"] (spHead K) := by
  have G_law_draw := (ok_law_draw (P := P) (w := w) (base := base) T).mono (show 1 ≤ 4 by omega)
  have G_law_sum_of := (ok_law_sum_of (P := P) (w := w) (base := base) T).mono (show 3 ≤ 4 by omega)
  have G_law_test_of := ok_law_test_of (P := P) (w := w) (base := base) T
  refine T.law_head_of.F.ok sc_law_head_of (fun vs H Q E h => ?_) (fun cdv A outer s H vs Q E hr h => ?_)
  · obtain ⟨way, salt, a, sc, rfl, _⟩ := h; rfl
  obtain ⟨way, salt, a, sc, rfl, hS, hn, q⟩ := h
  refine ⟨_, (pss_cons (ps_if (pt_cmpR op_eq (pv 0) pe_int (nomark _)) (pss_one (ps_ret (pe_tup (pa_cons pe_str (pa_cons (pe_call G_law_test_of hr rfl T.law_test_of.m T.law_test_of.F.kp T.law_test_of.b .nil pass0 (pa_cons (pv 1) (pa_cons (pv 2) pa_nil))) pa_nil))))) pss_nil)
    (pss_cons (ps_if (pt_cmpR op_eq (pv 0) pe_int (nomark _)) (pss_one (ps_ret (pe_tup (pa_cons pe_str (pa_cons (pe_call G_law_test_of hr rfl T.law_test_of.m T.law_test_of.F.kp T.law_test_of.b .nil pass0 (pa_cons (pv 1) (pa_cons (pv 2) pa_nil))) pa_nil))))) pss_nil)
    (pss_cons (ps_set (i := 3) sc_law_head_of.nd rfl (Or.inl rfl) (pe_op op_cat (pe_slice sl_list (pv 2) po_none (po_some pe_int)) (pe_lst (pa_cons pe_str (pa_cons pe_str pa_nil)))))
    (pss_cons (ps_set (i := 4) sc_law_head_of.nd rfl (Or.inl rfl) (pe_ix ix_list (pv 3) (pe_call G_law_draw hr rfl T.law_draw.m T.law_draw.F.kp T.law_draw.b .nil pass0 (pa_cons (pv 1) (pa_cons pe_int (pa_cons (pe_callB call_len_seq rfl T.b_len PySem.boot_len (pa_cons (pv 3) pa_nil)) pa_nil)))) (fun _ _ => rfl)))
    (pss_one (ps_ret (pe_tup (pa_cons pe_str (pa_cons (pv 4) (pa_cons (pe_call G_law_sum_of hr rfl T.law_sum_of.m T.law_sum_of.F.kp T.law_sum_of.b .nil pass0 (pa_cons (pv 1) (pa_cons (pv 2) pa_nil))) pa_nil)))))))))), ?_⟩
  have two : (2 : Nat) ≤ sizeLine := by decide
  have three : (3 : Nat) ≤ sizeLine := by decide
  have eqi : ∀ {x y : Int}, decide (V.int x = V.int y) = true → x = y := fun c => by injection (of_decide_eq_true c)
  have nqi : ∀ {x y : Int}, ¬ decide (V.int x = V.int y) = true → ¬ x = y := fun c z => c (decide_eq_true (by rw [z]))
  unfold headF at q
  refine ⟨_, rfl, rfl, _, rfl, ?_⟩
  refine ite2 (fun c => ?_) (fun c => ?_)
  · rw [if_pos (eqi c)] at q
    refine ⟨_, rfl, _, rfl, salt, a, sc, rfl, SqL.of hS, fun u H1 S1 h1 => ⟨two, fun p hp => ?_⟩⟩
    have S2 := same_new hp (.tup [.str "while", u])
    exact q _ _ (S1.trans S2) fun M => .whil upd_same (h1.mono S2.tup)
  rw [if_neg (nqi c)] at q
  refine ⟨_, rfl, rfl, _, rfl, ?_⟩
  refine ite2 (fun c => ?_) (fun c => ?_)
  · rw [if_pos (eqi c)] at q
    refine ⟨_, rfl, _, rfl, salt, a, sc, rfl, SqL.of hS, fun u H1 S1 h1 => ⟨two, fun p hp => ?_⟩⟩
    have S2 := same_new hp (.tup [.str "when", u])
    exact q _ _ (S1.trans S2) fun M => .when upd_same (h1.mono S2.tup)
  rw [if_neg (nqi c)] at q
  refine ⟨_, rfl, _, rfl, _, _, rfl, SqL.of hS, fun p1 hp1 => ⟨two, fun p2 hp2 => ?_⟩⟩
  have S1 := same_new hp1 (.lst (cutV (sc.map V.str) none (some 3)))
  have S2 := same_new hp2 (.lst [V.str "aa", V.str "quill"])
  have ecut := cut_take sc 3
  refine ⟨p1, p2, (sc.take 3).map V.str, [V.str "aa", V.str "quill"], rfl, rfl, S2 _ _ (by rw [upd_same]; exact congrArg (fun z => some (HO.lst z)) ecut), upd_same, by rw [sizeLine_eq, List.length_map, List.length_take]; show _ + 2 ≤ _; omega, fun p3 hp3 => ?_⟩
  have S3 := same_new hp3 (.lst ((sc.take 3).map V.str ++ [V.str "aa", V.str "quill"]))
  have e3 : upd (upd (upd H p1 (.lst (cutV (sc.map V.str) none (some 3)))) p2 (.lst [V.str "aa", V.str "quill"])) p3 (.lst ((sc.take 3).map V.str ++ [V.str "aa", V.str "quill"])) p3 = some (.lst ((jarsF sc).map V.str)) := by
    rw [upd_same]; unfold jarsF; rw [List.map_append]; rfl
  have SS := S1.trans (S2.trans S3)
  generalize upd (upd (upd H p1 (.lst (cutV (sc.map V.str) none (some 3)))) p2 (.lst [V.str "aa", V.str "quill"])) p3 (.lst ((sc.take 3).map V.str ++ [V.str "aa", V.str "quill"])) = H3 at e3 SS
  have hjl : ((jarsF sc).map V.str).length = (jarsF sc).length := List.length_map _
  have hjp : (0 : Int) < ((jarsF sc).length : Int) := by
    have : (jarsF sc).length = (sc.take 3).length + 2 := by unfold jarsF; rw [List.length_append]; rfl
    omega
  have hjp' : (0 : Int) < (((jarsF sc).map V.str).length : Int) := by rw [hjl]; exact hjp
  refine ⟨_, rfl, _, rfl, _, rfl, _, _, rfl, .inl (SqL.of e3), salt, 1087, _, rfl, by decide, hjp', ?_⟩
  rw [hjl]
  refine ⟨_, _, _, _, rfl, rfl, SqL.of e3, atI_str (drw_lo hjp) (drw_hi hjp), ?_⟩
  refine ⟨_, rfl, _, rfl, _, rfl, salt, a, sc, rfl, SqL.of (SS _ _ hS), fun u H4 S4 h4 => ⟨three, fun p hp => ?_⟩⟩
  have S5 := same_new hp (.tup [.str "with", .str (jarF salt sc), u])
  exact q _ _ (SS.trans (S4.trans S5)) fun M => .wit upd_same (h4.mono S5.tup)
end
end W05

set_option Elab.async false
set_option linter.all false
set_option maxRecDepth 100000
set_option maxHeartbeats 4000000
namespace W05
open PySem L2 J
section
variable {P : Program} {w : World} {K : PySem.W.Frag} {mg : Str → Option Value} {base : Heap}
/-! ### _law_close -/
def spClose : Sp := fun vs H Q _ => ∃ (lb lh ls : Addr) (salt : Int) (H0 : Hp) (g : Gs) (vbs vhs : List V) (k : Nat), vs = [.ref lb, .ref lh, .ref ls, .int salt] ∧ GRel H0 H lb lh ls noM g vbs vhs ∧ g.hs ≠ [] ∧ g.Ok k ∧ k ≤ 1000 ∧ vbs.length ≤ 1100 ∧ vhs.length ≤ 1100 ∧
  ∀ H' vbs' vhs', GRel H0 H' lb lh ls noM (closeF salt g) vbs' vhs' → Q .non H'
def MClose (H0 : Hp) (lb lh ls p a4 : Addr) (salt : Int) (ut : V) (t : Ts) (b : Bk) (g : Gs) (vbs vhs : List V) (σ : St) (H' : Hp) : Prop :=
  σ = [some (.ref lb), some (.ref lh), some (.ref ls), some (.int salt), some (.ref a4), some (.ref p), some ut] ∧ GRel H0 H' lb lh ls (fun a => a = p) g vbs vhs ∧ IsTest H' ut t ∧ ∃ vs, H' p = some (.lst vs) ∧ IsBk H' (GM lb lh ls vbs fun a => a = p) vs (b.app (endF salt t))
theorem ok_law_close (T : Txt K mg) : FnOk P w K mg base CX0 2 T.f_law_close T.fd_law_close ["_law_blocks", "_law_heads", "_law_scope", "_law_salt"] spClose := by
  have G_law_draw := ok_law_draw (P := P) (w := w) (base := base) T
  refine T.law_close.F.ok sc_law_close (fun vs H Q E h => ?_) (fun cdv A outer s H vs Q E hr h => ?_)
  · obtain ⟨lb, lh, ls, salt, H0, g, vbs, vhs, k, rfl, _⟩ := h; rfl
  obtain ⟨lb, lh, ls, salt, H0, g, vbs, vhs, k, rfl, hG, hne, hok, hk, hv1, hv2, q⟩ := h
  refine ⟨_, (pss_cons (ps_set (i := 4) sc_law_close.nd rfl (Or.inl rfl) (pe_bm0 PySem.F.plainAttrs_list PySem.F.slot_list_pop PySem.F.type_list_pop mt_pop (pv 1)))
    (pss_cons (ps_set (i := 5) sc_law_close.nd rfl (Or.inl rfl) (pe_bm0 PySem.F.plainAttrs_list PySem.F.slot_list_pop PySem.F.type_list_pop mt_pop (pv 0)))
    (pss_one (ps_if (pt_cmpR op_eq (pe_ix ix_tup (pv 4) pe_int (fun _ _ => rfl)) pe_str (nomark _)) (pss_cons (ps_expr (pe_bm PySem.F.plainAttrs_list PySem.F.slot_list_append PySem.F.type_list_append mt_append (pv 1) (pa_cons (pe_tup (pa_cons pe_str (pa_cons (pe_ix ix_tup (pv 4) pe_int (fun _ _ => rfl)) (pa_cons (pv 5) pa_nil)))) pa_nil)))
    (pss_one (ps_expr (pe_bm PySem.F.plainAttrs_list PySem.F.slot_list_append PySem.F.type_list_append mt_append (pv 0) (pa_cons (pe_lst pa_nil) pa_nil))))) (pss_one (ps_if (pt_cmpR op_eq (pe_ix ix_tup (pv 4) pe_int (fun _ _ => rfl)) pe_str (nomark _)) (pss_one (ps_expr (pe_bm PySem.F.plainAttrs_list PySem.F.slot_list_append PySem.F.type_list_append mt_append (pe_ix ix_list (pv 0) (pe_un un_neg pe_int) (fun _ _ => rfl)) (pa_cons (pe_tup (pa_cons pe_str (pa_cons (pe_ix ix_tup (pv 4) pe_int (fun _ _ => rfl)) (pa_cons (pe_ix ix_tup (pv 4) pe_int (fun _ _ => rfl)) (pa_cons (pv 5) pa_nil))))) pa_nil)))) (pss_one (ps_if (pt_cmpR op_eq (pe_ix ix_tup (pv 4) pe_int (fun _ _ => rfl)) pe_str (nomark _)) (pss_cons (ps_set (i := 6) sc_law_close.nd rfl (Or.inl rfl) (pe_ix ix_tup (pv 4) pe_int (fun _ _ => rfl)))
    (pss_consM (ps_if (PW.pt (pw_and (pt_cmpR op_eq (pe_ix ix_tup (pv 6) pe_int (fun _ _ => rfl)) pe_str (nomark _)) (pw_and (pt_cmpR op_eq (pe_ix ix_tup (pe_ix ix_tup (pv 6) pe_int (fun _ _ => rfl)) pe_int (fun _ _ => rfl)) pe_str (nomark _)) (pw_and1 (pt_cmpR op_gt (pe_call G_law_draw hr rfl T.law_draw.m T.law_draw.F.kp T.law_draw.b .nil pass0 (pa_cons (pv 3) (pa_cons pe_int (pa_cons pe_int pa_nil)))) pe_int (nomark _)))))) (pss_one (ps_expr (pe_bm PySem.F.plainAttrs_list PySem.F.slot_list_append PySem.F.type_list_append mt_append (pv 5) (pa_cons (pe_tup (pa_cons pe_str (pa_cons (pe_ix ix_tup (pe_ix ix_tup (pv 6) pe_int (fun _ _ => rfl)) pe_int (fun _ _ => rfl)) (pa_cons (pe_tup (pa_cons pe_str (pa_cons (pe_ix ix_tup (pv 6) pe_int (fun _ _ => rfl)) (pa_cons (pe_tup (pa_cons pe_str (pa_cons pe_int pa_nil))) pa_nil)))) pa_nil)))) pa_nil)))) pss_nil)
    (pss_one (ps_expr (pe_bm PySem.F.plainAttrs_list PySem.F.slot_list_append PySem.F.type_list_append mt_append (pe_ix ix_list (pv 0) (pe_un un_neg pe_int) (fun _ _ => rfl)) (pa_cons (pe_tup (pa_cons pe_str (pa_cons (pv 6) (pa_cons (pv 5) pa_nil)))) pa_nil)))))) (pss_cons (ps_expr (pe_bm0 PySem.F.plainAttrs_list PySem.F.slot_list_pop PySem.F.type_list_pop mt_pop (pv 2)))
    (pss_one (ps_expr (pe_bm PySem.F.plainAttrs_list PySem.F.slot_list_append PySem.F.type_list_append mt_append (pe_ix ix_list (pv 0) (pe_un un_neg pe_int) (fun _ _ => rfl)) (pa_cons (pe_tup (pa_cons pe_str (pa_cons (pe_ix ix_tup (pv 4) pe_int (fun _ _ => rfl)) (pa_cons (pe_ix ix_tup (pv 4) pe_int (fun _ _ => rfl)) (pa_cons (pv 5) pa_nil))))) pa_nil))))))))))))), ?_⟩
  have one : (1 : Nat) ≤ sizeLine := by decide
  have two : (2 : Nat) ≤ sizeLine := by decide
  have three : (3 : Nat) ≤ sizeLine := by decide
  have four : (4 : Nat) ≤ sizeLine := by decide
  obtain ⟨bs, hs, sc⟩ := g
  match hs, hne with
  | hd :: hs, _ =>
  match bs, hok.len with
  | b :: bs, hlen =>
  have hnn := hok.n
  simp only [Gs.n, List.map_cons, List.sum_cons] at hnn
  obtain ⟨vbs', p, vs, vhs', u, rfl, rfl, hG', hu, hp, hb, n1, n2, n3, h0, hnp⟩ := hG.pop
  have hvl : vs.length ≤ b.n := hb.len
  simp only [List.length_append, List.length_cons, List.length_nil] at hv1 hv2
  refine ⟨_, rfl, .inl ⟨rfl, _, SqL.of hG.eh⟩, _, _, _, rfl, rfl, hG.eh, last_get _ _, ?_⟩
  rw [List.dropLast_concat]
  have eb1 : upd H lh (.lst vhs') lb = some (.lst (vbs' ++ [.ref p])) := by rw [upd_ne hG.ne1]; exact hG.eb
  refine ⟨_, rfl, .inl ⟨rfl, _, SqL.of eb1⟩, _, _, _, rfl, rfl, eb1, last_get _ _, ?_⟩
  rw [List.dropLast_concat]
  generalize upd (upd H lh (.lst vhs')) lb (.lst vbs') = H2 at hG' hu hp hb
  clear hG eb1
  have nM := GRel.not_M (H0 := H0) (H := H2) n1 n2 n3 hnp
  cases hu with
  | @when a4 ut t e ht =>
    refine ⟨_, rfl, _, _, _, _, rfl, rfl, SqT.of e, at0, rfl, _, rfl, iteT' (by decide +kernel) ?_⟩
    refine ⟨_, rfl, .inl ⟨rfl, _, SqL.of hG'.eh⟩, _, rfl, _, _, _, _, rfl, rfl, SqT.of e, rfl, _, rfl, three, fun p1 hp1 => ?_⟩
    have S3 : Same H2 (upd H2 p1 (.tup [.str "else", ut, .ref p])) := same_new hp1 _
    have hG3 := (hG'.grow S3).close
    have hh : IsHd (upd H2 p1 (.tup [.str "else", ut, .ref p])) (GM lb lh ls vbs' noM) (.ref p1) (.els t b) :=
      .els upd_same (ht.mono S3.tup) nM (S3 _ _ hp) (hb.mono (.of S3) S3.tup fun a _ z => gm_less a z)
    generalize upd H2 p1 (.tup [.str "else", ut, .ref p]) = H3 at hG3 hh
    refine ⟨_, _, _, rfl, rfl, hG3.eh, by rw [sizeLine_eq]; omega, ?_⟩
    have eb4 : upd H3 lh (.lst (vhs' ++ [.ref p1])) lb = some (.lst vbs') := by rw [upd_ne hG3.ne1]; exact hG3.eb
    refine ⟨_, rfl, .inl ⟨rfl, _, SqL.of eb4⟩, Nat.zero_le _, fun p2 hp2 => ?_⟩
    have nb2 : lb ≠ p2 := fun z => by rw [← z, eb4] at hp2; cases hp2
    refine ⟨_, _, _, rfl, rfl, (by rw [upd_ne nb2]; exact eb4), by rw [sizeLine_eq]; omega, ?_⟩
    exact q _ _ _ (hG3.push hh hp2)
  | @els a4 p0 ut t vs0 b0 e ht nM0 hp0 hb0 =>
    match bs, hlen with
    | b1 :: bs, hlen =>
    obtain ⟨vb2, p1, vs1, rfl, hp1, hl1, hadd⟩ := hG'.close.top
    simp only [List.map_cons, List.sum_cons] at hnn
    refine ⟨_, rfl, _, _, _, _, rfl, rfl, SqT.of e, at0, rfl, _, rfl, iteF' (by decide +kernel) ?_⟩
    refine ⟨_, rfl, _, _, _, _, rfl, rfl, SqT.of e, at0, rfl, _, rfl, iteT' (by decide +kernel) ?_⟩
    refine ⟨_, rfl, _, rfl, _, _, _, _, rfl, rfl, SqL.of hG'.eb, atI_last _ _, .inl ⟨rfl, _, SqL.of hp1⟩, _, rfl, _, _, _, _, rfl, rfl, SqT.of e, rfl, _, rfl, _, _, _, _, rfl, rfl, SqT.of e, rfl, _, rfl, four, fun p2 hp2 => ?_⟩
    have S3 : Same H2 (upd H2 p2 (.tup [.str "when", ut, .ref p0, .ref p])) := same_new hp2 _
    refine ⟨_, _, _, rfl, rfl, S3 _ _ hp1, by rw [sizeLine_eq]; omega, ?_⟩
    refine q _ _ _ (hadd _ S3 [.ref p2] (.when t b0 b .nil) ?_)
    exact .when upd_same (ht.mono S3.tup) (fun z => nM0 (gm_less _ z)) (S3 _ _ hp0) (hb0.mono (.of S3) S3.tup fun a _ z => gm_less a z) nM (S3 _ _ hp) (hb.mono (.of S3) S3.tup fun a _ z => gm_less a z) .nil
  | @wit a4 x us sm e hs' =>
    match bs, hlen with
    | b1 :: bs, hlen =>
    simp only [List.map_cons, List.sum_cons] at hnn
    refine ⟨_, rfl, _, _, _, _, rfl, rfl, SqT.of e, at0, rfl, _, rfl, iteF' (by decide +kernel) ?_⟩
    refine ⟨_, rfl, _, _, _, _, rfl, rfl, SqT.of e, at0, rfl, _, rfl, iteF' (by decide +kernel) ?_⟩
    refine ⟨_, rfl, _, _, _, _, rfl, rfl, SqT.of e, at0, rfl, _, rfl, iteF' (by decide +kernel) ?_⟩
    have hwl := hok.wl
    simp only [Gs.w, List.map_cons, List.sum_cons, Hd.w] at hwl
    have hsne : sc ≠ [] := fun z => by rw [z] at hwl; simp at hwl
    have esn : sc = sc.dropLast ++ [sc.getLast hsne] := (List.dropLast_concat_getLast hsne).symm
    have es2 : H2 ls = some (.lst (sc.dropLast.map V.str ++ [.str (sc.getLast hsne)])) := by
      rw [hG'.es]
      conv => lhs; rw [esn]
      rw [List.map_append]
      rfl
    refine ⟨_, rfl, .inl ⟨rfl, _, SqL.of es2⟩, _, _, _, rfl, rfl, es2, last_get _ _, ?_⟩
    rw [List.dropLast_concat]
    have hG3 := hG'.close.scope sc.dropLast
    have B3 : Out (GM lb lh ls vbs' noM) H2 (upd H2 ls (.lst (sc.dropLast.map V.str))) := out_upd (.inr (.inr (.inl rfl))) _
    have L3 := tup_upd es2 (.lst (sc.dropLast.map V.str))
    have hp3 : upd H2 ls (.lst (sc.dropLast.map V.str)) p = some (.lst vs) := by rw [upd_ne n3]; exact hp
    have hb3 : IsBk (upd H2 ls (.lst (sc.dropLast.map V.str))) (GM lb lh ls vbs' noM) vs b := (hb.mono (M' := GM lb lh ls vbs' noM) (fun _ _ _ z => z) (fun _ _ z => z) fun a _ z => gm_less a z).mono B3 L3 fun _ _ z => z
    have e3 := L3 _ _ e
    have hs3 := hs'.mono L3
    generalize upd H2 ls (.lst (sc.dropLast.map V.str)) = H3 at hG3 hp3 hb3 e3 hs3
    obtain ⟨vb2, p1, vs1, rfl, hp1, hl1, hadd⟩ := hG3.top
    refine ⟨_, rfl, _, rfl, _, _, _, _, rfl, rfl, SqL.of hG3.eb, atI_last _ _, .inl ⟨rfl, _, SqL.of hp1⟩, _, rfl, _, _, _, _, rfl, rfl, SqT.of e3, rfl, _, rfl, _, _, _, _, rfl, rfl, SqT.of e3, rfl, _, rfl, four, fun p2 hp2 => ?_⟩
    have S4 : Same H3 (upd H3 p2 (.tup [.str "with", .str x, us, .ref p])) := same_new hp2 _
    refine ⟨_, _, _, rfl, rfl, S4 _ _ hp1, by rw [sizeLine_eq]; omega, ?_⟩
    refine q _ _ _ (hadd _ S4 [.ref p2] (.wit x sm b .nil) ?_)
    exact .wit upd_same (hs3.mono S4.tup) nM (S4 _ _ hp3) (hb3.mono (.of S4) S4.tup fun _ _ z => z) .nil
  | @whil a4 ut t e ht =>
    match bs, hlen with
    | b1 :: bs, hlen =>
    simp only [List.map_cons, List.sum_cons] at hnn
    refine ⟨_, rfl, _, _, _, _, rfl, rfl, SqT.of e, at0, rfl, _, rfl, iteF' (by decide +kernel) ?_⟩
    refine ⟨_, rfl, _, _, _, _, rfl, rfl, SqT.of e, at0, rfl, _, rfl, iteF' (by decide +kernel) ?_⟩
    refine ⟨_, rfl, _, _, _, _, rfl, rfl, SqT.of e, at0, rfl, _, rfl, iteT' (by decide +kernel) ?_⟩
    refine ⟨_, rfl, _, _, _, _, rfl, rfl, SqT.of e, rfl, ?_⟩
    refine ⟨MClose H0 lb lh ls p a4 salt ut t b ⟨b1 :: bs, hs, sc⟩ vbs' vhs', ?_, ?_⟩
    · have idle : endF salt t = .nil → MClose H0 lb lh ls p a4 salt ut t b ⟨b1 :: bs, hs, sc⟩ vbs' vhs' [some (.ref lb), some (.ref lh), some (.ref ls), some (.int salt), some (.ref a4), some (.ref p), some ut] H2 := fun en =>
        ⟨rfl, hG', ht, vs, hp, by rw [en, Bk.app_nil]; exact hb⟩
      cases ht with
      | @less at1 u1 u2 s1 s2 et h1 h2 =>
        refine ⟨_, rfl, _, _, _, _, rfl, rfl, SqT.of et, at0, rfl, _, rfl, iteT' (by decide +kernel) ?_⟩
        cases h1 with
        | @num an i en => exact ⟨_, rfl, _, _, _, _, rfl, rfl, SqT.of et, rfl, _, _, _, _, rfl, rfl, SqT.of en, at0, rfl, _, rfl, iteF' (by decide +kernel) (iteF (idle rfl))⟩
        | @op an o v1 v2 t1 t2 en g1 g2 => exact ⟨_, rfl, _, _, _, _, rfl, rfl, SqT.of et, rfl, _, _, _, _, rfl, rfl, SqT.of en, at0, rfl, _, rfl, iteF' (by cases o <;> decide +kernel) (iteF (idle rfl))⟩
        | @name an x en =>
          refine ⟨_, rfl, _, _, _, _, rfl, rfl, SqT.of et, rfl, _, _, _, _, rfl, rfl, SqT.of en, at0, rfl, _, rfl, iteT' (by decide +kernel) ?_⟩
          refine ⟨_, rfl, salt, 1093, 4, rfl, by decide, by decide, _, _, rfl, rfl, _, rfl, ?_⟩
          refine ite2 (fun c => ?_) (fun c => ?_)
          · have c1 : drw salt 1093 4 > 0 := of_decide_eq_true c
            have een : endF salt (.less (.name x) s2) = .set x (.op .add (.name x) (.num 1)) .nil := if_pos c1
            refine ⟨_, rfl, .inl ⟨rfl, _, SqL.of hp⟩, _, rfl, _, _, _, _, rfl, rfl, SqT.of et, rfl, _, _, _, _, rfl, rfl, SqT.of en, rfl, _, rfl, _, _, _, _, rfl, rfl, SqT.of et, rfl, two, fun q1 hq1 => ⟨three, fun q2 hq2 => ⟨three, fun q3 hq3 => ?_⟩⟩⟩
            have S3 := same_new hq1 (.tup [.str "num", .int 1])
            have S4 := same_new hq2 (.tup [.str "add", .ref an, .ref q1])
            have S5 := same_new hq3 (.tup [.str "set", .str x, .ref q2])
            have S35 := S3.trans (S4.trans S5)
            have hw : IsBk (upd (upd (upd H2 q1 (.tup [.str "num", .int 1])) q2 (.tup [.str "add", .ref an, .ref q1])) q3 (.tup [.str "set", .str x, .ref q2])) (GM lb lh ls vbs' fun a => a = p) [.ref q3] (.set x (.op .add (.name x) (.num 1)) .nil) :=
              .set upd_same (.op (o := .add) (S5 _ _ upd_same) (.name (S35 _ _ en)) (.num ((S4.trans S5) _ _ upd_same))) .nil
            have hG5 := hG'.grow S35
            have hp5 := S35 _ _ hp
            have hb5 := hb.mono (M' := GM lb lh ls vbs' fun a => a = p) (.of S35) S35.tup fun _ _ z => z
            have ht5 : IsTest (upd (upd (upd H2 q1 (.tup [.str "num", .int 1])) q2 (.tup [.str "add", .ref an, .ref q1])) q3 (.tup [.str "set", .str x, .ref q2])) (.ref at1) (.less (.name x) s2) := .less (S35 _ _ et) (.name (S35 _ _ en)) (h2.mono S35.tup)
            generalize upd (upd (upd H2 q1 (.tup [.str "num", .int 1])) q2 (.tup [.str "add", .ref an, .ref q1])) q3 (.tup [.str "set", .str x, .ref q2]) = H5 at hw hG5 hp5 hb5 ht5
            refine ⟨_, _, _, rfl, rfl, hp5, by rw [sizeLine_eq]; omega, ?_⟩
            obtain ⟨r1, r2, r3⟩ := hG5.more n1 n2 n3 h0 hnp hp5 hb5 hw
            refine ⟨rfl, r1, ht5.mono (tup_upd hp5 _), _, upd_same, ?_⟩
            rw [een]
            exact r2
          · have c1 : ¬ drw salt 1093 4 > 0 := of_decide_eq_false (Bool.eq_false_iff.mpr c)
            exact idle (if_neg c1)
      | @same at1 u1 u2 s1 s2 et h1 h2 => exact ⟨_, rfl, _, _, _, _, rfl, rfl, SqT.of et, at0, rfl, _, rfl, iteF' (by decide +kernel) (iteF (idle rfl))⟩
      | @not at1 u1 t1 et h1 => exact ⟨_, rfl, _, _, _, _, rfl, rfl, SqT.of et, at0, rfl, _, rfl, iteF' (by decide +kernel) (iteF (idle rfl))⟩
      | @both at1 u1 u2 s1 s2 et h1 h2 => exact ⟨_, rfl, _, _, _, _, rfl, rfl, SqT.of et, at0, rfl, _, rfl, iteF' (by decide +kernel) (iteF (idle rfl))⟩
    · rintro σ' H3 ⟨rfl, hG3, ht3, vs3, hp3, hb3⟩
      obtain ⟨vb2, p1, vs1, rfl, hp1, hl1, hadd⟩ := hG3.close.top
      refine ⟨_, rfl, _, rfl, _, _, _, _, rfl, rfl, SqL.of hG3.eb, atI_last _ _, .inl ⟨rfl, _, SqL.of hp1⟩, _, rfl, _, rfl, three, fun p2 hp2 => ?_⟩
      have S4 : Same H3 (upd H3 p2 (.tup [.str "while", ut, .ref p])) := same_new hp2 _
      refine ⟨_, _, _, rfl, rfl, S4 _ _ hp1, by rw [sizeLine_eq]; omega, ?_⟩
      refine q _ _ _ (hadd _ S4 [.ref p2] (.whil t (b.app (endF salt t)) .nil) ?_)
      exact .whil upd_same (ht3.mono S4.tup) nM (S4 _ _ hp3) (hb3.mono (.of S4) S4.tup fun a _ z => gm_less a z) .nil
end
end W05

set_option Elab.async false
set_option linter.all false
set_option maxRecDepth 100000
set_option maxHeartbeats 4000000
namespace W05
open PySem L2 J
section
variable {P : Program} {w : World} {K : PySem.W.Frag} {mg : Str → Option Value} {base : Heap}
/-! ### _law_grown -/
def spGrown (K : PySem.W.Frag) : Sp := fun vs H Q _ => ∃ (a b c : Addr) (cells : List Int) (ns more : List Str), vs = [.ref a, .ref b, .ref c] ∧ SqL K H a (cells.map V.int) ∧ cells.length ≤ 100 ∧ H b = some (.lst (ns.map V.str)) ∧ ns.length ≤ 9 ∧ H c = some (.lst (more.map V.str)) ∧ more.length ≤ 9 ∧
  ∀ r pn pb vs H', Same H H' → H' r = some (.tup [.ref pn, .ref pb]) → H' pn = some (.lst (ns.map V.str)) → H' pb = some (.lst vs) → IsBk H' noM vs (grownF cells ns more) → Q (.ref r) H'
def PGrown (H : Hp) (a b c lb lh ls : Addr) (more : List Str) (cells : List Int) (gF : Gs) (k : Nat) (σ : St) (H' : Hp) : Prop :=
  ∃ o6 o7 o8 o9 o10 g vbs vhs, σ = [some (.ref a), some (.ref b), some (.ref c), some (.ref lb), some (.ref lh), some (.ref ls), o6, o7, o8, o9, o10] ∧ GRel H H' lb lh ls noM g vbs vhs ∧ g.Ok k ∧ gF = foldF more k (cells.drop k) g
def WGrown (H : Hp) (a b c lb lh ls : Addr) (gF : Gs) (m : Nat) (σ : St) (H' : Hp) : Prop :=
  ∃ o6 o7 o8 o9 o10 g vbs vhs j, σ = [some (.ref a), some (.ref b), some (.ref c), some (.ref lb), some (.ref lh), some (.ref ls), o6, o7, o8, o9, o10] ∧ GRel H H' lb lh ls noM g vbs vhs ∧ g.Ok 100 ∧ closes 400 gF = closes j g ∧ g.wt ≤ j ∧ m = g.wt
theorem ok_law_grown (T : Txt K mg) : FnOk P w K mg base CX0 6 T.f_law_grown T.fd_law_grown ["_law_cells", "_law_names", "_law_more"] (spGrown K) := by
  have G_law_draw := (ok_law_draw (P := P) (w := w) (base := base) T).mono (show 1 ≤ 5 by omega)
  have G_law_sum_of := (ok_law_sum_of (P := P) (w := w) (base := base) T).mono (show 3 ≤ 5 by omega)
  have G_law_head_of := ok_law_head_of (P := P) (w := w) (base := base) T
  have G_law_close := (ok_law_close (P := P) (w := w) (base := base) T).mono (show 2 ≤ 5 by omega)
  refine T.law_grown.F.ok sc_law_grown (fun vs H Q E h => ?_) (fun cdv A outer s H vs Q E hr h => ?_)
  · obtain ⟨a, b, c, cells, ns, more, rfl, _⟩ := h; rfl
  obtain ⟨a, b, c, cells, ns, more, rfl, hC, hcl, hN, hnl, hM, hml, q⟩ := h
  refine ⟨_, (pss_cons (ps_set (i := 3) sc_law_grown.nd rfl (Or.inl rfl) (pe_lst (pa_cons (pe_lst pa_nil) pa_nil)))
    (pss_cons (ps_set (i := 4) sc_law_grown.nd rfl (Or.inl rfl) (pe_lst pa_nil))
    (pss_cons (ps_set (i := 5) sc_law_grown.nd rfl (Or.inl rfl) (pe_callTy call_list_of rfl T.b_list bt_list (pa_cons (pv 1) pa_nil)))
    (pss_cons (ps_for PassesOwn.never rfl (pi_range1 rfl T.b_range (pa_cons (pe_callB call_len_seq rfl T.b_len PySem.boot_len (pa_cons (pv 0) pa_nil)) pa_nil)) (pg_name (i := 6) sc_law_grown.nd rfl (Or.inl rfl)) (pss_cons (ps_set (i := 7) sc_law_grown.nd rfl (Or.inl rfl) (pe_op op_mod (pe_ix ix_list (pv 0) (pv 6) (fun _ _ => rfl)) pe_int))
    (pss_cons (ps_set (i := 8) sc_law_grown.nd rfl (Or.inl rfl) (pe_op op_add (pe_ix ix_list (pv 0) (pv 6) (fun _ _ => rfl)) (pe_op op_mulB pe_int (pv 6))))
    (pss_cons (ps_set (i := 9) sc_law_grown.nd rfl (Or.inl rfl) (pe_op op_cat (pv 5) (pv 2)))
    (pss_one (ps_if (pt_cmpR op_lt (pv 7) pe_int (nomark _)) (pss_cons (ps_expr (pe_bm PySem.F.plainAttrs_list PySem.F.slot_list_append PySem.F.type_list_append mt_append (pv 4) (pa_cons (pe_call G_law_head_of hr rfl T.law_head_of.m T.law_head_of.F.kp T.law_head_of.b .nil pass0 (pa_cons (pv 7) (pa_cons (pv 8) (pa_cons (pv 9) pa_nil)))) pa_nil)))
    (pss_cons (ps_expr (pe_bm PySem.F.plainAttrs_list PySem.F.slot_list_append PySem.F.type_list_append mt_append (pv 3) (pa_cons (pe_lst pa_nil) pa_nil)))
    (pss_one (ps_if (pt_cmpR op_eq (pv 7) pe_int (nomark _)) (pss_one (ps_expr (pe_bm PySem.F.plainAttrs_list PySem.F.slot_list_append PySem.F.type_list_append mt_append (pv 5) (pa_cons (pe_ix ix_tup (pe_ix ix_list (pv 4) (pe_un un_neg pe_int) (fun _ _ => rfl)) pe_int (fun _ _ => rfl)) pa_nil)))) pss_nil)))) (pss_one (ps_ifM (PW.pt (pw_and (pt_cmpR op_lt (pv 7) pe_int (nomark _)) (pw_and1 (pt_cmpR (op_neNil hr.units0) (pv 4) (pe_lst pa_nil) (nomark _))))) (pss_one (ps_expr (pe_call G_law_close hr rfl T.law_close.m T.law_close.F.kp T.law_close.b .nil pass0 (pa_cons (pv 3) (pa_cons (pv 4) (pa_cons (pv 5) (pa_cons (pv 8) pa_nil))))))) (pss_one (ps_ifM (PW.pt (pw_and (pt_cmpR op_lt (pv 7) pe_int (nomark _)) (pw_and1 (pt_cmpR (op_neNil hr.units0) (pv 9) (pe_lst pa_nil) (nomark _))))) (pss_cons (ps_set (i := 10) sc_law_grown.nd rfl (Or.inl rfl) (pe_ix ix_list (pv 9) (pe_call G_law_draw hr rfl T.law_draw.m T.law_draw.F.kp T.law_draw.b .nil pass0 (pa_cons (pv 8) (pa_cons pe_int (pa_cons (pe_callB call_len_seq rfl T.b_len PySem.boot_len (pa_cons (pv 9) pa_nil)) pa_nil)))) (fun _ _ => rfl)))
    (pss_one (ps_expr (pe_bm PySem.F.plainAttrs_list PySem.F.slot_list_append PySem.F.type_list_append mt_append (pe_ix ix_list (pv 3) (pe_un un_neg pe_int) (fun _ _ => rfl)) (pa_cons (pe_tup (pa_cons pe_str (pa_cons (pv 10) (pa_cons (pe_call G_law_sum_of hr rfl T.law_sum_of.m T.law_sum_of.F.kp T.law_sum_of.b .nil pass0 (pa_cons (pv 8) (pa_cons (pv 9) pa_nil))) pa_nil)))) pa_nil))))) (pss_one (ps_expr (pe_bm PySem.F.plainAttrs_list PySem.F.slot_list_append PySem.F.type_list_append mt_append (pe_ix ix_list (pv 3) (pe_un un_neg pe_int) (fun _ _ => rfl)) (pa_cons (pe_tup (pa_cons pe_str (pa_cons (pe_call G_law_sum_of hr rfl T.law_sum_of.m T.law_sum_of.F.kp T.law_sum_of.b .nil pass0 (pa_cons (pv 8) (pa_cons (pv 9) pa_nil))) pa_nil))) pa_nil))))))))))))))
    (pss_cons (ps_while PassesOwn.never (pt_cmpR (op_neNil hr.units0) (pv 4) (pe_lst pa_nil) (nomark _)) (pss_one (ps_expr (pe_call G_law_close hr rfl T.law_close.m T.law_close.F.kp T.law_close.b .nil pass0 (pa_cons (pv 3) (pa_cons (pv 4) (pa_cons (pv 5) (pa_cons pe_int pa_nil))))))))
    (pss_one (ps_ret (pe_tup (pa_cons (pe_callTy call_list_of rfl T.b_list bt_list (pa_cons (pv 1) pa_nil)) (pa_cons (pe_ix ix_list (pv 3) pe_int (fun _ _ => rfl)) pa_nil)))))))))), ?_⟩
  have one : (1 : Nat) ≤ sizeLine := by decide
  have two : (2 : Nat) ≤ sizeLine := by decide
  have three : (3 : Nat) ≤ sizeLine := by decide
  refine ⟨Nat.zero_le _, fun p0 hp0 => ⟨one, fun lb hlb => ?_⟩⟩
  refine ⟨Nat.zero_le _, fun lh hlh => ?_⟩
  have S1 := same_new hp0 (.lst [])
  have S2 := same_new hlb (.lst [.ref p0])
  have S3 := same_new hlh (.lst [])
  refine ⟨_, rfl, _, _, rfl, .inl (SqL.of (S3 _ _ (S2 _ _ (S1 _ _ hN)))), fun ls hls => ?_⟩
  have S4 := same_new hls (.lst (ns.map V.str))
  have eb1 : upd (upd H p0 (.lst [])) lb (.lst [.ref p0]) lb = some (.lst [.ref p0]) := upd_same
  have nb : H lb = none := S1.free hlb
  have nh : H lh = none := (S1.trans S2).free hlh
  have nls : H ls = none := (S1.trans (S2.trans S3)).free hls
  have ne1 : lb ≠ lh := fun z => by rw [← z, eb1] at hlh; cases hlh
  have ne2 : lb ≠ ls := fun z => by rw [← z, S3 _ _ eb1] at hls; cases hls
  have ne3 : lh ≠ ls := fun z => by rw [← z, upd_same] at hls; cases hls
  have hp1 : upd H p0 (.lst []) p0 = some (.lst []) := upd_same
  have np1 : p0 ≠ lb := fun z => by rw [← z, hp1] at hlb; cases hlb
  have np2 : p0 ≠ lh := fun z => by rw [← z, S2 _ _ hp1] at hlh; cases hlh
  have np3 : p0 ≠ ls := fun z => by rw [← z, S3 _ _ (S2 _ _ hp1)] at hls; cases hls
  have hG0 : GRel H (upd (upd (upd (upd H p0 (.lst [])) lb (.lst [.ref p0])) lh (.lst [])) ls (.lst (ns.map V.str))) lb lh ls noM ⟨[.nil], [], ns⟩ [.ref p0] [] :=
    ⟨S1.trans (S2.trans (S3.trans S4)), nb, nh, nls, ne1, ne2, ne3, S4 _ _ (S3 _ _ eb1), S4 _ _ upd_same, upd_same, by simp, .cons ⟨p0, [], rfl, np1, np2, np3, hp0, S4 _ _ (S3 _ _ (S2 _ _ hp1)), .nil⟩ .nil, .nil⟩
  generalize upd (upd (upd (upd H p0 (.lst [])) lb (.lst [.ref p0])) lh (.lst [])) ls (.lst (ns.map V.str)) = H4 at hG0
  have hcl' : (cells.map V.int).length = cells.length := List.length_map _
  refine ⟨_, rfl, _, _, rfl, .inl (hG0.S.seq hC), _, rfl, by omega, by rw [hcl']; omega, ?_⟩
  have hcnt : (((cells.map V.int).length : Nat) : Int).toNat = cells.length := by rw [hcl']; omega
  rw [hcnt]
  have ok0 : (⟨[.nil], [], ns⟩ : Gs).Ok 0 := ⟨rfl, by simp [Gs.wt], by simp [Gs.n, Gs.wt, Bk.n], by show ns.length ≤ 9 + 0; omega, by simp [Gs.w]⟩
  refine for_range (PGrown H a b c lb lh ls more cells (foldF more 0 cells ⟨[.nil], [], ns⟩)) ⟨none, none, none, none, none, _, _, _, rfl, hG0, ok0, rfl⟩ ?_ ?_
  · rintro k σ H1 hk ⟨o6, o7, o8, o9, o10, g, vbs, vhs, rfl, hG, hok, hF⟩
    have hat : atI (cells.map V.int) (0 + (k : Int)) = some (.int cells[k]) := by
      rw [Int.zero_add]; exact atI_nat (by rw [List.getElem?_map, List.getElem?_eq_getElem hk]; rfl)
    have hdrop : cells.drop k = cells[k] :: cells.drop (k + 1) := List.drop_eq_getElem_cons hk
    rw [hdrop] at hF
    have hF' : foldF more 0 cells ⟨[.nil], [], ns⟩ = foldF more (k + 1) (cells.drop (k + 1)) (stepF more k cells[k] g) := hF
    have hok' := stepF_ok (more := more) (cell := cells[k]) hok
    have fin : ∀ σ' H' vbs' vhs', (∃ o6 o7 o8 o9 o10, σ' = [some (.ref a), some (.ref b), some (.ref c), some (.ref lb), some (.ref lh), some (.ref ls), o6, o7, o8, o9, o10]) → GRel H H' lb lh ls noM (stepF more k cells[k] g) vbs' vhs' → PGrown H a b c lb lh ls more cells (foldF more 0 cells ⟨[.nil], [], ns⟩) (k + 1) σ' H' := fun σ' H' vbs' vhs' ⟨o6, o7, o8, o9, o10, e⟩ z => ⟨o6, o7, o8, o9, o10, _, _, _, e, z, hok', hF'⟩
    have hbl := plen hG.bs
    have hhl := plen hG.hs
    rw [List.length_reverse] at hbl hhl
    have hlen := hok.len
    have hwt := hok.wt
    have hnn := hok.n
    have hsc := hok.sc
    have hhs : g.hs.length ≤ g.wt := by
      have : ∀ l : List Hd, l.length ≤ (l.map Hd.wt).sum := fun l => by
        induction l with
        | nil => exact Nat.le_refl _
        | cons x l ih =>
          have : 1 ≤ x.wt := by cases x <;> simp [Hd.wt]
          rw [List.map_cons, List.sum_cons, List.length_cons]; omega
      exact this _
    refine ⟨_, rfl, _, rfl, _, _, _, _, rfl, rfl, hG.S.seq hC, hat, _, _, rfl, rfl, (by show (0 : Int) < _; decide), ?_⟩
    refine ⟨_, rfl, _, rfl, _, _, _, _, rfl, rfl, hG.S.seq hC, hat, _, rfl, _, _, rfl, rfl, mul_small rfl, _, _, rfl, rfl, ?_⟩
    have hMl := hG.S _ _ hM
    refine ⟨_, rfl, _, rfl, ls, c, _, _, rfl, rfl, hG.es, hMl, by rw [sizeLine_eq, List.length_map, List.length_map]; omega, fun pn hpn => ?_⟩
    have Sn := same_new hpn (.lst (g.sc.map V.str ++ more.map V.str))
    have en : upd H1 pn (.lst (g.sc.map V.str ++ more.map V.str)) pn = some (.lst ((g.sc ++ more).map V.str)) := by rw [upd_same, List.map_append]
    have hGn := hG.grow Sn
    generalize upd H1 pn (.lst (g.sc.map V.str ++ more.map V.str)) = H2 at en hGn
    have hnearl : (g.sc ++ more).length ≤ 1000 := by rw [List.length_append]; omega
    have esalt : cells[k] + 7919 * (0 + (k : Int)) = cells[k] + 7919 * (k : Int) := by rw [Int.zero_add]
    dsimp only
    rw [esalt]
    have eF : stepF more k cells[k] g = (if cells[k] % 9 < 3 then ⟨.nil :: g.bs, headF (cells[k] % 9) (cells[k] + 7919 * (k : Int)) (g.sc ++ more) :: g.hs, if cells[k] % 9 = 2 then g.sc ++ [jarF (cells[k] + 7919 * (k : Int)) (g.sc ++ more)] else g.sc⟩
      else if cells[k] % 9 < 6 ∧ g.hs ≠ [] then closeF (cells[k] + 7919 * (k : Int)) g
      else if cells[k] % 9 < 8 ∧ g.sc ++ more ≠ [] then addF (.set (((g.sc ++ more)[(drw (cells[k] + 7919 * (k : Int)) 1091 ((g.sc ++ more).length : Int)).toNat]?).getD "") (sumF (cells[k] + 7919 * (k : Int)) (g.sc ++ more)) .nil) g
      else addF (.say (sumF (cells[k] + 7919 * (k : Int)) (g.sc ++ more)) .nil) g) := rfl
    rw [eF] at fin
    clear hok' hF hF' eF
    have w0 : 0 ≤ cells[k] % 9 := by omega
    generalize cells[k] % 9 = way at fin w0
    generalize cells[k] + 7919 * (k : Int) = salt at fin
    refine ⟨_, rfl, _, _, rfl, rfl, _, rfl, ?_⟩
    refine ite2 (fun c1 => ?_) (fun c1 => ?_)
    · have c1' : way < 3 := of_decide_eq_true c1
      rw [if_pos c1'] at fin
      refine ⟨_, rfl, .inl ⟨rfl, _, SqL.of hGn.eh⟩, _, rfl, _, rfl, _, rfl, way, salt, pn, g.sc ++ more, rfl, en, hnearl, fun u H3 S3 hu => ?_⟩
      have hG3 := hGn.grow S3
      refine ⟨_, _, _, rfl, rfl, hG3.eh, by rw [sizeLine_eq]; omega, ?_⟩
      have eb4 : upd H3 lh (.lst (vhs ++ [u])) lb = some (.lst vbs) := by rw [upd_ne hG3.ne1]; exact hG3.eb
      refine ⟨_, rfl, .inl ⟨rfl, _, SqL.of eb4⟩, Nat.zero_le _, fun p2 hp2 => ?_⟩
      have nb2 : lb ≠ p2 := fun z => by rw [← z, eb4] at hp2; cases hp2
      refine ⟨_, _, _, rfl, rfl, (by rw [upd_ne nb2]; exact eb4), by rw [sizeLine_eq]; omega, ?_⟩
      have hG4 := hG3.push (hu _) hp2
      generalize upd (upd (upd H3 lh (.lst (vhs ++ [u]))) p2 (.lst [])) lb (.lst (vbs ++ [.ref p2])) = H4' at hG4
      refine ⟨_, rfl, rfl, _, rfl, ?_⟩
      refine ite2 (fun c2 => ?_) (fun c2 => ?_)
      · have c2' : way = 2 := by injection (of_decide_eq_true c2)
        have eh2 : headF way salt (g.sc ++ more) = .wit (jarF salt (g.sc ++ more)) (sumF salt (g.sc ++ more)) := by
          unfold headF; rw [if_neg (by omega), if_neg (by omega)]
        rw [if_pos c2', eh2] at fin
        rw [eh2] at hG4
        have hsl := hG4.hs
        rw [List.reverse_append] at hsl
        cases hsl with
        | cons h1 _ =>
          cases h1 with
          | @wit aw x us sm ew hsm =>
            refine ⟨_, rfl, .inl ⟨rfl, _, SqL.of hG4.es⟩, _, rfl, _, rfl, _, _, _, _, rfl, rfl, SqL.of hG4.eh, atI_last _ _, _, _, _, _, rfl, rfl, SqT.of ew, rfl, ?_⟩
            refine ⟨_, _, _, rfl, rfl, hG4.es, by rw [sizeLine_eq, List.length_map]; show g.sc.length < _; omega, ?_⟩
            have hS5 := hG4.scope (g.sc ++ [jarF salt (g.sc ++ more)])
            rw [List.map_append] at hS5
            exact fin _ _ _ _ ⟨_, _, _, _, _, rfl⟩ hS5
      · have c2' : ¬ way = 2 := fun z => c2 (decide_eq_true (by rw [z]))
        rw [if_neg c2'] at fin
        exact fin _ _ _ _ ⟨_, _, _, _, _, rfl⟩ hG4
    have c1' : ¬ way < 3 := of_decide_eq_false (Bool.eq_false_iff.mpr c1)
    rw [if_neg c1'] at fin
    refine ⟨fun H' => Same H2 H' ∧ way < 6 ∧ g.hs ≠ [], fun H' => Same H2 H' ∧ ¬ (way < 6 ∧ g.hs ≠ []), ?_, ?_, ?_⟩
    · refine ⟨_, rfl, _, _, rfl, rfl, _, rfl, ?_⟩
      refine ite2 (fun c2 => ?_) (fun c2 => ?_)
      · refine ⟨_, rfl, Nat.zero_le _, fun p hp => ⟨_, _, _, rfl, rfl, SqL.of (same_new hp _ _ _ hGn.eh), SqL.of upd_same, _, rfl, ?_⟩⟩
        have c2' : way < 6 := of_decide_eq_true c2
        by_cases hh : g.hs = []
        · have : vhs = [] := List.length_eq_zero_iff.mp (by rw [hhl, hh]; rfl)
          subst this
          exact iteF' rfl ⟨same_new hp _, fun z => z.2 hh⟩
        · have : vhs.isEmpty = false := by
            cases vhs with
            | nil => exact absurd (List.length_eq_zero_iff.mp (by rw [← hhl]; rfl)) hh
            | cons _ _ => rfl
          exact iteT' (by rw [this]; rfl) ⟨same_new hp _, c2', hh⟩
      · have c2' : ¬ way < 6 := of_decide_eq_false (Bool.eq_false_iff.mpr c2)
        exact iteF ⟨fun _ _ z => z, fun z => c2' z.1⟩
    · rintro H3 ⟨S3, c2, hh⟩
      rw [if_pos ⟨c2, hh⟩] at fin
      refine ⟨_, rfl, _, rfl, _, rfl, _, rfl, lb, lh, ls, salt, H, g, vbs, vhs, k, rfl, hGn.grow S3, hh, hok, by omega, by omega, by omega, fun H' vbs' vhs' z => ?_⟩
      exact fin _ _ _ _ ⟨_, _, _, _, _, rfl⟩ z
    · rintro H3 ⟨S3, c2⟩
      rw [if_neg c2] at fin
      have hG3 := hGn.grow S3
      have en3 := S3 _ _ en
      obtain ⟨bs, hs, sc⟩ := g
      match bs, hlen with
      | b1 :: bs, hlen =>
      obtain ⟨vb2, p1, vs1, evb, hp1, hl1, hadd⟩ := hG3.top
      subst evb
      simp only [Gs.n, List.map_cons, List.sum_cons] at hnn
      refine ⟨fun H' => Same H3 H' ∧ way < 8 ∧ sc ++ more ≠ [], fun H' => Same H3 H' ∧ ¬ (way < 8 ∧ sc ++ more ≠ []), ?_, ?_, ?_⟩
      · refine ⟨_, rfl, _, _, rfl, rfl, _, rfl, ?_⟩
        refine ite2 (fun c2 => ?_) (fun c2 => ?_)
        · refine ⟨_, rfl, Nat.zero_le _, fun p hp => ⟨_, _, _, rfl, rfl, SqL.of (same_new hp _ _ _ en3), SqL.of upd_same, _, rfl, ?_⟩⟩
          have c2' : way < 8 := of_decide_eq_true c2
          cases hh : sc ++ more with
          | nil =>
            exact iteF' rfl ⟨same_new hp _, fun z => z.2 rfl⟩
          | cons _ _ =>
            exact iteT' rfl ⟨same_new hp _, c2', by simp⟩
        · have c2' : ¬ way < 8 := of_decide_eq_false (Bool.eq_false_iff.mpr c2)
          exact iteF ⟨fun _ _ z => z, fun z => c2' z.1⟩
      · rintro H4 ⟨S4, c3, hh⟩
        rw [if_pos ⟨c3, hh⟩] at fin
        have en4 := S4 _ _ en3
        have hlp : (0 : Int) < ((sc ++ more).length : Int) := by
          have : (sc ++ more).length ≠ 0 := fun z => hh (List.length_eq_zero_iff.mp z)
          omega
        have hml2 : ((sc ++ more).map V.str).length = (sc ++ more).length := List.length_map _
        have hlp' : (0 : Int) < (((sc ++ more).map V.str).length : Int) := by rw [hml2]; exact hlp
        refine ⟨_, rfl, _, rfl, _, rfl, _, _, rfl, .inl (SqL.of en4), salt, 1091, _, rfl, by decide, hlp', ?_⟩
        rw [hml2]
        refine ⟨_, _, _, _, rfl, rfl, SqL.of en4, atI_str (drw_lo hlp) (drw_hi hlp), ?_⟩
        refine ⟨_, rfl, _, rfl, _, _, _, _, rfl, rfl, SqL.of (S4 _ _ hG3.eb), atI_last _ _, .inl ⟨rfl, _, SqL.of (S4 _ _ hp1)⟩, _, rfl, _, rfl, _, rfl, salt, pn, sc ++ more, rfl, SqL.of en4, fun u H5 S5 hu => ⟨three, fun p2 hp2 => ?_⟩⟩
        have S6 := same_new hp2 (.tup [.str "set", .str (((sc ++ more)[(drw salt 1091 ((sc ++ more).length : Int)).toNat]?).getD ""), u])
        have S36 := S4.trans (S5.trans S6)
        refine ⟨_, _, _, rfl, rfl, S36 _ _ hp1, by rw [sizeLine_eq]; omega, ?_⟩
        refine fin _ _ _ _ ⟨_, _, _, _, _, rfl⟩ (hadd _ S36 [.ref p2] _ ?_)
        exact .set upd_same (hu.mono S6.tup) .nil
      · rintro H4 ⟨S4, c3⟩
        rw [if_neg c3] at fin
        have en4 := S4 _ _ en3
        refine ⟨_, rfl, _, rfl, _, _, _, _, rfl, rfl, SqL.of (S4 _ _ hG3.eb), atI_last _ _, .inl ⟨rfl, _, SqL.of (S4 _ _ hp1)⟩, _, rfl, _, rfl, salt, pn, sc ++ more, rfl, SqL.of en4, fun u H5 S5 hu => ⟨two, fun p2 hp2 => ?_⟩⟩
        have S6 := same_new hp2 (.tup [.str "say", u])
        have S36 := S4.trans (S5.trans S6)
        refine ⟨_, _, _, rfl, rfl, S36 _ _ hp1, by rw [sizeLine_eq]; omega, ?_⟩
        refine fin _ _ _ _ ⟨_, _, _, _, _, rfl⟩ (hadd _ S36 [.ref p2] _ ?_)
        exact .say upd_same (hu.mono S6.tup) .nil
  · rintro σ H1 ⟨o6, o7, o8, o9, o10, g, vbs, vhs, rfl, hG, hok, hF⟩
    rw [List.drop_length] at hF
    have hF' : foldF more 0 cells ⟨[.nil], [], ns⟩ = g := hF
    have ok100 : g.Ok 100 := ⟨hok.len, by have := hok.wt; omega, by have := hok.n; omega, by have := hok.sc; omega, hok.wl⟩
    have eG : grownF cells ns more = (match (closes 400 g).bs with | b :: _ => b | [] => .nil) := by
      unfold grownF
      rw [hF']
      all_goals rfl
    refine ⟨WGrown H a b c lb lh ls g, ⟨g.wt, o6, o7, o8, o9, o10, g, vbs, vhs, 400, rfl, hG, ok100, rfl, by have := ok100.wt; omega, rfl⟩, ?_⟩
    rintro m σ H2 ⟨o6, o7, o8, o9, o10, g2, vbs2, vhs2, j, rfl, hG2, hok2, hj, hwj, rfl⟩
    have hbl := plen hG2.bs
    have hhl := plen hG2.hs
    rw [List.length_reverse] at hbl hhl
    have hlen := hok2.len
    have hwt := hok2.wt
    have hhs : g2.hs.length ≤ g2.wt := by
      have : ∀ l : List Hd, l.length ≤ (l.map Hd.wt).sum := fun l => by
        induction l with
        | nil => exact Nat.le_refl _
        | cons x l ih =>
          have : 1 ≤ x.wt := by cases x <;> simp [Hd.wt]
          rw [List.map_cons, List.sum_cons, List.length_cons]; omega
      exact this _
    refine ⟨_, rfl, Nat.zero_le _, fun p hp => ⟨_, _, _, rfl, rfl, SqL.of (same_new hp _ _ _ hG2.eh), SqL.of upd_same, _, rfl, ?_⟩⟩
    have hG3 := hG2.grow (same_new hp (.lst []))
    generalize upd H2 p (.lst []) = H3 at hG3
    by_cases hh : g2.hs = []
    · have ev : vhs2 = [] := List.length_eq_zero_iff.mp (by rw [hhl, hh]; rfl)
      subst ev
      refine iteF' rfl ?_
      rw [closes_nil j g2 hh] at hj
      rw [hj] at eG
      obtain ⟨bs, hs, sc⟩ := g2
      match bs, hlen with
      | [b1], hlen =>
        have eG' : grownF cells ns more = b1 := eG
        have hb1 := hG3.bs
        obtain ⟨vb2, v, evb, hv, hr2⟩ := prev hb1
        have ev2 : vb2 = [] := by
          have := plen hr2
          rw [List.length_reverse] at this
          exact List.length_eq_zero_iff.mp (by rw [this]; rfl)
        subst ev2
        subst evb
        obtain ⟨pb, vs, rfl, n1, n2, n3, h0, ep, hb⟩ := hv
        refine ⟨_, rfl, _, _, rfl, .inl (SqL.of (hG3.S _ _ hN)), fun pl hpl => ?_⟩
        have S4 := same_new hpl (.lst (ns.map V.str))
        refine ⟨_, rfl, _, _, _, _, rfl, rfl, SqL.of (S4 _ _ hG3.eb), at0, two, fun r hr' => ?_⟩
        have S5 := same_new hr' (.tup [.ref pl, .ref pb])
        have S45 := S4.trans S5
        refine q r pl pb vs _ (hG3.S.trans S45) upd_same (S5 _ _ upd_same) (S45 _ _ ep) ?_
        rw [eG']
        exact hb.mono (.of S45) S45.tup fun _ _ z => z.elim
      | [], hlen => simp at hlen
      | _ :: _ :: _, hlen => rw [hh] at hlen; simp at hlen
    · have ev : vhs2.isEmpty = false := by
        cases vhs2 with
        | nil => exact absurd (List.length_eq_zero_iff.mp (by rw [← hhl]; rfl)) hh
        | cons _ _ => rfl
      refine iteT' (by rw [ev]; rfl) ?_
      refine ⟨fun σ' H'' => ∃ m', m' < g2.wt ∧ WGrown H a b c lb lh ls g m' σ' H'', fun σ' H'' z => z, ?_⟩
      obtain ⟨okc, wtc⟩ := closeF_ok (salt := 1) hok2 hh
      refine ⟨_, rfl, _, rfl, _, rfl, lb, lh, ls, 1, H, g2, vbs2, vhs2, 100, rfl, hG3, hh, hok2, by omega, by omega, by omega, fun H' vbs' vhs' z => ?_⟩
      match j, hwj, hj with
      | 0, hwj, _ => omega
      | j + 1, hwj, hj =>
        exact ⟨(closeF 1 g2).wt, by omega, o6, o7, o8, o9, o10, closeF 1 g2, vbs', vhs', j, rfl, z, okc, hj, by omega, rfl⟩
end
end W05

set_option Elab.async false
set_option linter.all false
set_option maxRecDepth 100000
set_option maxHeartbeats 4000000
namespace W05
open PySem L2 J
section
variable {P : Program} {w : World} {K : PySem.W.Frag} {mg : Str → Option Value} {base : Heap}
/-! ### _law_names_of -/
def spNames : Sp := fun vs H Q _ => ∃ cell : Int, vs = [.int cell] ∧ ∀ (p : Addr) (ns : List Str) (H' : Hp), Same H H' → H p = none → H' p = some (.lst (ns.map V.str)) → ns.length ≤ 9 → (∀ x ∈ ns, x.length ≤ 100) → Q (.ref p) H'
def PNames1 (H : Hp) (cell : Int) (D : Addr) (k : Nat) (σ : St) (H' : Hp) : Prop :=
  ∃ o2 o3 o4 ys, σ = [some (.int cell), some (.ref D), o2, o3, o4, none, none, none] ∧ Same H H' ∧ H' D = some (.lst (List.map V.str ys)) ∧ ys.length = k ∧ ∀ x ∈ ys, x.length ≤ 100
def PNames2 (H : Hp) (cell size spot : Int) (D : Addr) (n k : Nat) (σ : St) (H' : Hp) : Prop :=
  ∃ o2 o3 o4 ys, σ = [some (.int cell), some (.ref D), o2, o3, o4, some (.int size), some (.int spot), some (.str "abcdefghijklmnopqrstuvwxyz")] ∧ Same H H' ∧ H' D = some (.lst (List.map V.str ys)) ∧ ys.length = n ∧ ∀ x ∈ ys, x.length ≤ 100
theorem ok_law_names_of (T : Txt K mg) : FnOk P w K mg base CX0 1 T.f_law_names_of T.fd_law_names_of ["_law_cell"] spNames := by
  refine T.law_names_of.F.ok sc_law_names_of (fun vs H Q E h => ?_) (fun cdv A outer s H vs Q E hr h => ?_)
  · obtain ⟨cell, rfl, _⟩ := h; rfl
  obtain ⟨cell, rfl, q⟩ := h
  refine ⟨_, (pss_cons (ps_set (i := 1) sc_law_names_of.nd rfl (Or.inl rfl) (pe_lst pa_nil))
    (pss_cons (ps_for PassesOwn.never rfl (pi_range1 rfl T.b_range (pa_cons (pe_ix ix_list (pe_lst (pa_cons pe_int (pa_cons pe_int (pa_cons pe_int (pa_cons pe_int (pa_cons pe_int (pa_cons pe_int (pa_cons pe_int (pa_cons pe_int pa_nil))))))))) (pe_op op_mod (pv 0) pe_int) (fun _ _ => rfl)) pa_nil)) (pg_name (i := 2) sc_law_names_of.nd rfl (Or.inl rfl)) (pss_cons (ps_set (i := 3) sc_law_names_of.nd rfl (Or.inl rfl) (pe_ix ix_str pe_str (pe_op op_mod (pe_op op_add (pe_op op_fdiv (pv 0) pe_int) (pe_op op_mulB (pe_op op_mulB pe_int (pv 2)) (pe_callTy call_int1 rfl T.b_int bt_int (pa_cons (pe_cmpR op_gt (pe_op op_mod (pv 0) pe_int) pe_int (nomark _)) pa_nil)))) pe_int) (fun _ _ => rfl)))
    (pss_cons (ps_set (i := 4) sc_law_names_of.nd rfl (Or.inl rfl) (pe_op op_add_str (pe_ix ix_list (pe_lst (pa_cons pe_str (pa_cons pe_str (pa_cons pe_str (pa_cons pe_str pa_nil))))) (pe_op op_mod (pv 2) pe_int) (fun _ _ => rfl)) (pe_op op_rep_str pe_str (pe_op op_mulB (pe_op op_fdiv (pv 2) pe_int) pe_int))))
    (pss_one (ps_expr (pe_bm PySem.F.plainAttrs_list PySem.F.slot_list_append PySem.F.type_list_append mt_append (pv 1) (pa_cons (pe_op op_add_str (pv 3) (pe_ix ix_list (pe_lst (pa_cons (pv 4) (pa_cons pe_str pa_nil))) (pe_callTy call_int1 rfl T.b_int bt_int (pa_cons (pe_cmpR op_eq (pe_op op_mod (pv 0) pe_int) pe_int (nomark _)) pa_nil)) (fun _ _ => rfl))) pa_nil)))))))
    (pss_consM (ps_if (PW.pt (pw_and (pt_cmpR op_eq (pe_op op_mod (pe_op op_fdiv (pv 0) pe_int) pe_int) pe_int (nomark _)) (pw_and1 (pt_cmpR op_gt (pe_op op_mod (pv 0) pe_int) pe_int (nomark _))))) (pss_cons (ps_set (i := 5) sc_law_names_of.nd rfl (Or.inl rfl) (pe_op op_add pe_int (pe_op op_mod (pe_op op_fdiv (pv 0) pe_int) pe_int)))
    (pss_cons (ps_set (i := 6) sc_law_names_of.nd rfl (Or.inl rfl) (pe_op op_mod (pe_op op_fdiv (pv 0) pe_int) (pv 5)))
    (pss_cons (ps_set (i := 7) sc_law_names_of.nd rfl (Or.inl rfl) pe_str)
    (pss_one (ps_for PassesOwn.never rfl (pi_range1 rfl T.b_range (pa_cons (pe_callB call_len_seq rfl T.b_len PySem.boot_len (pa_cons (pv 1) pa_nil)) pa_nil)) (pg_name (i := 2) sc_law_names_of.nd rfl (Or.inl rfl)) (pss_cons (ps_set (i := 3) sc_law_names_of.nd rfl (Or.inl rfl) (pe_ix ix_str (pv 7) (pe_op op_mod (pe_op op_add (pe_op op_fdiv (pv 0) pe_int) (pe_op op_mulB pe_int (pv 2))) pe_int) (fun _ _ => rfl)))
    (pss_one (ps_asg (pe_op op_add_str (pe_op op_add_str (pe_slice sl_str pe_str po_none (po_some (pv 6))) (pv 3)) (pe_slice sl_str pe_str (po_some (pe_op op_add (pv 6) pe_int)) (po_some (pv 5)))) (pg_sub (pv 1) (pv 2) set_list))))))))) pss_nil)
    (pss_one (ps_ret (pv 1)))))), ?_⟩
  have two : (2 : Nat) ≤ sizeLine := by decide
  have four : (4 : Nat) ≤ sizeLine := by decide
  have eight : (8 : Nat) ≤ sizeLine := by decide
  refine ⟨Nat.zero_le _, fun D hD => ?_⟩
  have S0 := same_new hD (.lst [])
  have eD : upd H D (.lst []) D = some (.lst (List.map V.str [])) := upd_same
  generalize upd H D (.lst []) = H1 at S0 eD
  have hn : ∃ n : Nat, n ≤ 9 ∧ atI [V.int 0, V.int 1, V.int 2, V.int 3, V.int 4, V.int 5, V.int 6, V.int 9] (cell % 8) = some (.int n) := by
    have h8 : cell % 8 = 0 ∨ cell % 8 = 1 ∨ cell % 8 = 2 ∨ cell % 8 = 3 ∨ cell % 8 = 4 ∨ cell % 8 = 5 ∨ cell % 8 = 6 ∨ cell % 8 = 7 := by omega
    rcases h8 with h | h | h | h | h | h | h | h <;> rw [h]
    · exact ⟨0, by decide, rfl⟩
    · exact ⟨1, by decide, rfl⟩
    · exact ⟨2, by decide, rfl⟩
    · exact ⟨3, by decide, rfl⟩
    · exact ⟨4, by decide, rfl⟩
    · exact ⟨5, by decide, rfl⟩
    · exact ⟨6, by decide, rfl⟩
    · exact ⟨9, by decide, rfl⟩
  obtain ⟨n, hn9, hat⟩ := hn
  refine ⟨eight, fun pr hpr => ⟨_, rfl, _, _, rfl, rfl, (by show (0 : Int) < _; decide), _, _, _, _, rfl, rfl, SqL.of upd_same, hat, _, rfl, by omega, by omega, ?_⟩⟩
  have hcnt : ((n : Nat) : Int).toNat = n := rfl
  rw [hcnt]
  have S1 := same_new hpr (.lst [V.int 0, V.int 1, V.int 2, V.int 3, V.int 4, V.int 5, V.int 6, V.int 9])
  refine for_range (PNames1 H cell D) ⟨none, none, none, [], rfl, S0.trans S1, S1 _ _ eD, rfl, fun x hx => by simp at hx⟩ ?_ ?_
  · rintro k σ H2 hk ⟨o2, o3, o4, ys, rfl, S, hys, hlen, hsm⟩
    obtain ⟨ch, hch⟩ := atI_any (l := (PySem.Str.ofString "abcdefghijklmnopqrstuvwxyz").cps.toList) (i := (cell / 5 + 7 * (0 + (k : Int)) * (if decide (0 < cell % 3) = true then 1 else 0)) % 26) (by omega) (by
      have : (PySem.Str.ofString "abcdefghijklmnopqrstuvwxyz").cps.toList.length = 26 := by decide +kernel
      rw [this]; omega)
    refine ⟨_, rfl, _, _, rfl, rfl, cdiv rfl, _, rfl, _, _, rfl, rfl, mul_small rfl, _, rfl, _, _, rfl, rfl, (by show (0 : Int) < _; decide), _, _, rfl, rfl, .inr ⟨_, rfl, _, _, rfl, rfl, (by split <;> exact mul_smallR rfl), _, _, rfl, rfl, _, _, rfl, rfl, (by show (0 : Int) < _; decide), _, _, ch, rfl, rfl, by decide, hch, ?_⟩⟩
    have hm : ∃ z : Str, z.length ≤ 7 ∧ atI [V.str "", V.str "g", V.str "gh", V.str "ghijklm"] ((0 + (k : Int)) % 4) = some (.str z) := by
      have h4 : (0 + (k : Int)) % 4 = 0 ∨ (0 + (k : Int)) % 4 = 1 ∨ (0 + (k : Int)) % 4 = 2 ∨ (0 + (k : Int)) % 4 = 3 := by omega
      rcases h4 with h | h | h | h <;> rw [h]
      · exact ⟨_, by decide, rfl⟩
      · exact ⟨_, by decide, rfl⟩
      · exact ⟨_, by decide, rfl⟩
      · exact ⟨_, by decide, rfl⟩
    obtain ⟨z, hz, hzat⟩ := hm
    have hk2 : (0 + (k : Int)) / 4 = 0 ∨ (0 + (k : Int)) / 4 = 1 ∨ (0 + (k : Int)) / 4 = 2 := by omega
    have hrl : (repS "g" ((0 + (k : Int)) / 4 * 3)).length ≤ 6 := by rcases hk2 with h | h | h <;> rw [h] <;> decide +kernel
    refine ⟨four, fun p1 hp1 => ⟨_, rfl, _, _, rfl, rfl, (by show (0 : Int) < _; decide), _, _, _, _, rfl, rfl, SqL.of upd_same, hzat, _, rfl, _, _, rfl, rfl, cdiv rfl, _, _, rfl, rfl, mul_smallR rfl, _, _, rfl, rfl, ⟨by omega, by omega, by decide⟩, by rw [sizeLine_eq]; omega, _, _, rfl, rfl, by rw [sizeLine_eq]; omega, ?_⟩⟩
    have S2 := same_new hp1 (.lst [V.str "", V.str "g", V.str "gh", V.str "ghijklm"])
    have hys2 := S2 _ _ hys
    have SS := S.trans S2
    generalize upd H2 p1 (.lst [V.str "", V.str "g", V.str "gh", V.str "ghijklm"]) = H3 at hys2 SS
    have hml : (z ++ repS "g" ((0 + (k : Int)) / 4 * 3)).length ≤ 13 := by rw [Str.length_append]; omega
    generalize z ++ repS "g" ((0 + (k : Int)) / 4 * 3) = mo at hml
    have hw : ∃ y : Str, y.length ≤ 13 ∧ atI [V.str mo, V.str ""] (if decide (V.int (cell % 3) = V.int 2) = true then 1 else 0) = some (.str y) := by
      split
      · exact ⟨_, by decide, rfl⟩
      · exact ⟨mo, hml, rfl⟩
    obtain ⟨y, hy, hyat⟩ := hw
    refine ⟨_, rfl, .inl ⟨rfl, _, SqL.of hys2⟩, _, rfl, _, rfl, two, fun p2 hp2 => ⟨_, rfl, _, _, rfl, rfl, (by show (0 : Int) < _; decide), rfl, .inr ⟨_, rfl, _, _, _, _, rfl, rfl, SqL.of upd_same, hyat, _, _, rfl, rfl, ?_, ?_⟩⟩⟩
    · rw [sizeLine_eq]; show 1 + y.length ≤ _; omega
    have S3 := same_new hp2 (.lst [V.str mo, V.str ""])
    refine ⟨_, _, _, rfl, rfl, S3 _ _ hys2, by rw [List.length_map, hlen, sizeLine_eq]; omega, ?_⟩
    refine ⟨_, _, _, ys ++ [⟨#[ch]⟩ ++ y], rfl, Same.at (SS.trans S3) (by first | exact hD | exact S0.free hD) _, ?_, ?_, ?_⟩
    · rw [upd_same, List.map_append]; rfl
    · rw [List.length_append, hlen]; rfl
    · intro x hx
      rcases List.mem_append.mp hx with hx | hx
      · exact hsm x hx
      · have := List.mem_singleton.mp hx
        subst this
        rw [Str.length_append]
        show 1 + y.length ≤ 100
        omega
  · rintro σ H2 ⟨o2, o3, o4, ys, rfl, S, hys, hlen, hsm⟩
    refine ⟨fun σ' H' => ∃ o2 o3 o4 o5 o6 o7 ys, σ' = [some (.int cell), some (.ref D), o2, o3, o4, o5, o6, o7] ∧ Same H H' ∧ H' D = some (.lst (List.map V.str ys)) ∧ ys.length = n ∧ ∀ x ∈ ys, x.length ≤ 100, ?_, ?_⟩
    · refine ⟨_, rfl, _, _, rfl, rfl, cdiv rfl, _, _, rfl, rfl, (by show (0 : Int) < _; decide), rfl, _, rfl, ?_⟩
      have hB : ∃ (o2' o3' o4' o5' o6' o7' : Option V) (ys' : List Str), [some (V.int cell), some (.ref D), o2, o3, o4, none, none, none] = [some (V.int cell), some (.ref D), o2', o3', o4', o5', o6', o7'] ∧ Same H H2 ∧ H2 D = some (.lst (List.map V.str ys')) ∧ ys'.length = n ∧ ∀ x ∈ ys', x.length ≤ 100 := ⟨_, _, _, _, _, _, ys, rfl, S, hys, hlen, hsm⟩
      · refine ite2 (fun c => ?_) (fun c => iteF hB)
        refine ⟨_, rfl, _, _, rfl, rfl, (by show (0 : Int) < _; decide), _, _, rfl, rfl, _, rfl, ?_⟩
        refine ite2 (fun c => ?_) (fun c => hB)
        have hpos : (0 : Int) < 1 + cell / 480 % 6 := by omega
        refine ⟨_, rfl, _, _, rfl, rfl, cdiv rfl, _, _, rfl, rfl, (by show (0 : Int) < _; decide), _, _, rfl, rfl, ?_⟩
        refine ⟨_, rfl, _, _, rfl, rfl, cdiv rfl, _, rfl, _, _, rfl, rfl, hpos, ?_⟩
        refine ⟨_, rfl, _, _, rfl, .inl (SqL.of hys), _, rfl, by omega, by rw [List.length_map]; omega, ?_⟩
        have hcnt2 : (((List.map V.str ys).length : Nat) : Int).toNat = n := by rw [List.length_map, hlen]; rfl
        rw [hcnt2]
        refine for_range (PNames2 H cell (1 + cell / 480 % 6) (cell / 2880 % (1 + cell / 480 % 6)) D n) ⟨_, _, _, ys, rfl, S, hys, hlen, hsm⟩ ?_ ?_
        · rintro k σ H3 hk ⟨o2, o3, o4, ys, rfl, S, hys, hlen, hsm⟩
          obtain ⟨ch, hch⟩ := atI_any (l := (PySem.Str.ofString "abcdefghijklmnopqrstuvwxyz").cps.toList) (i := (cell / 5 + 7 * (0 + (k : Int))) % 26) (by omega) (by
            have : (PySem.Str.ofString "abcdefghijklmnopqrstuvwxyz").cps.toList.length = 26 := by decide +kernel
            rw [this]; omega)
          refine ⟨_, rfl, _, rfl, _, _, rfl, rfl, cdiv rfl, _, rfl, _, _, rfl, rfl, mul_small rfl, _, _, rfl, rfl, _, _, rfl, rfl, (by show (0 : Int) < _; decide), _, _, ch, rfl, rfl, by decide, hch, ?_⟩
          refine ⟨_, rfl, _, rfl, _, rfl, by decide, _, rfl, _, _, rfl, rfl, ?_, ?_⟩
          · exact Nat.le_trans (Nat.add_le_add_right (Txt.slice_le _ _ _) _) (by show (PySem.Str.ofString "ghijkl").length + 1 ≤ sizeLine; decide)
          refine ⟨_, rfl, _, _, rfl, rfl, _, rfl, _, rfl, _, rfl, _, rfl, by decide, _, _, rfl, rfl, ?_, ?_⟩
          · have l1 := Txt.slice_le "ghijkl" none (some (cell / 2880 % (1 + cell / 480 % 6)))
            have l2 := Txt.slice_le "ghijkl" (some (cell / 2880 % (1 + cell / 480 % 6) + 1)) (some (1 + cell / 480 % 6))
            have l3 : (PySem.Str.ofString "ghijkl").length = 6 := by decide
            have l4 : (⟨#[ch]⟩ : Str).length = 1 := rfl
            rw [Str.length_append, sizeLine_eq]
            rw [l3] at l1 l2
            omega
          refine ⟨_, rfl, _, rfl, D, _, _, k, rfl, rfl, hys, ?_, ?_⟩
          · unfold ixN
            rw [List.length_map, hlen]
            simp
            omega
          refine ⟨_, _, _, ys.set k (Txt.slice "ghijkl" none (some (cell / 2880 % (1 + cell / 480 % 6))) ++ ⟨#[ch]⟩ ++ Txt.slice "ghijkl" (some (cell / 2880 % (1 + cell / 480 % 6) + 1)) (some (1 + cell / 480 % 6))), rfl, Same.at S hD _, ?_, by rw [List.length_set, hlen], ?_⟩
          · rw [upd_same, List.map_set]
          · intro x hx
            rcases List.mem_or_eq_of_mem_set hx with hx | hx
            · exact hsm x hx
            · subst hx
              have l1 := Txt.slice_le "ghijkl" none (some (cell / 2880 % (1 + cell / 480 % 6)))
              have l2 := Txt.slice_le "ghijkl" (some (cell / 2880 % (1 + cell / 480 % 6) + 1)) (some (1 + cell / 480 % 6))
              have l3 : (PySem.Str.ofString "ghijkl").length = 6 := by decide
              have l4 : (⟨#[ch]⟩ : Str).length = 1 := rfl
              rw [Str.length_append, Str.length_append]
              rw [l3] at l1 l2
              omega
        · rintro σ H3 ⟨o2, o3, o4, ys, rfl, S, hys, hlen, hsm⟩
          exact ⟨_, _, _, _, _, _, ys, rfl, S, hys, hlen, hsm⟩
    · rintro σ' H' ⟨o2, o3, o4, o5, o6, o7, ys, rfl, S, hys, hlen, hsm⟩
      exact ⟨_, rfl, q D ys H' S hD hys (by omega) hsm⟩
end
end W05

set_option Elab.async false
set_option linter.all false
set_option maxRecDepth 100000
set_option maxHeartbeats 4000000
namespace W05
open PySem L2 J
section
variable {P : Program} {w : World} {K : PySem.W.Frag} {mg : Str → Option Value} {base : Heap}
/-! ### _law_alike -/
def spAlike (K : PySem.W.Frag) : Sp := fun vs H Q _ => ∃ (u v : V) (n : Nat), vs = [u, v] ∧ AlkL K H [u] [v] n ∧ n ≤ 10000000 ∧ ∀ H', Same H H' → Q (.bl true) H'
def WAlike (K : PySem.W.Frag) (H : Hp) (u v : V) (l r : Addr) (n m : Nat) (σ : St) (H' : Hp) : Prop :=
  ∃ left right o4 o5, σ = [some u, some v, some (.ref l), some (.ref r), o4, o5] ∧ Same H H' ∧ H' l = some (.lst left) ∧ H' r = some (.lst right) ∧ AlkL K H left right m ∧ m ≤ n
theorem ok_law_alike (T : Txt K mg) : FnOk P w K mg base CX0 2 T.f_law_alike T.fd_law_alike ["_law_found", "_law_due"] (spAlike K) := by
  have G_law_whole := ok_law_whole (P := P) (w := w) (base := base) T
  refine T.law_alike.F.ok sc_law_alike (fun vs H Q E h => ?_) (fun cdv A outer s H vs Q E hr h => ?_)
  · obtain ⟨u, v, n, rfl, _⟩ := h; rfl
  obtain ⟨u, v, n, rfl, ha, hn, q⟩ := h
  refine ⟨_, (pss_cons (ps_set (i := 2) sc_law_alike.nd rfl (Or.inl rfl) (pe_lst (pa_cons (pv 0) pa_nil)))
    (pss_cons (ps_set (i := 3) sc_law_alike.nd rfl (Or.inl rfl) (pe_lst (pa_cons (pv 1) pa_nil)))
    (pss_cons (ps_while PassesOwn.never (pt_cmpR (op_neNil hr.units0) (pv 3) (pe_lst pa_nil) (nomark _)) (pss_cons (ps_set (i := 4) sc_law_alike.nd rfl (Or.inl rfl) (pe_bm0 PySem.F.plainAttrs_list PySem.F.slot_list_pop PySem.F.type_list_pop mt_pop (pv 2)))
    (pss_cons (ps_set (i := 5) sc_law_alike.nd rfl (Or.inl rfl) (pe_bm0 PySem.F.plainAttrs_list PySem.F.slot_list_pop PySem.F.type_list_pop mt_pop (pv 3)))
    (pss_one (ps_if (pt_val (pe_callB call_isiTP rfl T.b_isinstance bt_isinstance (pa_cons (pv 5) (pa_cons (pe_tup (pa_cons (pe_bltn (v := .ty "list") rfl T.b_list bt_list rfl) (pa_cons (pe_bltn (v := .ty "tuple") rfl T.b_tuple bt_tuple rfl) pa_nil))) pa_nil)))) (pss_cons (ps_if (pt_cmpR op_ne (pe_callB call_isiP rfl T.b_isinstance bt_isinstance (pa_cons (pv 4) (pa_cons (pe_bltn (v := .ty "list") rfl T.b_list bt_list rfl) pa_nil))) (pe_callB call_isiP rfl T.b_isinstance bt_isinstance (pa_cons (pv 5) (pa_cons (pe_bltn (v := .ty "list") rfl T.b_list bt_list rfl) pa_nil))) (nomark _)) (pss_one (ps_ret pe_bl)) pss_nil)
    (pss_cons (ps_if (PW.pt (pw_or (pt_cmpR op_ne (pe_callB call_isiP rfl T.b_isinstance bt_isinstance (pa_cons (pv 4) (pa_cons (pe_bltn (v := .ty "tuple") rfl T.b_tuple bt_tuple rfl) pa_nil))) (pe_callB call_isiP rfl T.b_isinstance bt_isinstance (pa_cons (pv 5) (pa_cons (pe_bltn (v := .ty "tuple") rfl T.b_tuple bt_tuple rfl) pa_nil))) (nomark _)) (pw_or1 (pt_cmpR op_ne (pe_callB call_len_seq rfl T.b_len PySem.boot_len (pa_cons (pv 4) pa_nil)) (pe_callB call_len_seq rfl T.b_len PySem.boot_len (pa_cons (pv 5) pa_nil)) (nomark _))))) (pss_one (ps_ret pe_bl)) pss_nil)
    (pss_cons (ps_expr (pe_bm PySem.F.plainAttrs_list PySem.F.slot_list_extend PySem.F.type_list_extend mt_extendP (pv 2) (pa_cons (pv 4) pa_nil)))
    (pss_one (ps_expr (pe_bm PySem.F.plainAttrs_list PySem.F.slot_list_extend PySem.F.type_list_extend mt_extendP (pv 3) (pa_cons (pv 5) pa_nil))))))) (pss_one (ps_if (pt_val (pe_callB call_isiP rfl T.b_isinstance bt_isinstance (pa_cons (pv 5) (pa_cons (pe_bltn (v := .ty "str") rfl T.b_str bt_str rfl) pa_nil)))) (pss_one (ps_if (PW.pt (pw_or (pt_not (pt_val (pe_callB call_isiP rfl T.b_isinstance bt_isinstance (pa_cons (pv 4) (pa_cons (pe_bltn (v := .ty "str") rfl T.b_str bt_str rfl) pa_nil))))) (pw_or1 (pt_cmpR op_ne (pv 4) (pv 5) (nomark _))))) (pss_one (ps_ret pe_bl)) pss_nil)) (pss_one (ps_if (PW.pt (pw_or (pt_not (pt_val (pe_call G_law_whole hr rfl T.law_whole.m T.law_whole.F.kp T.law_whole.b .nil pass0 (pa_cons (pv 4) pa_nil)))) (pw_or1 (pt_cmpR op_ne (pv 4) (pv 5) (nomark _))))) (pss_one (ps_ret pe_bl)) pss_nil)))))))))
    (pss_one (ps_ret pe_bl))))), ?_⟩
  have one : (1 : Nat) ≤ sizeLine := by decide
  refine ⟨_, rfl, one, fun l hl => ?_⟩
  refine ⟨_, rfl, one, fun r hr' => ?_⟩
  have S1 : Same H (upd H l (.lst [u])) := same_new hl _
  have S2 : Same (upd H l (.lst [u])) (upd (upd H l (.lst [u])) r (.lst [v])) := same_new hr' _
  have hlr : l ≠ r := ne_of_none upd_same hr'
  have hrH : H r = none := S1.free hr'
  refine ⟨WAlike K H u v l r n, ⟨n, [u], [v], none, none, rfl, S1.trans S2, S2 _ _ upd_same, upd_same, ha, Nat.le_refl _⟩, ?_⟩
  rintro m σ H' ⟨left, right, o4, o5, rfl, S, hL, hR, hk, hm⟩
  refine ⟨_, rfl, Nat.zero_le _, fun p hp => ?_⟩
  have Sp : Same H' (upd H' p (.lst [])) := same_new hp _
  refine ⟨_, _, _, rfl, rfl, SqL.of (Sp _ _ hR), SqL.of upd_same, _, rfl, ?_⟩
  rcases hk.last with ⟨rfl, rfl⟩ | ⟨xs', ys', x, y, m1, k1, rfl, rfl, h1, h2, rfl⟩
  · exact iteF' rfl (q _ (S.trans Sp))
  refine iteT' (by simp) ?_
  refine ⟨fun σ' H'' => ∃ m', m' < m1 + k1 ∧ WAlike K H u v l r n m' σ' H'', fun σ' H'' z => z, ?_⟩
  have SH1 : Same H (upd H' p (.lst [])) := S.trans Sp
  have hL1 := Sp _ _ hL
  have hR1 := Sp _ _ hR
  generalize upd H' p (.lst []) = H1 at SH1 hL1 hR1
  refine ⟨_, rfl, .inl ⟨rfl, _, SqL.of hL1⟩, _, _, _, rfl, rfl, hL1, last_get xs' x, ?_⟩
  refine ⟨_, rfl, .inl ⟨rfl, _, SqL.of (by rw [upd_ne hlr.symm]; exact hR1)⟩, _, _, _, rfl, rfl, (by rw [upd_ne hlr.symm]; exact hR1), last_get ys' y, ?_⟩
  rw [List.dropLast_concat, List.dropLast_concat]
  have SH3 : Same H (upd (upd H1 l (.lst xs')) r (.lst ys')) := Same.at (Same.at SH1 hl _) hrH _
  have hL3 : upd (upd H1 l (.lst xs')) r (.lst ys') l = some (.lst xs') := by rw [upd_ne hlr]; exact upd_same
  have hR3 : upd (upd H1 l (.lst xs')) r (.lst ys') r = some (.lst ys') := upd_same
  generalize upd (upd H1 l (.lst xs')) r (.lst ys') = H3 at SH3 hL3 hR3
  have two : (2 : Nat) ≤ sizeLine := by decide
  refine ⟨_, rfl, two, fun p3 hp3 => ?_⟩
  have S3 : Same H3 (upd H3 p3 (.tup [V.ty "list", V.ty "tuple"])) := same_new hp3 _
  have SH4 := SH3.trans S3
  have hL4 := S3 _ _ hL3
  have hR4 := S3 _ _ hR3
  have hT4 : upd H3 p3 (.tup [V.ty "list", V.ty "tuple"]) p3 = some (.tup (["list", "tuple"].map V.ty)) := upd_same
  cases h2 with
  | int i =>
    refine ⟨_, "int", _, ["list", "tuple"], false, rfl, .inl (.int i), hT4, by decide +kernel, _, rfl, iteF' rfl ?_⟩
    refine ⟨_, rfl, _, "int", _, false, rfl, .inl (.int i), by decide +kernel, _, rfl, iteF' rfl ?_⟩
    refine ⟨_, rfl, i, rfl, _, rfl, iteF' rfl ?_⟩
    refine ⟨_, rfl, _, rfl, rfl, _, rfl, iteF' (by simp) ?_⟩
    exact ⟨m1, by omega, xs', ys', _, _, rfl, SH4, hL4, hR4, h1, by omega⟩
  | str z =>
    refine ⟨_, "str", _, ["list", "tuple"], false, rfl, .inl (.str z), hT4, by decide +kernel, _, rfl, iteF' rfl ?_⟩
    refine ⟨_, rfl, _, "str", _, true, rfl, .inl (.str z), by decide +kernel, _, rfl, iteT' rfl ?_⟩
    refine ⟨_, rfl, _, "str", _, true, rfl, .inl (.str z), by decide +kernel, _, rfl, iteF' rfl ?_⟩
    refine ⟨_, rfl, _, rfl, rfl, _, rfl, iteF' (by simp) ?_⟩
    exact ⟨m1, by omega, xs', ys', _, _, rfl, SH4, hL4, hR4, h1, by omega⟩
  | @tup a b us vs k e1 e2 h3 =>
    have f1 := e1.mono SH4.tup
    have f2 := e2.mono SH4.tup
    have lens := h3.len
    have lens1 := h1.len
    refine ⟨_, "tuple", _, ["list", "tuple"], true, rfl, .inr ⟨rfl, _, _, rfl, f2⟩, hT4, by decide +kernel, _, rfl, iteT' rfl ?_⟩
    refine ⟨_, rfl, _, "tuple", _, false, rfl, .inr ⟨rfl, _, _, rfl, f1⟩, by decide +kernel, _, rfl, _, "tuple", _, false, rfl, .inr ⟨rfl, _, _, rfl, f2⟩, by decide +kernel, rfl, _, rfl, iteF' rfl ?_⟩
    refine ⟨_, rfl, _, "tuple", _, true, rfl, .inr ⟨rfl, _, _, rfl, f1⟩, by decide +kernel, _, rfl, _, "tuple", _, true, rfl, .inr ⟨rfl, _, _, rfl, f2⟩, by decide +kernel, rfl, _, rfl, iteF' rfl ?_⟩
    refine ⟨_, rfl, _, _, rfl, .inr (f1.sq), _, rfl, _, _, rfl, .inr (f2.sq), rfl, _, rfl, iteF' (by rw [lens.1]; simp) ?_⟩
    refine ⟨_, rfl, .inl ⟨rfl, _, SqL.of hL4⟩, _, rfl, _, _, _, _, rfl, rfl, hL4, .inr f1, (by rw [sizeLine_eq]; omega), ?_⟩
    have rl : r ≠ l := hlr.symm
    refine ⟨_, rfl, .inl ⟨rfl, _, SqL.of (by rw [upd_ne rl]; exact hR4)⟩, _, rfl, _, _, _, _, rfl, rfl, (by rw [upd_ne rl]; exact hR4), .inr (f2.mono ((but_upd (l := l) _).tup hL4)), (by rw [sizeLine_eq]; omega), ?_⟩
    refine ⟨m1 + k, by omega, xs' ++ us, ys' ++ vs, _, _, rfl, Same.at (Same.at SH4 hl _) hrH _, ?_, upd_same, h1.app h3, by omega⟩
    rw [upd_ne hlr]; exact upd_same
  | @lst a b us vs k e1 e2 h3 =>
    have f1 := SH4 _ _ e1
    have f2 := SH4 _ _ e2
    have lens := h3.len
    have lens1 := h1.len
    refine ⟨_, "list", _, ["list", "tuple"], true, rfl, .inl (.lst f2), hT4, by decide +kernel, _, rfl, iteT' rfl ?_⟩
    refine ⟨_, rfl, _, "list", _, true, rfl, .inl (.lst f1), by decide +kernel, _, rfl, _, "list", _, true, rfl, .inl (.lst f2), by decide +kernel, rfl, _, rfl, iteF' rfl ?_⟩
    refine ⟨_, rfl, _, "list", _, false, rfl, .inl (.lst f1), by decide +kernel, _, rfl, _, "list", _, false, rfl, .inl (.lst f2), by decide +kernel, rfl, _, rfl, iteF' rfl ?_⟩
    refine ⟨_, rfl, _, _, rfl, .inl (SqL.of f1), _, rfl, _, _, rfl, .inl (SqL.of f2), rfl, _, rfl, iteF' (by rw [lens.1]; simp) ?_⟩
    refine ⟨_, rfl, .inl ⟨rfl, _, SqL.of hL4⟩, _, rfl, _, _, _, _, rfl, rfl, hL4, .inl f1, (by rw [sizeLine_eq]; omega), ?_⟩
    have bl : b ≠ l := ne_of_none e2 hl
    have rl : r ≠ l := hlr.symm
    refine ⟨_, rfl, .inl ⟨rfl, _, SqL.of (by rw [upd_ne rl]; exact hR4)⟩, _, rfl, _, _, _, _, rfl, rfl, (by rw [upd_ne rl]; exact hR4), .inl (by rw [upd_ne bl]; exact f2), (by rw [sizeLine_eq]; omega), ?_⟩
    refine ⟨m1 + k, by omega, xs' ++ us, ys' ++ vs, _, _, rfl, Same.at (Same.at SH4 hl _) hrH _, ?_, upd_same, h1.app h3, by omega⟩
    rw [upd_ne hlr]; exact upd_same
end
section
variable {P : Program} {w : World} {K : PySem.W.Frag} {mg : Str → Option Value} {base : Heap}
/-! ### two of one program are alike -/
theorem isk1 {H : Hp} {u v : V} {s : Sm Str} (h : IsSum H u s) (g : IsSum H v s) : ∃ n, n + 2 ≤ 5 * s.lv ∧ AlkL1 K H u v n := by
  obtain ⟨n, hn, al⟩ := (IsSum.k (K := K) h).alk (IsSum.k g)
  exact ⟨n, hn, al.toL⟩
theorem isk2 {H : Hp} {u v : V} {t : Ts} (h : IsTest H u t) (g : IsTest H v t) : ∃ n, n ≤ 5 * t.sz ∧ AlkL1 K H u v n := (IsTest.k (K := K) h).alk (IsTest.k g)
def _root_.J.Bk.ak : Bk → Nat
  | .nil => 0
  | .set _ a r => 5 * a.lv + 10 + r.ak
  | .say a r => 5 * a.lv + 10 + r.ak
  | .when t b c r => 5 * t.sz + 10 + b.ak + c.ak + r.ak
  | .whil t b r => 5 * t.sz + 10 + b.ak + r.ak
  | .wit _ a b r => 5 * a.lv + 10 + b.ak + r.ak
theorem bk_alk {H : Hp} {vs : List V} {b : Bk} (h : IsBk H noM vs b) : ∀ {ws : List V}, IsBk H noM ws b → ∃ n, n ≤ b.ak ∧ AlkL K H vs ws n := by
  induction h with
  | nil => intro ws g; cases g; exact ⟨0, Nat.le_refl _, .nil⟩
  | @set a x u s vs r e hs _ ih =>
    intro ws g
    cases g with
    | @set a' _ u' _ vs' _ e' hs' g' =>
      obtain ⟨n, hn, al⟩ := ih g'
      obtain ⟨m, hm, al1⟩ := isk1 (K := K) hs hs'
      refine ⟨_, ?_, .tup (.inl e) (.inl e') (.str (.str (.cons1 al1 .nil))) al⟩
      show m + 0 + 1 + 1 + n + 1 ≤ 5 * s.lv + 10 + r.ak
      omega
  | @say a u s vs r e hs _ ih =>
    intro ws g
    cases g with
    | @say a' u' _ vs' _ e' hs' g' =>
      obtain ⟨n, hn, al⟩ := ih g'
      obtain ⟨m, hm, al1⟩ := isk1 (K := K) hs hs'
      refine ⟨_, ?_, .tup (.inl e) (.inl e') (.str (.cons1 al1 .nil)) al⟩
      show m + 0 + 1 + n + 1 ≤ 5 * s.lv + 10 + r.ak
      omega
  | @when a p q u t vb vc vs b c r e ht n1 e1 _ n2 e2 _ _ i1 i2 i3 =>
    intro ws g
    cases g with
    | @when a' p' q' u' _ vb' vc' vs' _ _ _ e' ht' n1' e1' g1 n2' e2' g2 g' =>
      obtain ⟨n, hn, al⟩ := i3 g'
      obtain ⟨nb, hnb, alb⟩ := i1 g1
      obtain ⟨nc, hnc, alc⟩ := i2 g2
      obtain ⟨m, hm, al1⟩ := isk2 (K := K) ht ht'
      refine ⟨_, ?_, .tup (.inl e) (.inl e') (.str (.cons1 al1 (.lst e1 e1' alb (.lst e2 e2' alc .nil)))) al⟩
      show m + (nb + (nc + 0 + 1) + 1) + 1 + n + 1 ≤ 5 * t.sz + 10 + b.ak + c.ak + r.ak
      omega
  | @whil a p u t vb vs b r e ht n1 e1 _ _ i1 i3 =>
    intro ws g
    cases g with
    | @whil a' p' u' _ vb' vs' _ _ e' ht' n1' e1' g1 g' =>
      obtain ⟨n, hn, al⟩ := i3 g'
      obtain ⟨nb, hnb, alb⟩ := i1 g1
      obtain ⟨m, hm, al1⟩ := isk2 (K := K) ht ht'
      refine ⟨_, ?_, .tup (.inl e) (.inl e') (.str (.cons1 al1 (.lst e1 e1' alb .nil))) al⟩
      show m + (nb + 0 + 1) + 1 + n + 1 ≤ 5 * t.sz + 10 + b.ak + r.ak
      omega
  | @wit a p x u s vb vs b r e ht n1 e1 _ _ i1 i3 =>
    intro ws g
    cases g with
    | @wit a' p' _ u' _ vb' vs' _ _ e' ht' n1' e1' g1 g' =>
      obtain ⟨n, hn, al⟩ := i3 g'
      obtain ⟨nb, hnb, alb⟩ := i1 g1
      obtain ⟨m, hm, al1⟩ := isk1 (K := K) ht ht'
      refine ⟨_, ?_, .tup (.inl e) (.inl e') (.str (.str (.cons1 al1 (.lst e1 e1' alb .nil)))) al⟩
      show m + (nb + 0 + 1) + 1 + 1 + n + 1 ≤ 5 * s.lv + 10 + b.ak + r.ak
      omega
theorem sm_lv_fit {s : Sm Str} (h : (Th.s s).fit) : s.lv ≤ 100 := by
  have h1 := s.words_len
  have h2 : s.words.length ≤ 190 := h.2.2.1
  omega
theorem ts_sz_words : ∀ t : Ts, t.sz ≤ t.words.length
  | .less a b => by
    have h1 := a.words_len
    have h2 := b.words_len
    have h3 := a.lv_pos
    have h4 := b.lv_pos
    show a.lv + b.lv + 1 ≤ (a.words ++ b.words).length + 1
    rw [List.length_append]
    omega
  | .same a b => by
    have h1 := a.words_len
    have h2 := b.words_len
    have h3 := a.lv_pos
    have h4 := b.lv_pos
    show a.lv + b.lv + 1 ≤ (a.words ++ b.words).length + 1
    rw [List.length_append]
    omega
  | .not t => by have := ts_sz_words t; show t.sz + 1 ≤ t.words.length + 1; omega
  | .both t u => by
    have h1 := ts_sz_words t
    have h2 := ts_sz_words u
    show t.sz + u.sz + 1 ≤ (t.words ++ u.words).length + 1
    rw [List.length_append]
    omega
theorem ts_sz_fit {t : Ts} (h : (Th.t t).fit) : t.sz ≤ 190 := by
  have h1 := ts_sz_words t
  have h2 : t.words.length ≤ 190 := h.2.2.1
  omega
theorem ak_le : ∀ {b : Bk}, b.fit → b.ak ≤ 1000 * b.n
  | .nil, _ => Nat.le_refl _
  | .set _ a r, h => by
    have h1 := ak_le h.2.2
    have h2 := sm_lv_fit h.2.1
    show 5 * a.lv + 10 + r.ak ≤ 1000 * (r.n + 1)
    omega
  | .say a r, h => by
    have h1 := ak_le h.2
    have h2 := sm_lv_fit h.1
    show 5 * a.lv + 10 + r.ak ≤ 1000 * (r.n + 1)
    omega
  | .when t b c r, h => by
    have h1 := ak_le h.2.1
    have h2 := ak_le h.2.2.1
    have h3 := ak_le h.2.2.2
    have h4 := ts_sz_fit h.1
    show 5 * t.sz + 10 + b.ak + c.ak + r.ak ≤ 1000 * (b.n + c.n + r.n + 1)
    omega
  | .whil t b r, h => by
    have h1 := ak_le h.2.1
    have h3 := ak_le h.2.2
    have h4 := ts_sz_fit h.1
    show 5 * t.sz + 10 + b.ak + r.ak ≤ 1000 * (b.n + r.n + 1)
    omega
  | .wit _ a b r, h => by
    have h1 := ak_le h.2.2.1
    have h3 := ak_le h.2.2.2
    have h4 := sm_lv_fit h.2.1
    show 5 * a.lv + 10 + b.ak + r.ak ≤ 1000 * (b.n + r.n + 1)
    omega
end
end W05

set_option Elab.async false
set_option linter.all false
set_option maxRecDepth 100000
set_option maxHeartbeats 4000000
namespace W05
open PySem L2 J
section
variable {P : Program} {w : World} {K : PySem.W.Frag} {mg : Str → Option Value} {base : Heap}
/-! ### _law_refuses_following, _law_refuses_cards -/
def spRefF (K : PySem.W.Frag) : Sp := fun vs H Q _ => ∃ (r lb a lq : Addr) (us : List V) (ns : List Str) (b : Bk) (ps : List Int), vs = [.ref r, .ref lq] ∧ H r = some (.tup [.ref a, .ref lb]) ∧ H lb = some (.lst us) ∧ IsBk H noM us b ∧ b.dp ≤ 64 ∧ b.wel ∧ b.fit ∧ b.n ≤ 400 ∧
  H a = some (.lst (ns.map V.str)) ∧ ns.length ≤ 9 ∧ H lq = some (.lst (ps.map V.int)) ∧ ps.length = ns.length ∧ ∀ H', Same H H' → Q (.bl (!((b.str ns).map V.str).isEmpty)) H'
theorem ok_law_refuses_following (T : Txt K mg) : FnOk P w K mg base CX0 93 T.f_law_refuses_following T.fd_law_refuses_following ["_law_program", "_law_starts"] (spRefF K) := by
  have G_followed := ok_followed (P := P) (w := w) (base := base) T 64
  refine T.law_refuses_following.F.ok sc_law_refuses_following (fun vs H Q E h => ?_) (fun cdv A outer s H vs Q E hr h => ?_)
  · obtain ⟨r, lb, a, lq, us, ns, b, ps, rfl, _⟩ := h; rfl
  obtain ⟨r, lb, a, lq, us, ns, b, ps, rfl, er, eb, hB, hd, hwl, hft, hbn, ea, hn, eq, hpl, q⟩ := h
  refine ⟨_, (pss_cons (ps_try (hit := fun c => c = .ref T.er.cNoName) rfl rfl (psx_expr (pex_call G_followed hr (fun _ _ z => z) rfl T.followed.m T.followed.F.kp T.followed.b (pa_cons (pv 0) (pa_cons (pv 1) (pa_cons pe_int pa_nil))))) rfl T.er.mNoName (fun c e => e ▸ takes_self T.er.qNoName (by decide)) (fun x => (pss_one (ps_ret pe_bl))))
    (pss_one (ps_ret pe_bl))), ?_⟩
  refine ⟨_, rfl, _, rfl, r, lb, a, lq, us, ns, b, ps, 3, rfl, er, eb, hB, hd, hwl, hft, hbn, ea, by omega, by omega, eq, hpl, by decide, fun hst v H' S => ?_, fun hst H' S => ⟨rfl, ?_⟩⟩
  · have := q H' S
    rw [hst] at this
    exact this
  · have := q H' S
    cases hs : b.str ns with
    | nil => exact absurd hs hst
    | cons x xs => rw [hs] at this; exact this
def spRefC (K : PySem.W.Frag) : Sp := fun vs H Q _ => ∃ (r lb a : Addr) (us : List V) (ns : List Str) (b : Bk), vs = [.ref r] ∧ H r = some (.tup [.ref a, .ref lb]) ∧ H lb = some (.lst us) ∧ IsBk H noM us b ∧ b.dp ≤ 64 ∧ b.wel ∧ b.fit ∧ b.n ≤ 400 ∧
  H a = some (.lst (ns.map V.str)) ∧ ns.length ≤ 9 ∧ ∀ H', Same H H' → Q (.bl (!((b.str ns).map V.str).isEmpty)) H'
theorem ok_law_refuses_cards (T : Txt K mg) : FnOk P w K mg base CX0 90 T.f_law_refuses_cards T.fd_law_refuses_cards ["_law_program"] (spRefC K) := by
  have G_cards_of := ok_cards_of (P := P) (w := w) (base := base) T 64
  refine T.law_refuses_cards.F.ok sc_law_refuses_cards (fun vs H Q E h => ?_) (fun cdv A outer s H vs Q E hr h => ?_)
  · obtain ⟨r, lb, a, us, ns, b, rfl, _⟩ := h; rfl
  obtain ⟨r, lb, a, us, ns, b, rfl, er, eb, hB, hd, hwl, hft, hbn, ea, hn, q⟩ := h
  refine ⟨_, (pss_cons (ps_try (hit := fun c => c = .ref T.er.cNoName) rfl rfl (psx_expr (pex_call G_cards_of hr (fun _ _ z => z) rfl T.cards_of.m T.cards_of.F.kp T.cards_of.b (pa_cons (pv 0) pa_nil))) rfl T.er.mNoName (fun c e => e ▸ takes_self T.er.qNoName (by decide)) (fun x => (pss_one (ps_ret pe_bl))))
    (pss_one (ps_ret pe_bl))), ?_⟩
  refine ⟨_, rfl, r, lb, a, us, ns, b, rfl, er, eb, hB, hd, hwl, hft, by omega, ea, by omega, fun hst v H' S => ?_, fun hst H' S => ⟨rfl, ?_⟩⟩
  · have := q H' S
    rw [hst] at this
    exact this
  · have := q H' S
    cases hs : b.str ns with
    | nil => exact absurd hs hst
    | cons x xs => rw [hs] at this; exact this
/-! ### law -/
def spLaw (K : PySem.W.Frag) : Sp := fun vs H Q _ => ∃ (a : Addr) (ns : List Int), vs = [.ref a] ∧ SqL K H a (ns.map V.int) ∧ ns.length ≤ 63 ∧ ∀ H', Q (.bl true) H'
theorem ok_law (T : Txt K mg) : FnOk P w K mg base CX0 160 T.f_law T.fd_law ["_law_script"] (spLaw K) := by
  have G_law_at := (ok_law_at (P := P) (w := w) (base := base) T).mono (show 1 ≤ 159 by omega)
  have G_law_names_of := (ok_law_names_of (P := P) (w := w) (base := base) T).mono (show 1 ≤ 159 by omega)
  have G_law_grown := (ok_law_grown (P := P) (w := w) (base := base) T).mono (show 6 ≤ 159 by omega)
  have G_law_strange := (ok_law_strange (P := P) (w := w) (base := base) T).mono (show 1 ≤ 159 by omega)
  have G_strangers := (ok_strangers (P := P) (w := w) (base := base) T 64).mono (show 89 ≤ 159 by omega)
  have G_law_refuses_following := (ok_law_refuses_following (P := P) (w := w) (base := base) T).mono (show 93 ≤ 159 by omega)
  have G_law_refuses_cards := (ok_law_refuses_cards (P := P) (w := w) (base := base) T).mono (show 90 ≤ 159 by omega)
  have G_law_alike := (ok_law_alike (P := P) (w := w) (base := base) T).mono (show 2 ≤ 159 by omega)
  refine T.law.F.ok sc_law (fun vs H Q E h => ?_) (fun cdv A outer s H vs Q E hr h => ?_)
  · obtain ⟨a, ns, rfl, _⟩ := h; rfl
  obtain ⟨a, sc, rfl, hS, h63, q⟩ := h
  refine ⟨_, (pss_cons (ps_set (i := 1) sc_law.nd rfl (Or.inl rfl) (pe_call G_law_names_of hr rfl T.law_names_of.m T.law_names_of.F.kp T.law_names_of.b .nil pass0 (pa_cons (pe_call G_law_at hr rfl T.law_at.m T.law_at.F.kp T.law_at.b .nil pass0 (pa_cons (pv 0) (pa_cons pe_int pa_nil))) pa_nil)))
    (pss_cons (ps_set (i := 2) sc_law.nd rfl (Or.inl rfl) (pe_ix ix_list (pe_lst (pa_cons (pe_lst pa_nil) (pa_cons (pe_lst (pa_cons pe_str (pa_cons pe_str pa_nil))) (pa_cons (pe_lst (pa_cons pe_str pa_nil)) (pa_cons (pe_lst (pa_cons pe_str pa_nil)) pa_nil))))) (pe_op op_mod (pe_call G_law_at hr rfl T.law_at.m T.law_at.F.kp T.law_at.b .nil pass0 (pa_cons (pv 0) (pa_cons pe_int pa_nil))) pe_int) (fun _ _ => rfl)))
    (pss_cons (ps_set (i := 3) sc_law.nd rfl (Or.inl rfl) (pe_call G_law_grown hr rfl T.law_grown.m T.law_grown.F.kp T.law_grown.b .nil pass0 (pa_cons (pe_slice sl_list (pv 0) (po_some pe_int) (po_some pe_int)) (pa_cons (pv 1) (pa_cons (pv 2) pa_nil)))))
    (pss_cons (ps_set (i := 4) sc_law.nd rfl (Or.inl rfl) (pe_call G_law_grown hr rfl T.law_grown.m T.law_grown.F.kp T.law_grown.b .nil pass0 (pa_cons (pe_slice sl_list (pv 0) (po_some pe_int) (po_some pe_int)) (pa_cons (pv 1) (pa_cons (pv 2) pa_nil)))))
    (pss_cons (ps_set (i := 5) sc_law.nd rfl (Or.inl rfl) (pe_call G_law_strange hr rfl T.law_strange.m T.law_strange.F.kp T.law_strange.b .nil pass0 (pa_cons (pv 3) pa_nil)))
    (pss_cons (ps_set (i := 6) sc_law.nd rfl (Or.inl rfl) (pe_call G_strangers hr rfl T.strangers.m T.strangers.F.kp T.strangers.b .nil pass0 (pa_cons (pv 4) pa_nil)))
    (pss_cons (ps_if (PW.pt (pw_or (pt_not (pt_val (pe_callB call_isiP rfl T.b_isinstance bt_isinstance (pa_cons (pv 6) (pa_cons (pe_bltn (v := .ty "list") rfl T.b_list bt_list rfl) pa_nil))))) (pw_or1 (pt_not (pt_val (pe_call G_law_alike hr rfl T.law_alike.m T.law_alike.F.kp T.law_alike.b .nil pass0 (pa_cons (pv 6) (pa_cons (pv 5) pa_nil)))))))) (pss_one (ps_ret pe_bl)) pss_nil)
    (pss_cons (ps_if (pt_cmpR op_ne (pe_call G_law_refuses_following hr rfl T.law_refuses_following.m T.law_refuses_following.F.kp T.law_refuses_following.b .nil pass0 (pa_cons (pv 4) (pa_cons (pe_op op_rep (pe_lst (pa_cons pe_int pa_nil)) (pe_callB call_len_seq rfl T.b_len PySem.boot_len (pa_cons (pv 1) pa_nil))) pa_nil))) (pe_cmpR (op_neNil hr.units0) (pv 5) (pe_lst pa_nil) (nomark _)) (nomark _)) (pss_one (ps_ret pe_bl)) pss_nil)
    (pss_one (ps_ret (pe_and (pe_cmpR op_eq (pe_call G_law_refuses_cards hr rfl T.law_refuses_cards.m T.law_refuses_cards.F.kp T.law_refuses_cards.b .nil pass0 (pa_cons (pv 4) pa_nil)) (pe_cmpR (op_neNil hr.units0) (pv 5) (pe_lst pa_nil) (nomark _)) (nomark _)) (pe_one (pe_call G_law_alike hr rfl T.law_alike.m T.law_alike.F.kp T.law_alike.b .nil pass0 (pa_cons (pv 4) (pa_cons (pv 3) pa_nil))))))))))))))), ?_⟩
  have one : (1 : Nat) ≤ sizeLine := by decide
  have two : (2 : Nat) ≤ sizeLine := by decide
  have four : (4 : Nat) ≤ sizeLine := by decide
  refine ⟨_, rfl, a, sc, 0, rfl, hS, h63, ?_⟩
  refine ⟨_, rfl, fun p1 ns H1 S1 f1 e1 hi hln => ?_⟩
  -- more
  refine ⟨Nat.zero_le _, fun m1 hm1 => ⟨two, fun m2 hm2 => ⟨one, fun m3 hm3 => ⟨one, fun m4 hm4 => ⟨four, fun m5 hm5 => ?_⟩⟩⟩⟩⟩
  have M1 := same_new hm1 (.lst [])
  have M2 := same_new hm2 (.lst [V.str "aa", V.str "y"])
  have M3 := same_new hm3 (.lst [V.str "e"])
  have M4 := same_new hm4 (.lst [V.str "y"])
  have M5 := same_new hm5 (.lst [.ref m1, .ref m2, .ref m3, .ref m4])
  have d1 := (M2.trans (M3.trans (M4.trans M5))) _ _ (upd_same (H := H1) (a := m1) (o := .lst []))
  have d2 := (M3.trans (M4.trans M5)) _ _ (upd_same (a := m2) (o := .lst [V.str "aa", V.str "y"]) (H := upd H1 m1 (.lst [])))
  have d3 := (M4.trans M5) _ _ (upd_same (a := m3) (o := .lst [V.str "e"]) (H := upd (upd H1 m1 (.lst [])) m2 (.lst [V.str "aa", V.str "y"])))
  have d4 := M5 _ _ (upd_same (a := m4) (o := .lst [V.str "y"]) (H := upd (upd (upd H1 m1 (.lst [])) m2 (.lst [V.str "aa", V.str "y"])) m3 (.lst [V.str "e"])))
  have d5 : upd (upd (upd (upd (upd H1 m1 (.lst [])) m2 (.lst [V.str "aa", V.str "y"])) m3 (.lst [V.str "e"])) m4 (.lst [V.str "y"])) m5 (.lst [.ref m1, .ref m2, .ref m3, .ref m4]) m5 = some (.lst [.ref m1, .ref m2, .ref m3, .ref m4]) := upd_same
  have MS := M1.trans (M2.trans (M3.trans (M4.trans M5)))
  generalize upd (upd (upd (upd (upd H1 m1 (.lst [])) m2 (.lst [V.str "aa", V.str "y"])) m3 (.lst [V.str "e"])) m4 (.lst [V.str "y"])) m5 (.lst [.ref m1, .ref m2, .ref m3, .ref m4]) = H2 at d1 d2 d3 d4 d5 MS
  have S2 := S1.trans MS
  have hmore : ∃ (mo : Addr) (more : List Str), atI [V.ref m1, V.ref m2, V.ref m3, V.ref m4] (sc.getD 1 0 % 4) = some (.ref mo) ∧ H2 mo = some (.lst (more.map V.str)) ∧ more.length ≤ 9 ∧ ∀ x ∈ more, x.length ≤ 100 := by
    have h4 : sc.getD 1 0 % 4 = 0 ∨ sc.getD 1 0 % 4 = 1 ∨ sc.getD 1 0 % 4 = 2 ∨ sc.getD 1 0 % 4 = 3 := by omega
    rcases h4 with h | h | h | h <;> rw [h]
    · exact ⟨m1, [], rfl, d1, by decide, by simp⟩
    · exact ⟨m2, ["aa", "y"], rfl, d2, by decide, cons2 (by decide) (cons2 (by decide) (by simp))⟩
    · exact ⟨m3, ["e"], rfl, d3, by decide, cons2 (by decide) (by simp)⟩
    · exact ⟨m4, ["y"], rfl, d4, by decide, cons2 (by decide) (by simp)⟩
  obtain ⟨mo, more, hmat, emo, hmf1, hmf⟩ := hmore
  refine ⟨_, rfl, a, sc, 1, rfl, S2.seq hS, h63, _, _, rfl, rfl, (by show (0 : Int) < _; decide), _, _, _, _, rfl, rfl, SqL.of d5, hmat, ?_⟩
  obtain ⟨cs, ecs, hcs⟩ := cutV_ints sc (some 2) (some 82)
  have e12 := MS _ _ e1
  -- the program is grown
  refine ⟨_, rfl, _, rfl, _, rfl, _, _, rfl, S2.seq hS, fun pc fpc => ?_⟩
  have S3 : Same H2 (upd H2 pc (.lst (cutV (sc.map V.int) (some 2) (some 82)))) := same_new fpc _
  have ec : upd H2 pc (.lst (cutV (sc.map V.int) (some 2) (some 82))) pc = some (.lst (cs.map V.int)) := by rw [upd_same, ecs]
  generalize upd H2 pc (.lst (cutV (sc.map V.int) (some 2) (some 82))) = H3 at S3 ec
  refine ⟨_, rfl, _, rfl, pc, p1, mo, cs, ns, more, rfl, SqL.of ec, by omega, S3 _ _ e12, hi, S3 _ _ emo, hmf1, fun r pn pb ws H4 S4 er epn epb hB => ?_⟩
  have hgf := grown_fit (cells := cs) hln hmf
  have hgd := grown_dp (cells := cs) (names := ns) (more := more)
  have hgn := grown_n (cells := cs) (more := more) hi
  have hgw := grown_wel (cells := cs) (names := ns) (more := more)
  have hak := ak_le hgf
  generalize hb : grownF cs ns more = b at hB hgf hgd hgn hgw hak
  have hsl := Bk.str_len ns hgw
  have S24 : Same H2 H4 := S3.trans S4
  -- and once more
  refine ⟨_, rfl, _, rfl, _, rfl, _, _, rfl, (S2.trans S24).seq hS, fun pc2 fpc2 => ?_⟩
  have S5 : Same H4 (upd H4 pc2 (.lst (cutV (sc.map V.int) (some 2) (some 82)))) := same_new fpc2 _
  have ec5 : upd H4 pc2 (.lst (cutV (sc.map V.int) (some 2) (some 82))) pc2 = some (.lst (cs.map V.int)) := by rw [upd_same, ecs]
  generalize upd H4 pc2 (.lst (cutV (sc.map V.int) (some 2) (some 82))) = H5 at S5 ec5
  have S25 := S24.trans S5
  refine ⟨_, rfl, _, rfl, pc2, p1, mo, cs, ns, more, rfl, SqL.of ec5, by omega, S25 _ _ e12, hi, S25 _ _ emo, hmf1, fun r2 pn2 pb2 ws2 H6 S6 er2 epn2 epb2 hB2 => ?_⟩
  rw [hb] at hB2
  have S46 := S5.trans S6
  have S26 := S24.trans S46
  -- what is strange
  refine ⟨_, rfl, r, pb, pn, ws, ns, b, rfl, S46 _ _ er, S46 _ _ epb, hB.same S46, hgw, by omega, S46 _ _ epn, by omega, fun pd H7 S7 fd ed => ?_⟩
  refine ⟨_, rfl, r2, pb2, pn2, ws2, ns, b, rfl, S7 _ _ er2, S7 _ _ epb2, hB2.same S7, by omega, hgw, by omega, S7 _ _ epn2, by omega, fun pf H8 S8 ff ef => ?_⟩
  have S68 := S7.trans S8
  refine ⟨_, rfl, _, "list", _, true, rfl, .inl (.lst ef), by decide +kernel, _, rfl, iteF' rfl ?_⟩
  refine ⟨_, rfl, _, rfl, _, _, _, rfl, .lst ef (S8 _ _ ed) (AlkL.strs _) .nil, by omega, fun H9 S9 => ⟨_, rfl, iteF' rfl ?_⟩⟩
  have S69 := S68.trans S9
  have S29 := S26.trans S69
  have ed9 := S9 _ _ (S8 _ _ ed)
  -- following
  refine ⟨_, rfl, one, fun p9 hp9 => ?_⟩
  have S10 := same_new hp9 (.lst [V.int 0])
  have e10 : upd H9 p9 (.lst [V.int 0]) p9 = some (.lst [V.int 0]) := upd_same
  generalize upd H9 p9 (.lst [V.int 0]) = H10 at S10 e10
  refine ⟨_, rfl, _, _, rfl, .inl (SqL.of ((S29.trans S10) _ _ e12)), ?_⟩
  rw [List.length_map]
  refine ⟨p9, _, _, rfl, rfl, e10, by omega, by omega, by rw [sizeLine_eq]; show 1 * ((ns.length : Int)).toNat ≤ _; omega, fun pz hpz => ?_⟩
  have erep : (List.replicate ((ns.length : Int)).toNat [V.int 0]).flatten = (List.replicate ns.length (0 : Int)).map V.int := by
    have : ((ns.length : Int)).toNat = ns.length := by omega
    rw [this, List.map_replicate]
    generalize ns.length = k
    induction k with
    | zero => rfl
    | succ k ih => rw [List.replicate_succ, List.flatten_cons, ih, List.replicate_succ]; rfl
  have S11 := same_new hpz (.lst (List.replicate ((ns.length : Int)).toNat [V.int 0]).flatten)
  have e11 : upd H10 pz (.lst (List.replicate ((ns.length : Int)).toNat [V.int 0]).flatten) pz = some (.lst ((List.replicate ns.length (0 : Int)).map V.int)) := by rw [upd_same, erep]
  generalize upd H10 pz (.lst (List.replicate ((ns.length : Int)).toNat [V.int 0]).flatten) = H11 at S11 e11
  have S9B := S10.trans S11
  have S6B := S69.trans S9B
  refine ⟨r2, pb2, pn2, pz, ws2, ns, b, _, rfl, S6B _ _ er2, S6B _ _ epb2, hB2.same S6B, by omega, hgw, hgf, by omega, S6B _ _ epn2, hi, e11, List.length_replicate, fun H12 S12 => ?_⟩
  have ed12 := S12 _ _ (S9B _ _ ed9)
  refine ⟨_, rfl, Nat.zero_le _, fun pe hpe => ⟨_, _, _, rfl, rfl, SqL.of (same_new hpe _ _ _ ed12), SqL.of upd_same, ?_⟩⟩
  have S13 := same_new hpe (.lst [])
  generalize upd H12 pe (.lst []) = H13 at S13
  refine ⟨rfl, _, rfl, iteF' (by simp) ?_⟩
  have S6D := S6B.trans (S12.trans S13)
  have ed13 := S13 _ _ ed12
  -- the cards
  refine ⟨_, rfl, r2, pb2, pn2, ws2, ns, b, rfl, S6D _ _ er2, S6D _ _ epb2, hB2.same S6D, by omega, hgw, hgf, by omega, S6D _ _ epn2, hi, fun H14 S14 => ?_⟩
  refine ⟨_, rfl, Nat.zero_le _, fun pe2 hpe2 => ⟨_, _, _, rfl, rfl, SqL.of (same_new hpe2 _ _ _ (S14 _ _ ed13)), SqL.of upd_same, ?_⟩⟩
  have S15 := same_new hpe2 (.lst [])
  generalize upd H14 pe2 (.lst []) = H15 at S15
  refine ⟨rfl, _, rfl, iteT' (by simp) ?_⟩
  have S6F := S6D.trans (S14.trans S15)
  have S4F := S46.trans S6F
  obtain ⟨n2, hn2, al2⟩ := bk_alk (K := K) (hB2.same S6F) (hB.same S4F)
  exact ⟨_, rfl, _, rfl, _, _, _, rfl, .tup (.inl (S6F _ _ er2)) (.inl (S4F _ _ er)) (.lst (S6F _ _ epn2) (S4F _ _ epn) (AlkL.strs ns) (.lst (S6F _ _ epb2) (S4F _ _ epb) al2 .nil)) .nil, by omega, fun HL SL => q _⟩
end
end W05

set_option Elab.async false
set_option linter.all false
set_option maxRecDepth 100000
set_option maxHeartbeats 4000000
namespace W05
open PySem L2 J
theorem txt_mk {K : PySem.W.Frag} {h : Heap} {mg : Str → Option Value} (X : K.In h) (G : h.Ns mainGlobals mg)
    {cCourse : Addr}
    {f1 : Addr} {od1 an1 : Option Addr} {sl1 : Array (Option Value)} {oc1 kV1 dc1 pm1 cd1 ct1 : Value}
    {f2 : Addr} {od2 an2 : Option Addr} {sl2 : Array (Option Value)} {oc2 kV2 dc2 pm2 cd2 ct2 : Value}
    {f3 : Addr} {od3 an3 : Option Addr} {sl3 : Array (Option Value)} {oc3 kV3 dc3 pm3 cd3 ct3 : Value}
    {f4 : Addr} {od4 an4 : Option Addr} {sl4 : Array (Option Value)} {oc4 kV4 dc4 pm4 cd4 ct4 : Value}
    {f5 : Addr} {od5 an5 : Option Addr} {sl5 : Array (Option Value)} {oc5 kV5 dc5 pm5 cd5 ct5 : Value}
    {f6 : Addr} {od6 an6 : Option Addr} {sl6 : Array (Option Value)} {oc6 kV6 dc6 pm6 cd6 ct6 : Value}
    {f7 : Addr} {od7 an7 : Option Addr} {sl7 : Array (Option Value)} {oc7 kV7 dc7 pm7 cd7 ct7 : Value}
    {f8 : Addr} {od8 an8 : Option Addr} {sl8 : Array (Option Value)} {oc8 kV8 dc8 pm8 cd8 ct8 : Value}
    {f9 : Addr} {od9 an9 : Option Addr} {sl9 : Array (Option Value)} {oc9 kV9 dc9 pm9 cd9 ct9 : Value}
    {f10 : Addr} {od10 an10 : Option Addr} {sl10 : Array (Option Value)} {oc10 kV10 dc10 pm10 cd10 ct10 : Value}
    {f11 : Addr} {od11 an11 : Option Addr} {sl11 : Array (Option Value)} {oc11 kV11 dc11 pm11 cd11 ct11 : Value}
    {f12 : Addr} {od12 an12 : Option Addr} {sl12 : Array (Option Value)} {oc12 kV12 dc12 pm12 cd12 ct12 : Value}
    {f13 : Addr} {od13 an13 : Option Addr} {sl13 : Array (Option Value)} {oc13 kV13 dc13 pm13 cd13 ct13 : Value}
    {f14 : Addr} {od14 an14 : Option Addr} {sl14 : Array (Option Value)} {oc14 kV14 dc14 pm14 cd14 ct14 : Value}
    {f15 : Addr} {od15 an15 : Option Addr} {sl15 : Array (Option Value)} {oc15 kV15 dc15 pm15 cd15 ct15 : Value}
    {f16 : Addr} {od16 an16 : Option Addr} {sl16 : Array (Option Value)} {oc16 kV16 dc16 pm16 cd16 ct16 : Value}
    {f17 : Addr} {od17 an17 : Option Addr} {sl17 : Array (Option Value)} {oc17 kV17 dc17 pm17 cd17 ct17 : Value}
    {f18 : Addr} {od18 an18 : Option Addr} {sl18 : Array (Option Value)} {oc18 kV18 dc18 pm18 cd18 ct18 : Value}
    {f19 : Addr} {od19 an19 : Option Addr} {sl19 : Array (Option Value)} {oc19 kV19 dc19 pm19 cd19 ct19 : Value}
    {f20 : Addr} {od20 an20 : Option Addr} {sl20 : Array (Option Value)} {oc20 kV20 dc20 pm20 cd20 ct20 : Value}
    {f21 : Addr} {od21 an21 : Option Addr} {sl21 : Array (Option Value)} {oc21 kV21 dc21 pm21 cd21 ct21 : Value}
    {f22 : Addr} {od22 an22 : Option Addr} {sl22 : Array (Option Value)} {oc22 kV22 dc22 pm22 cd22 ct22 : Value}
    {f23 : Addr} {od23 an23 : Option Addr} {sl23 : Array (Option Value)} {oc23 kV23 dc23 pm23 cd23 ct23 : Value}
    {f24 : Addr} {od24 an24 : Option Addr} {sl24 : Array (Option Value)} {oc24 kV24 dc24 pm24 cd24 ct24 : Value}
    {f25 : Addr} {od25 an25 : Option Addr} {sl25 : Array (Option Value)} {oc25 kV25 dc25 pm25 cd25 ct25 : Value}
    {f26 : Addr} {od26 an26 : Option Addr} {sl26 : Array (Option Value)} {oc26 kV26 dc26 pm26 cd26 ct26 : Value}
    {f27 : Addr} {od27 an27 : Option Addr} {sl27 : Array (Option Value)} {oc27 kV27 dc27 pm27 cd27 ct27 : Value}
    {f28 : Addr} {od28 an28 : Option Addr} {sl28 : Array (Option Value)} {oc28 kV28 dc28 pm28 cd28 ct28 : Value}
    {f29 : Addr} {od29 an29 : Option Addr} {sl29 : Array (Option Value)} {oc29 kV29 dc29 pm29 cd29 ct29 : Value}
    {f30 : Addr} {od30 an30 : Option Addr} {sl30 : Array (Option Value)} {oc30 kV30 dc30 pm30 cd30 ct30 : Value}
    {f31 : Addr} {od31 an31 : Option Addr} {sl31 : Array (Option Value)} {oc31 kV31 dc31 pm31 cd31 ct31 : Value}
    {f32 : Addr} {od32 an32 : Option Addr} {sl32 : Array (Option Value)} {oc32 kV32 dc32 pm32 cd32 ct32 : Value}
    {f33 : Addr} {od33 an33 : Option Addr} {sl33 : Array (Option Value)} {oc33 kV33 dc33 pm33 cd33 ct33 : Value}
    {f34 : Addr} {od34 an34 : Option Addr} {sl34 : Array (Option Value)} {oc34 kV34 dc34 pm34 cd34 ct34 : Value}
    {f35 : Addr} {od35 an35 : Option Addr} {sl35 : Array (Option Value)} {oc35 kV35 dc35 pm35 cd35 ct35 : Value}
    {f36 : Addr} {od36 an36 : Option Addr} {sl36 : Array (Option Value)} {oc36 kV36 dc36 pm36 cd36 ct36 : Value}
    {f37 : Addr} {od37 an37 : Option Addr} {sl37 : Array (Option Value)} {oc37 kV37 dc37 pm37 cd37 ct37 : Value}
    {f38 : Addr} {od38 an38 : Option Addr} {sl38 : Array (Option Value)} {oc38 kV38 dc38 pm38 cd38 ct38 : Value}
    {f39 : Addr} {od39 an39 : Option Addr} {sl39 : Array (Option Value)} {oc39 kV39 dc39 pm39 cd39 ct39 : Value}
    (aCCourse : PySem.W.nsIn K mainGlobals "Course" = some (some (.ref cCourse))) (pgCourse : PySem.W.plainGet K cCourse Str.empty = true) (hdCourse : PySem.W.hasDictIn K cCourse = true) (poCourse : PySem.W.plainOver K cCourse = true) (saCourse : PySem.W.findIn K (.ref cCourse) "__setattr__" = some (some (.builtin "object.__setattr__"))) (mkCourse : PySem.W.makesIn K cCourse = true) (kcCourse : PySem.W.keepIn K (.ref cCourse) = true)
    (naCourse_row : PySem.W.findIn K (.ref cCourse) "row" = some none)
    (naCourse_held : PySem.W.findIn K (.ref cCourse) "held" = some none)
    (naCourse_said : PySem.W.findIn K (.ref cCourse) "said" = some none)
    (naCourse_oil : PySem.W.findIn K (.ref cCourse) "oil" = some none)
    (naCourse_used : PySem.W.findIn K (.ref cCourse) "used" = some none)
    (naCourse_ahead : PySem.W.findIn K (.ref cCourse) "ahead" = some none)
    (a1 : PySem.W.nsIn K mainGlobals "place_of" = some (some (.ref f1))) (l1 : K.lookup f1 = some ⟨oc1, od1, .func (PySem.W.fnOf "place_of" "place_of" (defArgs s_place_of) (defBody s_place_of) (defScope s_place_of) .none kV1 dc1 pm1 an1 cd1 ct1), sl1⟩) (c1 : PySem.W.codeIn K cd1 "place_of" = true) (k1 : PySem.W.keepIn K (.ref f1) = true)
    (a2 : PySem.W.nsIn K mainGlobals "reckoned" = some (some (.ref f2))) (l2 : K.lookup f2 = some ⟨oc2, od2, .func (PySem.W.fnOf "reckoned" "reckoned" (defArgs s_reckoned) (defBody s_reckoned) (defScope s_reckoned) .none kV2 dc2 pm2 an2 cd2 ct2), sl2⟩) (c2 : PySem.W.codeIn K cd2 "reckoned" = true) (k2 : PySem.W.keepIn K (.ref f2) = true)
    (a3 : PySem.W.nsIn K mainGlobals "worth" = some (some (.ref f3))) (l3 : K.lookup f3 = some ⟨oc3, od3, .func (PySem.W.fnOf "worth" "worth" (defArgs s_worth) (defBody s_worth) (defScope s_worth) .none kV3 dc3 pm3 an3 cd3 ct3), sl3⟩) (c3 : PySem.W.codeIn K cd3 "worth" = true) (k3 : PySem.W.keepIn K (.ref f3) = true)
    (a4 : PySem.W.nsIn K mainGlobals "holds" = some (some (.ref f4))) (l4 : K.lookup f4 = some ⟨oc4, od4, .func (PySem.W.fnOf "holds" "holds" (defArgs s_holds) (defBody s_holds) (defScope s_holds) .none kV4 dc4 pm4 an4 cd4 ct4), sl4⟩) (c4 : PySem.W.codeIn K cd4 "holds" = true) (k4 : PySem.W.keepIn K (.ref f4) = true)
    (a5 : PySem.W.nsIn K mainGlobals "names_used" = some (some (.ref f5))) (l5 : K.lookup f5 = some ⟨oc5, od5, .func (PySem.W.fnOf "names_used" "names_used" (defArgs s_names_used) (defBody s_names_used) (defScope s_names_used) .none kV5 dc5 pm5 an5 cd5 ct5), sl5⟩) (c5 : PySem.W.codeIn K cd5 "names_used" = true) (k5 : PySem.W.keepIn K (.ref f5) = true)
    (a6 : PySem.W.nsIn K mainGlobals "names_at_head" = some (some (.ref f6))) (l6 : K.lookup f6 = some ⟨oc6, od6, .func (PySem.W.fnOf "names_at_head" "names_at_head" (defArgs s_names_at_head) (defBody s_names_at_head) (defScope s_names_at_head) .none kV6 dc6 pm6 an6 cd6 ct6), sl6⟩) (c6 : PySem.W.codeIn K cd6 "names_at_head" = true) (k6 : PySem.W.keepIn K (.ref f6) = true)
    (a7 : PySem.W.nsIn K mainGlobals "block_strangers" = some (some (.ref f7))) (l7 : K.lookup f7 = some ⟨oc7, od7, .func (PySem.W.fnOf "block_strangers" "block_strangers" (defArgs s_block_strangers) (defBody s_block_strangers) (defScope s_block_strangers) .none kV7 dc7 pm7 an7 cd7 ct7), sl7⟩) (c7 : PySem.W.codeIn K cd7 "block_strangers" = true) (k7 : PySem.W.keepIn K (.ref f7) = true)
    (a8 : PySem.W.nsIn K mainGlobals "strangers" = some (some (.ref f8))) (l8 : K.lookup f8 = some ⟨oc8, od8, .func (PySem.W.fnOf "strangers" "strangers" (defArgs s_strangers) (defBody s_strangers) (defScope s_strangers) .none kV8 dc8 pm8 an8 cd8 ct8), sl8⟩) (c8 : PySem.W.codeIn K cd8 "strangers" = true) (k8 : PySem.W.keepIn K (.ref f8) = true)
    (a9 : PySem.W.findIn K (.ref cCourse) "__init__" = some (some (.ref f9))) (i9 : PySem.W.isFn K (.ref f9) = true) (l9 : K.lookup f9 = some ⟨oc9, od9, .func (PySem.W.fnOf "__init__" "Course.__init__" (defArgs s_Course_init) (defBody s_Course_init) (defScope s_Course_init) .none kV9 dc9 pm9 an9 cd9 ct9), sl9⟩) (c9 : PySem.W.codeIn K cd9 "Course.__init__" = true) (k9 : PySem.W.keepIn K (.ref f9) = true)
    (a10 : PySem.W.findIn K (.ref cCourse) "put_ahead" = some (some (.ref f10))) (i10 : PySem.W.isFn K (.ref f10) = true) (l10 : K.lookup f10 = some ⟨oc10, od10, .func (PySem.W.fnOf "put_ahead" "Course.put_ahead" (defArgs s_Course_put_ahead) (defBody s_Course_put_ahead) (defScope s_Course_put_ahead) .none kV10 dc10 pm10 an10 cd10 ct10), sl10⟩) (c10 : PySem.W.codeIn K cd10 "Course.put_ahead" = true) (k10 : PySem.W.keepIn K (.ref f10) = true)
    (a11 : PySem.W.findIn K (.ref cCourse) "go" = some (some (.ref f11))) (i11 : PySem.W.isFn K (.ref f11) = true) (l11 : K.lookup f11 = some ⟨oc11, od11, .func (PySem.W.fnOf "go" "Course.go" (defArgs s_Course_go) (defBody s_Course_go) (defScope s_Course_go) .none kV11 dc11 pm11 an11 cd11 ct11), sl11⟩) (c11 : PySem.W.codeIn K cd11 "Course.go" = true) (k11 : PySem.W.keepIn K (.ref f11) = true)
    (a12 : PySem.W.findIn K (.ref cCourse) "begin" = some (some (.ref f12))) (i12 : PySem.W.isFn K (.ref f12) = true) (l12 : K.lookup f12 = some ⟨oc12, od12, .func (PySem.W.fnOf "begin" "Course.begin" (defArgs s_Course_begin) (defBody s_Course_begin) (defScope s_Course_begin) .none kV12 dc12 pm12 an12 cd12 ct12), sl12⟩) (c12 : PySem.W.codeIn K cd12 "Course.begin" = true) (k12 : PySem.W.keepIn K (.ref f12) = true)
    (a13 : PySem.W.findIn K (.ref cCourse) "begin_while" = some (some (.ref f13))) (i13 : PySem.W.isFn K (.ref f13) = true) (l13 : K.lookup f13 = some ⟨oc13, od13, .func (PySem.W.fnOf "begin_while" "Course.begin_while" (defArgs s_Course_begin_while) (defBody s_Course_begin_while) (defScope s_Course_begin_while) .none kV13 dc13 pm13 an13 cd13 ct13), sl13⟩) (c13 : PySem.W.codeIn K cd13 "Course.begin_while" = true) (k13 : PySem.W.keepIn K (.ref f13) = true)
    (a14 : PySem.W.findIn K (.ref cCourse) "begin_with" = some (some (.ref f14))) (i14 : PySem.W.isFn K (.ref f14) = true) (l14 : K.lookup f14 = some ⟨oc14, od14, .func (PySem.W.fnOf "begin_with" "Course.begin_with" (defArgs s_Course_begin_with) (defBody s_Course_begin_with) (defScope s_Course_begin_with) .none kV14 dc14 pm14 an14 cd14 ct14), sl14⟩) (c14 : PySem.W.codeIn K cd14 "Course.begin_with" = true) (k14 : PySem.W.keepIn K (.ref f14) = true)
    (a15 : PySem.W.findIn K (.ref cCourse) "worth_now" = some (some (.ref f15))) (i15 : PySem.W.isFn K (.ref f15) = true) (l15 : K.lookup f15 = some ⟨oc15, od15, .func (PySem.W.fnOf "worth_now" "Course.worth_now" (defArgs s_Course_worth_now) (defBody s_Course_worth_now) (defScope s_Course_worth_now) .none kV15 dc15 pm15 an15 cd15 ct15), sl15⟩) (c15 : PySem.W.codeIn K cd15 "Course.worth_now" = true) (k15 : PySem.W.keepIn K (.ref f15) = true)
    (a16 : PySem.W.findIn K (.ref cCourse) "holds_now" = some (some (.ref f16))) (i16 : PySem.W.isFn K (.ref f16) = true) (l16 : K.lookup f16 = some ⟨oc16, od16, .func (PySem.W.fnOf "holds_now" "Course.holds_now" (defArgs s_Course_holds_now) (defBody s_Course_holds_now) (defScope s_Course_holds_now) .none kV16 dc16 pm16 an16 cd16 ct16), sl16⟩) (c16 : PySem.W.codeIn K cd16 "Course.holds_now" = true) (k16 : PySem.W.keepIn K (.ref f16) = true)
    (a17 : PySem.W.nsIn K mainGlobals "followed" = some (some (.ref f17))) (l17 : K.lookup f17 = some ⟨oc17, od17, .func (PySem.W.fnOf "followed" "followed" (defArgs s_followed) (defBody s_followed) (defScope s_followed) .none kV17 dc17 pm17 an17 cd17 ct17), sl17⟩) (c17 : PySem.W.codeIn K cd17 "followed" = true) (k17 : PySem.W.keepIn K (.ref f17) = true)
    (a18 : PySem.W.nsIn K mainGlobals "sum_cards" = some (some (.ref f18))) (l18 : K.lookup f18 = some ⟨oc18, od18, .func (PySem.W.fnOf "sum_cards" "sum_cards" (defArgs s_sum_cards) (defBody s_sum_cards) (defScope s_sum_cards) .none kV18 dc18 pm18 an18 cd18 ct18), sl18⟩) (c18 : PySem.W.codeIn K cd18 "sum_cards" = true) (k18 : PySem.W.keepIn K (.ref f18) = true)
    (a19 : PySem.W.nsIn K mainGlobals "both_cards" = some (some (.ref f19))) (l19 : K.lookup f19 = some ⟨oc19, od19, .func (PySem.W.fnOf "both_cards" "both_cards" (defArgs s_both_cards) (defBody s_both_cards) (defScope s_both_cards) .none kV19 dc19 pm19 an19 cd19 ct19), sl19⟩) (c19 : PySem.W.codeIn K cd19 "both_cards" = true) (k19 : PySem.W.keepIn K (.ref f19) = true)
    (a20 : PySem.W.nsIn K mainGlobals "test_cards" = some (some (.ref f20))) (l20 : K.lookup f20 = some ⟨oc20, od20, .func (PySem.W.fnOf "test_cards" "test_cards" (defArgs s_test_cards) (defBody s_test_cards) (defScope s_test_cards) .none kV20 dc20 pm20 an20 cd20 ct20), sl20⟩) (c20 : PySem.W.codeIn K cd20 "test_cards" = true) (k20 : PySem.W.keepIn K (.ref f20) = true)
    (a21 : PySem.W.nsIn K mainGlobals "when_cards" = some (some (.ref f21))) (l21 : K.lookup f21 = some ⟨oc21, od21, .func (PySem.W.fnOf "when_cards" "when_cards" (defArgs s_when_cards) (defBody s_when_cards) (defScope s_when_cards) .none kV21 dc21 pm21 an21 cd21 ct21), sl21⟩) (c21 : PySem.W.codeIn K cd21 "when_cards" = true) (k21 : PySem.W.keepIn K (.ref f21) = true)
    (a22 : PySem.W.nsIn K mainGlobals "while_cards" = some (some (.ref f22))) (l22 : K.lookup f22 = some ⟨oc22, od22, .func (PySem.W.fnOf "while_cards" "while_cards" (defArgs s_while_cards) (defBody s_while_cards) (defScope s_while_cards) .none kV22 dc22 pm22 an22 cd22 ct22), sl22⟩) (c22 : PySem.W.codeIn K cd22 "while_cards" = true) (k22 : PySem.W.keepIn K (.ref f22) = true)
    (a23 : PySem.W.nsIn K mainGlobals "block_cards" = some (some (.ref f23))) (l23 : K.lookup f23 = some ⟨oc23, od23, .func (PySem.W.fnOf "block_cards" "block_cards" (defArgs s_block_cards) (defBody s_block_cards) (defScope s_block_cards) .none kV23 dc23 pm23 an23 cd23 ct23), sl23⟩) (c23 : PySem.W.codeIn K cd23 "block_cards" = true) (k23 : PySem.W.keepIn K (.ref f23) = true)
    (a24 : PySem.W.nsIn K mainGlobals "cards_of" = some (some (.ref f24))) (l24 : K.lookup f24 = some ⟨oc24, od24, .func (PySem.W.fnOf "cards_of" "cards_of" (defArgs s_cards_of) (defBody s_cards_of) (defScope s_cards_of) .none kV24 dc24 pm24 an24 cd24 ct24), sl24⟩) (c24 : PySem.W.codeIn K cd24 "cards_of" = true) (k24 : PySem.W.keepIn K (.ref f24) = true)
    (a25 : PySem.W.nsIn K mainGlobals "_law_draw" = some (some (.ref f25))) (l25 : K.lookup f25 = some ⟨oc25, od25, .func (PySem.W.fnOf "_law_draw" "_law_draw" (defArgs s_law_draw) (defBody s_law_draw) (defScope s_law_draw) .none kV25 dc25 pm25 an25 cd25 ct25), sl25⟩) (c25 : PySem.W.codeIn K cd25 "_law_draw" = true) (k25 : PySem.W.keepIn K (.ref f25) = true)
    (a26 : PySem.W.nsIn K mainGlobals "_law_whole" = some (some (.ref f26))) (l26 : K.lookup f26 = some ⟨oc26, od26, .func (PySem.W.fnOf "_law_whole" "_law_whole" (defArgs s_law_whole) (defBody s_law_whole) (defScope s_law_whole) .none kV26 dc26 pm26 an26 cd26 ct26), sl26⟩) (c26 : PySem.W.codeIn K cd26 "_law_whole" = true) (k26 : PySem.W.keepIn K (.ref f26) = true)
    (a27 : PySem.W.nsIn K mainGlobals "_law_at" = some (some (.ref f27))) (l27 : K.lookup f27 = some ⟨oc27, od27, .func (PySem.W.fnOf "_law_at" "_law_at" (defArgs s_law_at) (defBody s_law_at) (defScope s_law_at) .none kV27 dc27 pm27 an27 cd27 ct27), sl27⟩) (c27 : PySem.W.codeIn K cd27 "_law_at" = true) (k27 : PySem.W.keepIn K (.ref f27) = true)
    (a28 : PySem.W.nsIn K mainGlobals "_law_alike" = some (some (.ref f28))) (l28 : K.lookup f28 = some ⟨oc28, od28, .func (PySem.W.fnOf "_law_alike" "_law_alike" (defArgs s_law_alike) (defBody s_law_alike) (defScope s_law_alike) .none kV28 dc28 pm28 an28 cd28 ct28), sl28⟩) (c28 : PySem.W.codeIn K cd28 "_law_alike" = true) (k28 : PySem.W.keepIn K (.ref f28) = true)
    (a29 : PySem.W.nsIn K mainGlobals "_law_leaf" = some (some (.ref f29))) (l29 : K.lookup f29 = some ⟨oc29, od29, .func (PySem.W.fnOf "_law_leaf" "_law_leaf" (defArgs s_law_leaf) (defBody s_law_leaf) (defScope s_law_leaf) .none kV29 dc29 pm29 an29 cd29 ct29), sl29⟩) (c29 : PySem.W.codeIn K cd29 "_law_leaf" = true) (k29 : PySem.W.keepIn K (.ref f29) = true)
    (a30 : PySem.W.nsIn K mainGlobals "_law_sum_of" = some (some (.ref f30))) (l30 : K.lookup f30 = some ⟨oc30, od30, .func (PySem.W.fnOf "_law_sum_of" "_law_sum_of" (defArgs s_law_sum_of) (defBody s_law_sum_of) (defScope s_law_sum_of) .none kV30 dc30 pm30 an30 cd30 ct30), sl30⟩) (c30 : PySem.W.codeIn K cd30 "_law_sum_of" = true) (k30 : PySem.W.keepIn K (.ref f30) = true)
    (a31 : PySem.W.nsIn K mainGlobals "_law_test_of" = some (some (.ref f31))) (l31 : K.lookup f31 = some ⟨oc31, od31, .func (PySem.W.fnOf "_law_test_of" "_law_test_of" (defArgs s_law_test_of) (defBody s_law_test_of) (defScope s_law_test_of) .none kV31 dc31 pm31 an31 cd31 ct31), sl31⟩) (c31 : PySem.W.codeIn K cd31 "_law_test_of" = true) (k31 : PySem.W.keepIn K (.ref f31) = true)
    (a32 : PySem.W.nsIn K mainGlobals "_law_head_of" = some (some (.ref f32))) (l32 : K.lookup f32 = some ⟨oc32, od32, .func (PySem.W.fnOf "_law_head_of" "_law_head_of" (defArgs s_law_head_of) (defBody s_law_head_of) (defScope s_law_head_of) .none kV32 dc32 pm32 an32 cd32 ct32), sl32⟩) (c32 : PySem.W.codeIn K cd32 "_law_head_of" = true) (k32 : PySem.W.keepIn K (.ref f32) = true)
    (a33 : PySem.W.nsIn K mainGlobals "_law_close" = some (some (.ref f33))) (l33 : K.lookup f33 = some ⟨oc33, od33, .func (PySem.W.fnOf "_law_close" "_law_close" (defArgs s_law_close) (defBody s_law_close) (defScope s_law_close) .none kV33 dc33 pm33 an33 cd33 ct33), sl33⟩) (c33 : PySem.W.codeIn K cd33 "_law_close" = true) (k33 : PySem.W.keepIn K (.ref f33) = true)
    (a34 : PySem.W.nsIn K mainGlobals "_law_grown" = some (some (.ref f34))) (l34 : K.lookup f34 = some ⟨oc34, od34, .func (PySem.W.fnOf "_law_grown" "_law_grown" (defArgs s_law_grown) (defBody s_law_grown) (defScope s_law_grown) .none kV34 dc34 pm34 an34 cd34 ct34), sl34⟩) (c34 : PySem.W.codeIn K cd34 "_law_grown" = true) (k34 : PySem.W.keepIn K (.ref f34) = true)
    (a35 : PySem.W.nsIn K mainGlobals "_law_strange" = some (some (.ref f35))) (l35 : K.lookup f35 = some ⟨oc35, od35, .func (PySem.W.fnOf "_law_strange" "_law_strange" (defArgs s_law_strange) (defBody s_law_strange) (defScope s_law_strange) .none kV35 dc35 pm35 an35 cd35 ct35), sl35⟩) (c35 : PySem.W.codeIn K cd35 "_law_strange" = true) (k35 : PySem.W.keepIn K (.ref f35) = true)
    (a36 : PySem.W.nsIn K mainGlobals "_law_refuses_following" = some (some (.ref f36))) (l36 : K.lookup f36 = some ⟨oc36, od36, .func (PySem.W.fnOf "_law_refuses_following" "_law_refuses_following" (defArgs s_law_refuses_following) (defBody s_law_refuses_following) (defScope s_law_refuses_following) .none kV36 dc36 pm36 an36 cd36 ct36), sl36⟩) (c36 : PySem.W.codeIn K cd36 "_law_refuses_following" = true) (k36 : PySem.W.keepIn K (.ref f36) = true)
    (a37 : PySem.W.nsIn K mainGlobals "_law_refuses_cards" = some (some (.ref f37))) (l37 : K.lookup f37 = some ⟨oc37, od37, .func (PySem.W.fnOf "_law_refuses_cards" "_law_refuses_cards" (defArgs s_law_refuses_cards) (defBody s_law_refuses_cards) (defScope s_law_refuses_cards) .none kV37 dc37 pm37 an37 cd37 ct37), sl37⟩) (c37 : PySem.W.codeIn K cd37 "_law_refuses_cards" = true) (k37 : PySem.W.keepIn K (.ref f37) = true)
    (a38 : PySem.W.nsIn K mainGlobals "_law_names_of" = some (some (.ref f38))) (l38 : K.lookup f38 = some ⟨oc38, od38, .func (PySem.W.fnOf "_law_names_of" "_law_names_of" (defArgs s_law_names_of) (defBody s_law_names_of) (defScope s_law_names_of) .none kV38 dc38 pm38 an38 cd38 ct38), sl38⟩) (c38 : PySem.W.codeIn K cd38 "_law_names_of" = true) (k38 : PySem.W.keepIn K (.ref f38) = true)
    (a39 : PySem.W.nsIn K mainGlobals "law" = some (some (.ref f39))) (l39 : K.lookup f39 = some ⟨oc39, od39, .func (PySem.W.fnOf "law" "law" (defArgs s_law) (defBody s_law) (defScope s_law) .none kV39 dc39 pm39 an39 cd39 ct39), sl39⟩) (c39 : PySem.W.codeIn K cd39 "law" = true) (k39 : PySem.W.keepIn K (.ref f39) = true)
    (z1 : PySem.W.nsIn K mainGlobals "len" = some none) (z2 : PySem.W.nsIn K mainGlobals "range" = some none) (z3 : PySem.W.nsIn K mainGlobals "isinstance" = some none) (z4 : PySem.W.nsIn K mainGlobals "list" = some none) (z5 : PySem.W.nsIn K mainGlobals "tuple" = some none) (z6 : PySem.W.nsIn K mainGlobals "str" = some none) (z7 : PySem.W.nsIn K mainGlobals "int" = some none) (z8 : PySem.W.nsIn K mainGlobals "bool" = some none) (z9 : PySem.W.nsIn K mainGlobals "reversed" = some none) {gn0 : Addr} {gd0 : Option Addr} {gt0 : Tok} {gc0 : Nat} {gs0 : Array (Option Value)} (zg0 : PySem.W.nsIn K mainGlobals "AWAY" = some (some (.ref gn0))) (zl0 : K.lookup gn0 = some ⟨.type "tuple", gd0, .seq #[.str "away" gt0] gc0, gs0⟩) {cJarError : Addr} (xJarError : PySem.W.nsIn K mainGlobals "JarError" = some (some (.ref cJarError))) (yJarError : PySem.W.excIn K cJarError veB "ValueError.__new__" = true) {cNoName : Addr} (xNoName : PySem.W.nsIn K mainGlobals "NoName" = some (some (.ref cNoName))) (yNoName : PySem.W.excIn K cNoName veB "ValueError.__new__" = true) :
    ∃ T : Txt K mg, T.f_law = f39 ∧ ∃ kV dc pm an cd ct, T.fd_law = PySem.W.fnOf "law" "law" (defArgs s_law) (defBody s_law) (defScope s_law) .none kV dc pm an cd ct := by
  have F1 := fun_mk (st := s_place_of) l1 c1 k1
  have B1 := F1.binds (ps := ["names", "name"]) fun _ _ _ _ _ _ us hl => match us, hl with | [_, _], _ => rfl
  have F2 := fun_mk (st := s_reckoned) l2 c2 k2
  have B2 := F2.binds (ps := ["word", "first", "second"]) fun _ _ _ _ _ _ us hl => match us, hl with | [_, _, _], _ => rfl
  have F3 := fun_mk (st := s_worth) l3 c3 k3
  have B3 := F3.binds (ps := ["part", "names", "values"]) fun _ _ _ _ _ _ us hl => match us, hl with | [_, _, _], _ => rfl
  have F4 := fun_mk (st := s_holds) l4 c4 k4
  have B4 := F4.binds (ps := ["test", "names", "values"]) fun _ _ _ _ _ _ us hl => match us, hl with | [_, _, _], _ => rfl
  have F5 := fun_mk (st := s_names_used) l5 c5 k5
  have B5 := F5.binds (ps := ["part"]) fun _ _ _ _ _ _ us hl => match us, hl with | [_], _ => rfl
  have F6 := fun_mk (st := s_names_at_head) l6 c6 k6
  have B6 := F6.binds (ps := ["order"]) fun _ _ _ _ _ _ us hl => match us, hl with | [_], _ => rfl
  have F7 := fun_mk (st := s_block_strangers) l7 c7 k7
  have B7 := F7.binds (ps := ["block", "names"]) fun _ _ _ _ _ _ us hl => match us, hl with | [_, _], _ => rfl
  have F8 := fun_mk (st := s_strangers) l8 c8 k8
  have B8 := F8.binds (ps := ["program"]) fun _ _ _ _ _ _ us hl => match us, hl with | [_], _ => rfl
  have F9 := fun_mk (st := s_Course_init) l9 c9 k9
  have B9 := F9.binds (ps := ["self", "program", "starts", "oil"]) fun _ _ _ _ _ _ us hl => match us, hl with | [_, _, _, _], _ => rfl
  have F10 := fun_mk (st := s_Course_put_ahead) l10 c10 k10
  have B10 := F10.binds (ps := ["self", "block"]) fun _ _ _ _ _ _ us hl => match us, hl with | [_, _], _ => rfl
  have F11 := fun_mk (st := s_Course_go) l11 c11 k11
  have B11 := F11.binds (ps := ["self"]) fun _ _ _ _ _ _ us hl => match us, hl with | [_], _ => rfl
  have F12 := fun_mk (st := s_Course_begin) l12 c12 k12
  have B12 := F12.binds (ps := ["self", "order"]) fun _ _ _ _ _ _ us hl => match us, hl with | [_, _], _ => rfl
  have F13 := fun_mk (st := s_Course_begin_while) l13 c13 k13
  have B13 := F13.binds (ps := ["self", "order"]) fun _ _ _ _ _ _ us hl => match us, hl with | [_, _], _ => rfl
  have F14 := fun_mk (st := s_Course_begin_with) l14 c14 k14
  have B14 := F14.binds (ps := ["self", "order"]) fun _ _ _ _ _ _ us hl => match us, hl with | [_, _], _ => rfl
  have F15 := fun_mk (st := s_Course_worth_now) l15 c15 k15
  have B15 := F15.binds (ps := ["self", "part"]) fun _ _ _ _ _ _ us hl => match us, hl with | [_, _], _ => rfl
  have F16 := fun_mk (st := s_Course_holds_now) l16 c16 k16
  have B16 := F16.binds (ps := ["self", "test"]) fun _ _ _ _ _ _ us hl => match us, hl with | [_, _], _ => rfl
  have F17 := fun_mk (st := s_followed) l17 c17 k17
  have B17 := F17.binds (ps := ["program", "starts", "oil"]) fun _ _ _ _ _ _ us hl => match us, hl with | [_, _, _], _ => rfl
  have F18 := fun_mk (st := s_sum_cards) l18 c18 k18
  have B18 := F18.binds (ps := ["part", "names"]) fun _ _ _ _ _ _ us hl => match us, hl with | [_, _], _ => rfl
  have F19 := fun_mk (st := s_both_cards) l19 c19 k19
  have B19 := F19.binds (ps := ["first", "second"]) fun _ _ _ _ _ _ us hl => match us, hl with | [_, _], _ => rfl
  have F20 := fun_mk (st := s_test_cards) l20 c20 k20
  have B20 := F20.binds (ps := ["test", "names"]) fun _ _ _ _ _ _ us hl => match us, hl with | [_, _], _ => rfl
  have F21 := fun_mk (st := s_when_cards) l21 c21 k21
  have B21 := F21.binds (ps := ["test", "first", "second"]) fun _ _ _ _ _ _ us hl => match us, hl with | [_, _, _], _ => rfl
  have F22 := fun_mk (st := s_while_cards) l22 c22 k22
  have B22 := F22.binds (ps := ["test", "inner"]) fun _ _ _ _ _ _ us hl => match us, hl with | [_, _], _ => rfl
  have F23 := fun_mk (st := s_block_cards) l23 c23 k23
  have B23 := F23.binds (ps := ["block", "names"]) fun _ _ _ _ _ _ us hl => match us, hl with | [_, _], _ => rfl
  have F24 := fun_mk (st := s_cards_of) l24 c24 k24
  have B24 := F24.binds (ps := ["program"]) fun _ _ _ _ _ _ us hl => match us, hl with | [_], _ => rfl
  have F25 := fun_mk (st := s_law_draw) l25 c25 k25
  have B25 := F25.binds (ps := ["_law_number", "_law_prime", "_law_many"]) fun _ _ _ _ _ _ us hl => match us, hl with | [_, _, _], _ => rfl
  have F26 := fun_mk (st := s_law_whole) l26 c26 k26
  have B26 := F26.binds (ps := ["_law_found"]) fun _ _ _ _ _ _ us hl => match us, hl with | [_], _ => rfl
  have F27 := fun_mk (st := s_law_at) l27 c27 k27
  have B27 := F27.binds (ps := ["_law_script", "_law_k"]) fun _ _ _ _ _ _ us hl => match us, hl with | [_, _], _ => rfl
  have F28 := fun_mk (st := s_law_alike) l28 c28 k28
  have B28 := F28.binds (ps := ["_law_found", "_law_due"]) fun _ _ _ _ _ _ us hl => match us, hl with | [_, _], _ => rfl
  have F29 := fun_mk (st := s_law_leaf) l29 c29 k29
  have B29 := F29.binds (ps := ["_law_salt", "_law_prime", "_law_second", "_law_scope"]) fun _ _ _ _ _ _ us hl => match us, hl with | [_, _, _, _], _ => rfl
  have F30 := fun_mk (st := s_law_sum_of) l30 c30 k30
  have B30 := F30.binds (ps := ["_law_salt", "_law_scope"]) fun _ _ _ _ _ _ us hl => match us, hl with | [_, _], _ => rfl
  have F31 := fun_mk (st := s_law_test_of) l31 c31 k31
  have B31 := F31.binds (ps := ["_law_salt", "_law_scope"]) fun _ _ _ _ _ _ us hl => match us, hl with | [_, _], _ => rfl
  have F32 := fun_mk (st := s_law_head_of) l32 c32 k32
  have B32 := F32.binds (ps := ["_law_way", "_law_salt", "_law_scope"]) fun _ _ _ _ _ _ us hl => match us, hl with | [_, _, _], _ => rfl
  have F33 := fun_mk (st := s_law_close) l33 c33 k33
  have B33 := F33.binds (ps := ["_law_blocks", "_law_heads", "_law_scope", "_law_salt"]) fun _ _ _ _ _ _ us hl => match us, hl with | [_, _, _, _], _ => rfl
  have F34 := fun_mk (st := s_law_grown) l34 c34 k34
  have B34 := F34.binds (ps := ["_law_cells", "_law_names", "_law_more"]) fun _ _ _ _ _ _ us hl => match us, hl with | [_, _, _], _ => rfl
  have F35 := fun_mk (st := s_law_strange) l35 c35 k35
  have B35 := F35.binds (ps := ["_law_program"]) fun _ _ _ _ _ _ us hl => match us, hl with | [_], _ => rfl
  have F36 := fun_mk (st := s_law_refuses_following) l36 c36 k36
  have B36 := F36.binds (ps := ["_law_program", "_law_starts"]) fun _ _ _ _ _ _ us hl => match us, hl with | [_, _], _ => rfl
  have F37 := fun_mk (st := s_law_refuses_cards) l37 c37 k37
  have B37 := F37.binds (ps := ["_law_program"]) fun _ _ _ _ _ _ us hl => match us, hl with | [_], _ => rfl
  have F38 := fun_mk (st := s_law_names_of) l38 c38 k38
  have B38 := F38.binds (ps := ["_law_cell"]) fun _ _ _ _ _ _ us hl => match us, hl with | [_], _ => rfl
  have F39 := fun_mk (st := s_law) l39 c39 k39
  have B39 := F39.binds (ps := ["_law_script"]) fun _ _ _ _ _ _ us hl => match us, hl with | [_], _ => rfl
  exact ⟨{ f_place_of := _, fd_place_of := _, place_of := ⟨F1, B1, PySem.W.mg_of X G a1⟩, f_reckoned := _, fd_reckoned := _, reckoned := ⟨F2, B2, PySem.W.mg_of X G a2⟩, f_worth := _, fd_worth := _, worth := ⟨F3, B3, PySem.W.mg_of X G a3⟩, f_holds := _, fd_holds := _, holds := ⟨F4, B4, PySem.W.mg_of X G a4⟩, f_names_used := _, fd_names_used := _, names_used := ⟨F5, B5, PySem.W.mg_of X G a5⟩, f_names_at_head := _, fd_names_at_head := _, names_at_head := ⟨F6, B6, PySem.W.mg_of X G a6⟩, f_block_strangers := _, fd_block_strangers := _, block_strangers := ⟨F7, B7, PySem.W.mg_of X G a7⟩, f_strangers := _, fd_strangers := _, strangers := ⟨F8, B8, PySem.W.mg_of X G a8⟩, f_Course_init := _, fd_Course_init := _, Course_init := ⟨F9, B9⟩, me_Course_init := ⟨a9, i9, k9⟩, f_Course_put_ahead := _, fd_Course_put_ahead := _, Course_put_ahead := ⟨F10, B10⟩, me_Course_put_ahead := ⟨a10, i10, k10⟩, f_Course_go := _, fd_Course_go := _, Course_go := ⟨F11, B11⟩, me_Course_go := ⟨a11, i11, k11⟩, f_Course_begin := _, fd_Course_begin := _, Course_begin := ⟨F12, B12⟩, me_Course_begin := ⟨a12, i12, k12⟩, f_Course_begin_while := _, fd_Course_begin_while := _, Course_begin_while := ⟨F13, B13⟩, me_Course_begin_while := ⟨a13, i13, k13⟩, f_Course_begin_with := _, fd_Course_begin_with := _, Course_begin_with := ⟨F14, B14⟩, me_Course_begin_with := ⟨a14, i14, k14⟩, f_Course_worth_now := _, fd_Course_worth_now := _, Course_worth_now := ⟨F15, B15⟩, me_Course_worth_now := ⟨a15, i15, k15⟩, f_Course_holds_now := _, fd_Course_holds_now := _, Course_holds_now := ⟨F16, B16⟩, me_Course_holds_now := ⟨a16, i16, k16⟩, f_followed := _, fd_followed := _, followed := ⟨F17, B17, PySem.W.mg_of X G a17⟩, f_sum_cards := _, fd_sum_cards := _, sum_cards := ⟨F18, B18, PySem.W.mg_of X G a18⟩, f_both_cards := _, fd_both_cards := _, both_cards := ⟨F19, B19, PySem.W.mg_of X G a19⟩, f_test_cards := _, fd_test_cards := _, test_cards := ⟨F20, B20, PySem.W.mg_of X G a20⟩, f_when_cards := _, fd_when_cards := _, when_cards := ⟨F21, B21, PySem.W.mg_of X G a21⟩, f_while_cards := _, fd_while_cards := _, while_cards := ⟨F22, B22, PySem.W.mg_of X G a22⟩, f_block_cards := _, fd_block_cards := _, block_cards := ⟨F23, B23, PySem.W.mg_of X G a23⟩, f_cards_of := _, fd_cards_of := _, cards_of := ⟨F24, B24, PySem.W.mg_of X G a24⟩, f_law_draw := _, fd_law_draw := _, law_draw := ⟨F25, B25, PySem.W.mg_of X G a25⟩, f_law_whole := _, fd_law_whole := _, law_whole := ⟨F26, B26, PySem.W.mg_of X G a26⟩, f_law_at := _, fd_law_at := _, law_at := ⟨F27, B27, PySem.W.mg_of X G a27⟩, f_law_alike := _, fd_law_alike := _, law_alike := ⟨F28, B28, PySem.W.mg_of X G a28⟩, f_law_leaf := _, fd_law_leaf := _, law_leaf := ⟨F29, B29, PySem.W.mg_of X G a29⟩, f_law_sum_of := _, fd_law_sum_of := _, law_sum_of := ⟨F30, B30, PySem.W.mg_of X G a30⟩, f_law_test_of := _, fd_law_test_of := _, law_test_of := ⟨F31, B31, PySem.W.mg_of X G a31⟩, f_law_head_of := _, fd_law_head_of := _, law_head_of := ⟨F32, B32, PySem.W.mg_of X G a32⟩, f_law_close := _, fd_law_close := _, law_close := ⟨F33, B33, PySem.W.mg_of X G a33⟩, f_law_grown := _, fd_law_grown := _, law_grown := ⟨F34, B34, PySem.W.mg_of X G a34⟩, f_law_strange := _, fd_law_strange := _, law_strange := ⟨F35, B35, PySem.W.mg_of X G a35⟩, f_law_refuses_following := _, fd_law_refuses_following := _, law_refuses_following := ⟨F36, B36, PySem.W.mg_of X G a36⟩, f_law_refuses_cards := _, fd_law_refuses_cards := _, law_refuses_cards := ⟨F37, B37, PySem.W.mg_of X G a37⟩, f_law_names_of := _, fd_law_names_of := _, law_names_of := ⟨F38, B38, PySem.W.mg_of X G a38⟩, f_law := _, fd_law := _, law := ⟨F39, B39, PySem.W.mg_of X G a39⟩, c_Course := _, cl_Course := ⟨pgCourse, hdCourse, poCourse, saCourse⟩, mg_Course := PySem.W.mg_of X G aCCourse, mk_Course := ⟨mkCourse, a9, i9, kcCourse⟩, na_Course_row := naCourse_row, na_Course_held := naCourse_held, na_Course_said := naCourse_said, na_Course_oil := naCourse_oil, na_Course_used := naCourse_used, na_Course_ahead := naCourse_ahead, b_len := PySem.W.mg_none_of X G z1, b_range := PySem.W.mg_none_of X G z2, b_isinstance := PySem.W.mg_none_of X G z3, b_list := PySem.W.mg_none_of X G z4, b_tuple := PySem.W.mg_none_of X G z5, b_str := PySem.W.mg_none_of X G z6, b_int := PySem.W.mg_none_of X G z7, b_bool := PySem.W.mg_none_of X G z8, b_reversed := PySem.W.mg_none_of X G z9, a_AWAY := _, m_AWAY := PySem.W.mg_of X G zg0, k_AWAY := fun _ => .inr ⟨_, _, _, zl0, rfl, rfl, (by show 1 ≤ sizeLine; decide), .cons ⟨_, rfl⟩ .nil⟩, er := { cJarError := _, mJarError := PySem.W.mg_of X G xJarError, qJarError := yJarError, cNoName := _, mNoName := PySem.W.mg_of X G xNoName, qNoName := yNoName } }, rfl, _, _, _, _, _, _, rfl⟩
theorem walk {l : PySem.W.OpenLaw} {q : Program} {loose : List Str} {XP : (Str → Option Value) → Heap → Prop} {YP : World → Heap → Prop} {d : DefRec} {K : Params → PySem.W.Frag} (hn : l.most = some 63) (hdf : d.params.defaults = [])
    (hY : ∀ (w : World) (h : Heap), YP w h → (K w.params).In h)
    (F : ∀ (w : World) (mg : Str → Option Value) (fa : Addr) (h : Heap), (K w.params).In h → h.Ns mainGlobals mg → mg d.name = some (.ref fa) →
      ∃ fd : FuncData, (∀ (s : Shared) (u : Value), BindsTo s fd ⟨[u], []⟩ [("_law_script", u)]) ∧ ∀ base : Heap, (K w.params).In base → base.Ns mainGlobals mg → FnOk l.prog w (K w.params) mg base CX0 160 fa fd ["_law_script"] (spLaw (K w.params))) :
    PySem.W.WalkO q loose XP YP l.row.toRowW d [] (fun f vs => PySem.call f vs) :=
  L2.walk_of (n := 63) (k := 160) (x := "_law_script") (CX := fun _ => CX0) (sp := fun w => spLaw (K w.params)) hn (by decide) hdf ⟨rfl, by decide, by decide⟩ hY F (fun _ _ a ns hl _ hS => ⟨a, ns, rfl, hS, hl, fun _ => rfl⟩) fun _ _ _ _ _ z => z
theorem fin_of {l : PySem.W.OpenLaw} {w : World} {K : PySem.W.Frag} {h : Heap} {mg : Str → Option Value} {fa f : Addr} (X : K.In h) (G : h.Ns mainGlobals mg) (hfa : mg "law" = some (.ref fa)) (a1 : PySem.W.nsIn K mainGlobals "law" = some (some (.ref f)))
    (t : ∃ T : Txt K mg, T.f_law = f ∧ ∃ kV dc pm an cd ct, T.fd_law = PySem.W.fnOf "law" "law" (defArgs s_law) (defBody s_law) (defScope s_law) .none kV dc pm an cd ct) :
    ∃ fd : FuncData, (∀ (s : Shared) (v : Value), BindsTo s fd ⟨[v], []⟩ [("_law_script", v)]) ∧ ∀ base : Heap, K.In base → base.Ns mainGlobals mg → FnOk l.prog w K mg base CX0 160 fa fd ["_law_script"] (spLaw K) := by
  have e := hfa.symm.trans (PySem.W.mg_of X G a1)
  cases e
  obtain ⟨T, rfl, kV, dc, pm, an, cd, ct, e⟩ := t
  refine ⟨T.fd_law, fun s v => ?_, fun base _ _ => ok_law T⟩
  rw [e]
  exact .of_eq rfl
end W05
open PySem PySem.W PyProof.Rows
set_option maxRecDepth 100000 in
set_option maxHeartbeats 0 in
theorem PySem.Challenge.cw_jarcards_k05_strangers_holds : PySem.Challenge.rw_jarcards_k05_strangers.Holds := by
  refine W05.top1 ?_
  k_fill
  refine W05.walk (l := PySem.Challenge.rw_jarcards_k05_strangers) rfl rfl (fun w h Y => PySem.W.kIn_of Y) ?F
  case F =>
    intro w mg fa h KX G hmg
    refine' W05.fin_of KX G hmg ?zz (W05.txt_mk KX G ?aCCourse ?pgCourse ?hdCourse ?poCourse ?saCourse ?mkCourse ?kcCourse ?naCourse_row ?naCourse_held ?naCourse_said ?naCourse_oil ?naCourse_used ?naCourse_ahead ?a1 ?l1 ?c1 ?k1 ?a2 ?l2 ?c2 ?k2 ?a3 ?l3 ?c3 ?k3 ?a4 ?l4 ?c4 ?k4 ?a5 ?l5 ?c5 ?k5 ?a6 ?l6 ?c6 ?k6 ?a7 ?l7 ?c7 ?k7 ?a8 ?l8 ?c8 ?k8 ?a9 ?i9 ?l9 ?c9 ?k9 ?a10 ?i10 ?l10 ?c10 ?k10 ?a11 ?i11 ?l11 ?c11 ?k11 ?a12 ?i12 ?l12 ?c12 ?k12 ?a13 ?i13 ?l13 ?c13 ?k13 ?a14 ?i14 ?l14 ?c14 ?k14 ?a15 ?i15 ?l15 ?c15 ?k15 ?a16 ?i16 ?l16 ?c16 ?k16 ?a17 ?l17 ?c17 ?k17 ?a18 ?l18 ?c18 ?k18 ?a19 ?l19 ?c19 ?k19 ?a20 ?l20 ?c20 ?k20 ?a21 ?l21 ?c21 ?k21 ?a22 ?l22 ?c22 ?k22 ?a23 ?l23 ?c23 ?k23 ?a24 ?l24 ?c24 ?k24 ?a25 ?l25 ?c25 ?k25 ?a26 ?l26 ?c26 ?k26 ?a27 ?l27 ?c27 ?k27 ?a28 ?l28 ?c28 ?k28 ?a29 ?l29 ?c29 ?k29 ?a30 ?l30 ?c30 ?k30 ?a31 ?l31 ?c31 ?k31 ?a32 ?l32 ?c32 ?k32 ?a33 ?l33 ?c33 ?k33 ?a34 ?l34 ?c34 ?k34 ?a35 ?l35 ?c35 ?k35 ?a36 ?l36 ?c36 ?k36 ?a37 ?l37 ?c37 ?k37 ?a38 ?l38 ?c38 ?k38 ?a39 ?l39 ?c39 ?k39 ?z1 ?z2 ?z3 ?z4 ?z5 ?z6 ?z7 ?z8 ?z9 ?zg0 ?zl0 ?xJarError ?yJarError ?xNoName ?yNoName)
    (case zz => k_is)
    (case aCCourse => k_is)
    (case pgCourse => k_is)
    (case hdCourse => k_is)
    (case poCourse => k_is)
    (case saCourse => k_is)
    (case mkCourse => k_is)
    (case kcCourse => first | k_is | kit_is | kernel_rfl)
    (case naCourse_row => k_is)
    (case naCourse_held => k_is)
    (case naCourse_said => k_is)
    (case naCourse_oil => k_is)
    (case naCourse_used => k_is)
    (case naCourse_ahead => k_is)
    (case a1 => k_is)
    (case l1 => k_is)
    (case c1 => k_is)
    (case k1 => k_is)
    (case a2 => k_is)
    (case l2 => k_is)
    (case c2 => k_is)
    (case k2 => k_is)
    (case a3 => k_is)
    (case l3 => k_is)
    (case c3 => k_is)
    (case k3 => k_is)
    (case a4 => k_is)
    (case l4 => k_is)
    (case c4 => k_is)
    (case k4 => k_is)
    (case a5 => k_is)
    (case l5 => k_is)
    (case c5 => k_is)
    (case k5 => k_is)
    (case a6 => k_is)
    (case l6 => k_is)
    (case c6 => k_is)
    (case k6 => k_is)
    (case a7 => k_is)
    (case l7 => k_is)
    (case c7 => k_is)
    (case k7 => k_is)
    (case a8 => k_is)
    (case l8 => k_is)
    (case c8 => k_is)
    (case k8 => k_is)
    (case a9 => k_is)
    (case i9 => k_is)
    (case l9 => k_is)
    (case c9 => k_is)
    (case k9 => k_is)
    (case a10 => k_is)
    (case i10 => k_is)
    (case l10 => k_is)
    (case c10 => k_is)
    (case k10 => k_is)
    (case a11 => k_is)
    (case i11 => k_is)
    (case l11 => k_is)
    (case c11 => k_is)
    (case k11 => k_is)
    (case a12 => k_is)
    (case i12 => k_is)
    (case l12 => k_is)
    (case c12 => k_is)
    (case k12 => k_is)
    (case a13 => k_is)
    (case i13 => k_is)
    (case l13 => k_is)
    (case c13 => k_is)
    (case k13 => k_is)
    (case a14 => k_is)
    (case i14 => k_is)
    (case l14 => k_is)
    (case c14 => k_is)
    (case k14 => k_is)
    (case a15 => k_is)
    (case i15 => k_is)
    (case l15 => k_is)
    (case c15 => k_is)
    (case k15 => k_is)
    (case a16 => k_is)
    (case i16 => k_is)
    (case l16 => k_is)
    (case c16 => k_is)
    (case k16 => k_is)
    (case a17 => k_is)
    (case l17 => k_is)
    (case c17 => k_is)
    (case k17 => k_is)
    (case a18 => k_is)
    (case l18 => k_is)
    (case c18 => k_is)
    (case k18 => k_is)
    (case a19 => k_is)
    (case l19 => k_is)
    (case c19 => k_is)
    (case k19 => k_is)
    (case a20 => k_is)
    (case l20 => k_is)
    (case c20 => k_is)
    (case k20 => k_is)
    (case a21 => k_is)
    (case l21 => k_is)
    (case c21 => k_is)
    (case k21 => k_is)
    (case a22 => k_is)
    (case l22 => k_is)
    (case c22 => k_is)
    (case k22 => k_is)
    (case a23 => k_is)
    (case l23 => k_is)
    (case c23 => k_is)
    (case k23 => k_is)
    (case a24 => k_is)
    (case l24 => k_is)
    (case c24 => k_is)
    (case k24 => k_is)
    (case a25 => k_is)
    (case l25 => k_is)
    (case c25 => k_is)
    (case k25 => k_is)
    (case a26 => k_is)
    (case l26 => k_is)
    (case c26 => k_is)
    (case k26 => k_is)
    (case a27 => k_is)
    (case l27 => k_is)
    (case c27 => k_is)
    (case k27 => k_is)
    (case a28 => k_is)
    (case l28 => k_is)
    (case c28 => k_is)
    (case k28 => k_is)
    (case a29 => k_is)
    (case l29 => k_is)
    (case c29 => k_is)
    (case k29 => k_is)
    (case a30 => k_is)
    (case l30 => k_is)
    (case c30 => k_is)
    (case k30 => k_is)
    (case a31 => k_is)
    (case l31 => k_is)
    (case c31 => k_is)
    (case k31 => k_is)
    (case a32 => k_is)
    (case l32 => k_is)
    (case c32 => k_is)
    (case k32 => k_is)
    (case a33 => k_is)
    (case l33 => k_is)
    (case c33 => k_is)
    (case k33 => k_is)
    (case a34 => k_is)
    (case l34 => k_is)
    (case c34 => k_is)
    (case k34 => k_is)
    (case a35 => k_is)
    (case l35 => k_is)
    (case c35 => k_is)
    (case k35 => k_is)
    (case a36 => k_is)
    (case l36 => k_is)
    (case c36 => k_is)
    (case k36 => k_is)
    (case a37 => k_is)
    (case l37 => k_is)
    (case c37 => k_is)
    (case k37 => k_is)
    (case a38 => k_is)
    (case l38 => k_is)
    (case c38 => k_is)
    (case k38 => k_is)
    (case a39 => k_is)
    (case l39 => k_is)
    (case c39 => k_is)
    (case k39 => k_is)
    (case z1 => k_is)
    (case z2 => k_is)
    (case z3 => k_is)
    (case z4 => k_is)
    (case z5 => k_is)
    (case z6 => k_is)
    (case z7 => k_is)
    (case z8 => k_is)
    (case z9 => k_is)
    (case zg0 => k_is)
    (case zl0 => k_is)
    (case xJarError => k_is)
    (case yJarError => first | k_is | kit_is | kernel_rfl)
    (case xNoName => k_is)
    (case yNoName => first | k_is | kit_is | kernel_rfl)
#print axioms PySem.Challenge.cw_jarcards_k05_strangers_holds
