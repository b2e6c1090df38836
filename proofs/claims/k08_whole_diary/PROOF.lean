import PyProof.Rows.All
import Wide.All
import OpenK.AllK
import Wide.FinOn
import Lean
import PyProof.EqAt
import PyProof.EqKinds
import PyProof.TupleCall
import PySem.Challenge.RW_jarcards_k08_whole_diary
set_option Elab.async false
set_option linter.all false
set_option maxRecDepth 100000
set_option maxHeartbeats 4000000
/-! ### the module's top, run at once over a tree of objects -/
namespace JH
open PySem PySem.W PyProof.Rows
def runT (tb : String → Option Builtin) (p : Program) (w : World) (m : Nat) (ann : Option Value) : Nat → SharedT → Thread → Option SharedT
  | 0, _, _ => none
  | n + 1, s, t => match through t with
    | true => some s
    | false => match stepOk m ann t with
      | false => none
      | true => match stepT (denote tb) p w s t with
        | some (s2, t2) => runT tb p w m ann n s2 t2
        | none => none
theorem runT_of {tb : String → Option Builtin} {p : Program} {w : World} {m : Nat} {ann : Option Value} : ∀ {n : Nat} {s r : SharedT} {t : Thread}, runT tb p w m ann n s t = some r → topRun tb p w m ann n s.abs t = some r.abs
  | 0, _, _, _, h => by cases h
  | n + 1, s, r, t, h => by
    unfold runT at h
    unfold topRun
    cases ht : through t with
    | true => rw [ht] at h; cases h; rfl
    | false =>
      rw [ht] at h
      cases hk : stepOk m ann t with
      | false => rw [hk] at h; cases h
      | true =>
        rw [hk] at h
        cases hs : stepT (denote tb) p w s t with
        | none => rw [hs] at h; cases h
        | some x =>
          obtain ⟨s2, t2⟩ := x
          rw [hs] at h
          rw [stepT_spec hs]
          exact runT_of h
def grow : Nat → List Obj → BT → BT
  | _, [], t => t
  | i, o :: os, t => grow (i + 1) os (t.ins i o)
noncomputable def bootT (P : Params) : BT := grow 0 (boot_heap P).objs.toList .nil
/-- what is looked at behind the top -/
noncomputable def look (p : Program) (w : World) (s : Shared) : Bool := staticsOk (importedModules p.main.body) (boot_heap w.params) s.heap && namesBound p s.heap && gensDone s && laidKept (boot_heap w.params) s.heap
/-- the state ahead of the top -/
noncomputable def st0 (w : World) (os : OsState) : SharedT := ⟨bootT w.params, 11, (boot_heap w.params).life, Array.mk [], boot_drawn, boot_toks, os⟩
noncomputable abbrev goes (p : Program) (M : Nat) (w : World) (os : OsState) : Option SharedT := runT treeTable p w 11 (some (Value.ref 6)) M (st0 w os) (topStub p)
theorem boot_abs (P : Params) : absHeap (bootT P) 11 (boot_heap P).life = boot_heap P := by kernel_rfl
theorem boot_size (P : Params) : ((boot_heap P).isNs mainGlobals, (boot_heap P).objs.size, (boot_heap P).nsMap mainGlobals "__annotations__") = (true, 11, some (Value.ref 6)) := by kernel_rfl
theorem left_of {p q : Program} {Xt : Shared → Bool} {α : Type} {Yf : Shared → α} {Ya : World → α} {N M : Nat}
    (h1 : opening p = plainProg p.main.scope.names) (h2 : Nat.ble 600 N = true) (h3 : ∀ s, fenceModules? p s = some s) (h4 : Nat.ble M N = true)
    (goA : ∀ (w : World) (os : OsState), (goes p M w os).map (fun s => look p w s.abs) = some true)
    (goC : ∀ (w : World) (os : OsState), (goes p M w os).map (fun s => openSeen q [] (importedModules p.main.body) Xt true s.abs) = some (openGood q []))
    (goB : ∀ (w : World) (os : OsState), (goes p M w os).map (fun s => Yf s.abs) = some (Ya w)) :
    LeftO p q [] Xt Yf Ya N := fun w => by
  obtain ⟨⟨h, gs, d, k, os⟩, e, e'⟩ := Option.map_eq_some_iff.mp (boot_open h1 h2 h3 w)
  obtain ⟨rfl, rfl, rfl, rfl⟩ : h = boot_heap w.params ∧ gs = Array.mk [] ∧ d = boot_drawn ∧ k = boot_toks := by simpa using e'
  obtain ⟨z1, z2, z3⟩ : _ ∧ _ ∧ _ := by simpa only [Prod.mk.injEq] using boot_size w.params
  obtain ⟨sT, r1, r2⟩ := Option.map_eq_some_iff.mp (goA w os)
  obtain ⟨sB, b1, b2⟩ := Option.map_eq_some_iff.mp (goB w os)
  obtain ⟨sC, c1, c2⟩ := Option.map_eq_some_iff.mp (goC w os)
  rw [r1] at b1 c1
  cases b1
  cases c1
  have l1 : (staticsOk (importedModules p.main.body) (boot_heap w.params) sT.abs.heap && namesBound p sT.abs.heap && gensDone sT.abs && laidKept (boot_heap w.params) sT.abs.heap) = true := r2
  have l2 : (openSeen q [] (importedModules p.main.body) Xt true sT.abs, Yf sT.abs) = (openGood q [], Ya w) := by
    rw [b2, c2]
  have r3 := runT_of r1
  have e0 : (st0 w os).abs = ⟨boot_heap w.params, Array.mk [], boot_drawn, boot_toks, os⟩ := by
    unfold st0 SharedT.abs
    dsimp only
    rw [boot_abs]
  rw [e0] at r3
  have r4 := topRun_mono (N - M) _ _ _ _ r3
  rw [show M + (N - M) = N by have := Nat.le_of_ble_eq_true h4; omega] at r4
  have t : topFrom treeTable p w N ⟨boot_heap w.params, Array.mk [], boot_drawn, boot_toks, os⟩ = some sT.abs := by
    unfold topFrom
    dsimp only
    rw [z1, z2, z3, r4]
    show (match staticsOk (importedModules p.main.body) (boot_heap w.params) sT.abs.heap && namesBound p sT.abs.heap && gensDone sT.abs && laidKept (boot_heap w.params) sT.abs.heap with | true => _ | false => _) = _
    rw [l1]
  unfold openEnds
  rw [e]
  show (topFrom treeTable p w N ⟨boot_heap w.params, Array.mk [], boot_drawn, boot_toks, os⟩).map _ = _
  rw [t]
  exact congrArg some l2
end JH

set_option Elab.async false
set_option linter.all false
set_option maxRecDepth 100000
set_option maxHeartbeats 4000000
namespace W08
open PySem PySem.W PyProof.Rows
/-! ### the top of the text, run at once -/
def keptB (l : List Stmt) : List Stmt := l.filter fun s => match s with
  | .Assign [.Name x _] _ _ => !(x == ("__name__" : Str))
  | _ => true
def seenP : Program := { PySem.Challenge.pw_jarcards_k08_whole_diary with main := { PySem.Challenge.pw_jarcards_k08_whole_diary.main with body := keptB PySem.Challenge.pw_jarcards_k08_whole_diary.main.body } }
def xt (s : Shared) : Bool := xlAt seenP [] s && recOk (RowW.records (OpenRow.toRowW (OpenLaw.row PySem.Challenge.rw_jarcards_k08_whole_diary))) s
/-- the text stands for itself in what is reckoned quickly -/
def _root_.PySem.W.Fast.tw6483035578310140621 : Program := PySem.Challenge.pw_jarcards_k08_whole_diary
theorem _root_.PySem.W.Fast.te6483035578310140621 : PySem.Challenge.pw_jarcards_k08_whole_diary = PySem.W.Fast.tw6483035578310140621 := rfl
theorem goA (w : World) (os : OsState) : (JH.goes PySem.Challenge.pw_jarcards_k08_whole_diary 6000 w os).map (fun s => JH.look PySem.Challenge.pw_jarcards_k08_whole_diary w s.abs) = some true := by kernel_rfl
theorem goC (w : World) (os : OsState) : (JH.goes PySem.Challenge.pw_jarcards_k08_whole_diary 6000 w os).map (fun s => openSeen seenP [] (importedModules PySem.Challenge.pw_jarcards_k08_whole_diary.main.body) xt true s.abs) = some (openGood seenP []) := by kernel_rfl
section
local macro_rules
  | `(tactic| o_head $H) => `(tactic| (
    refine holds_open (q := seenP)
      (loose := []) (N := 6000) (Xt := xt)
      (XP := XL seenP []) (Yf := Hook.obs $H)
      (Ya := Hook.val $H) (YP := Hook.says $H)
      (JH.left_of (M := 6000)
        (by kernel_rfl) (by rfl) (fun s => by kernel_rfl) (by rfl)
        goA goC (fun w os => by kernel_rfl))
      (Hook.of $H) (Hook.keeps $H)
      (fun s e => xl_of s (Bool.and_eq_true_iff.mp e).1)
      XL.keeps (by rfl) (by rfl) (by rfl)
      (fun s e => recFacts_of (Bool.and_eq_true_iff.mp e).2)
      (by rfl) (by first | assumption | decide +kernel)
      (by decide +kernel)
      ⟨rfl, rfl, rfl, rfl, rfl, by decide +kernel⟩ ?hw ?hc))
set_option maxHeartbeats 0 in
open_top top1 for PySem.Challenge.rw_jarcards_k08_whole_diary
end
end W08

set_option Elab.async false
set_option linter.all false
set_option maxRecDepth 100000
/-! THE HAND LAYER, for ints, bools, texts, own classes, LISTS and tuples (index, slices, in, append, pop ..), calls, loops. Paste it whole ahead of your own text; what your proof does not reach may be deleted. -/
namespace L2
open PySem PySem.Spec PyProof.Rows

/-- a key: an int or a str -/
abbrev Key := Sum Int Str
def keyIs : Key → Value → Bool
  | .inl k, v => Value.isInt k v
  | .inr x, v => Value.isStrOf x v
def keyH (w : World) : Key → Int
  | .inl k => hashInt k
  | .inr x => hashStr w x
theorem keyIs_shape : ∀ {k : Key} {v : Value}, keyIs k v = true → (∃ i t, k = Sum.inl i ∧ v = Value.int i t) ∨ (∃ x t, k = Sum.inr x ∧ v = Value.str x t)
  | .inl i, v, h => by
    obtain ⟨t, e⟩ := Value.isInt_shape (k := i) (v := v) h
    exact .inl ⟨i, t, rfl, e⟩
  | .inr x, v, h => by
    obtain ⟨t, e⟩ := Value.isStrOf_shape (x := x) (v := v) h
    exact .inr ⟨x, t, rfl, e⟩
theorem key_ll (a b : Int) : decide ((Sum.inl a : Key) = Sum.inl b) = (a == b) := by
  by_cases e : a = b
  · subst e; simp
  · have h : ¬ (Sum.inl a : Key) = Sum.inl b := fun q => e (Sum.inl.inj q)
    rw [decide_eq_false h]
    exact (beq_eq_false_iff_ne.mpr e).symm
theorem key_rr (a b : Str) : decide ((Sum.inr a : Key) = Sum.inr b) = decide (a = b) := by
  by_cases e : a = b
  · subst e; simp
  · have h : ¬ (Sum.inr a : Key) = Sum.inr b := fun q => e (Sum.inr.inj q)
    rw [decide_eq_false h, decide_eq_false e]
theorem key_lr (a : Int) (b : Str) : decide ((Sum.inl a : Key) = Sum.inr b) = false := decide_eq_false (fun q => nomatch q)
theorem key_rl (a : Str) (b : Int) : decide ((Sum.inr a : Key) = Sum.inl b) = false := decide_eq_false (fun q => nomatch q)

def mixKind (prog : Program) (w : World) : PySem.KeyKind prog w Key where
  is := keyIs
  hash := keyH w
  inj := fun v a b ha hb => by
    rcases keyIs_shape ha with ⟨i, t, rfl, rfl⟩ | ⟨x, t, rfl, rfl⟩
    · rcases keyIs_shape hb with ⟨j, u, rfl, e⟩ | ⟨y, u, rfl, e⟩
      · injection e with e1 _; rw [e1]
      · exact nomatch e
    · rcases keyIs_shape hb with ⟨j, u, rfl, e⟩ | ⟨y, u, rfl, e⟩
      · exact nomatch e
      · injection e with e1 _; rw [e1]
  byValue := fun k v h => by
    rcases keyIs_shape h with ⟨i, t, rfl, rfl⟩ | ⟨x, t, rfl, rfl⟩ <;> rfl
  pyHash := fun hv h => by
    rcases keyIs_shape hv with ⟨i, t, rfl, rfl⟩ | ⟨x, t, rfl, rfl⟩
    · exact wpAny_pyHash_int h
    · exact wpAny_pyHash_str h
  eqBool := fun hu hv h => by
    rcases keyIs_shape hu with ⟨i, t, rfl, rfl⟩ | ⟨x, t, rfl, rfl⟩
    · rcases keyIs_shape hv with ⟨j, u, rfl, rfl⟩ | ⟨y, u, rfl, rfl⟩
      · rw [key_ll] at h; exact wpAny_eqBool_int h
      · rw [key_lr] at h; exact SeqAt.EqAt.int_str i t y u _ _ _ _ h
    · rcases keyIs_shape hv with ⟨j, u, rfl, rfl⟩ | ⟨y, u, rfl, rfl⟩
      · rw [key_rl] at h; exact SeqAt.EqAt.str_int x t j u _ _ _ _ h
      · rw [key_rr] at h; exact wpAny_eqBool_str h
  «strs» := fun k x t v h => by
    rcases keyIs_shape h with ⟨i, u, rfl, e⟩ | ⟨y, u, rfl, e⟩
    · exact nomatch e
    · injection e with e1 _
      subst e1
      cases v <;> rfl

end L2

namespace L2
open PySem PySem.Spec PyProof.Rows

/-- a value, without the heap -/
inductive V where
  | non | bl (b : Bool) | int (i : Int) | str (x : Str) | byt (b : Array UInt8) | flt (b : UInt64) | ref (a : Addr) | ty (n : String)
  deriving DecidableEq

def RelV : V → Value → Prop
  | .non, u => u = Value.none
  | .bl b, u => u = Value.bool b
  | .int i, u => ∃ t, u = Value.int i t
  | .str x, u => ∃ t, u = Value.str x t
  | .byt b, u => ∃ t, u = Value.bytes b t
  | .flt b, u => ∃ t, u = Value.float b t
  | .ref a, u => u = Value.ref a
  | .ty n, u => u = Value.type n

abbrev Vals : List V → List Value → Prop := Paired RelV
theorem Vals.length {xs : List V} {us : List Value} (r : Vals xs us) : xs.length = us.length := Paired.length r
theorem Vals.get : ∀ {xs : List V} {us : List Value} {i : Nat} {x : V}, Vals xs us → xs[i]? = some x → ∃ u, us[i]? = some u ∧ RelV x u
  | _, _, _, _, .nil, e => by simp at e
  | _, _, 0, _, .cons r _, e => by simp at e; subst e; exact ⟨_, rfl, r⟩
  | _, _, i + 1, x, .cons _ t, e => by
    obtain ⟨u, h1, h2⟩ := Vals.get (i := i) (x := x) t (by simpa using e)
    exact ⟨u, by simpa using h1, h2⟩
theorem Vals.set {x : V} {u : Value} (r : RelV x u) : ∀ {xs : List V} {us : List Value} (i : Nat), Vals xs us → Vals (xs.set i x) (us.set i u)
  | _, _, _, .nil => .nil
  | _, _, 0, .cons _ t => .cons r t
  | _, _, i + 1, .cons q t => .cons q (Vals.set r i t)
theorem Vals.append : ∀ {xs ys : List V} {us ws : List Value}, Vals xs us → Vals ys ws → Vals (xs ++ ys) (us ++ ws)
  | _, _, _, _, .nil, s => s
  | _, _, _, _, .cons r t, s => .cons r (Vals.append t s)
theorem Vals.take : ∀ {xs : List V} {us : List Value} (n : Nat), Vals xs us → Vals (xs.take n) (us.take n)
  | _, _, 0, _ => .nil
  | _, _, _ + 1, .nil => .nil
  | _, _, n + 1, .cons r t => .cons r (Vals.take n t)
theorem Vals.drop : ∀ {xs : List V} {us : List Value} (n : Nat), Vals xs us → Vals (xs.drop n) (us.drop n)
  | _, _, 0, r => r
  | _, _, _ + 1, .nil => .nil
  | _, _, n + 1, .cons _ t => Vals.drop n t

def RelO : Option V → Option Value → Prop
  | some v, some u => RelV v u
  | none, none => True
  | _, _ => False
def KV {κ : Type} : List (κ × V) → List (κ × Value) → Prop := Paired fun (p : κ × V) (q : κ × Value) => p.1 = q.1 ∧ RelV p.2 q.2

/-- a key of a dict (00_mix): an int or a text -/
def kV : Key → V
  | .inl i => .int i
  | .inr x => .str x

/-- what stands at a tracked address -/
inductive HO where
  /-- a list -/
  | lst (xs : List V)
  /-- a tuple (never changes) -/
  | tup (xs : List V)
  /-- a dict whose keys are ints and texts; one whose keys are tuples of ints and texts (the empty one is both) -/
  | dK (kvs : List (Key × V)) | dT (kvs : List (List Key × V))
  /-- a set of ints: its members, its size -/
  | set (S : Int → Bool) (n : Nat)
  /-- an instance of the class at C, its dict at dx, its attributes -/
  | ins (C dx : Addr) (fs : List (Str × V))
  /-- the dict of the instance at x -/
  | own (x : Addr)
  /-- the dict of an exception -/
  | xd (fs : List (Str × V))
  /-- a bound method, f of x -/
  | met (f x : Addr)
  /-- a range object lo, lo + 1, .. below hi -/
  | rng (lo hi : Int)
  /-- a thing that is known to the object (the script; a dict while a loop walks it): read, never written while it is so -/
  | frz (o : Obj) (u : HO)
  /-- a code object's table -/
  | tbl (ps : Array Value)
  /-- any other thing, by what is true of its one object (a def of one's own: SetO a S n := HO.ext fun h => ..) -/
  | ext (φ : Heap → Prop)

abbrev Hp := Addr → Option HO
def upd (H : Hp) (a : Addr) (o : HO) : Hp := fun b => if b = a then some o else H b
theorem upd_same {H : Hp} {a : Addr} {o : HO} : upd H a o a = some o := by unfold upd; rw [if_pos rfl]
theorem upd_ne {H : Hp} {a b : Addr} {o : HO} (h : b ≠ a) : upd H a o b = H b := by unfold upd; rw [if_neg h]
theorem upd_upd {H : Hp} {a : Addr} {o u : HO} : upd (upd H a o) a u = upd H a u := by
  funext b; unfold upd; split <;> rfl
/-- two objects of different content stand apart -/
theorem ne_of {H : Hp} {a b : Addr} {o u : HO} (h : H a = some o) (h' : H b = some u) (d : o ≠ u) : a ≠ b := by
  intro e; subst e; rw [h] at h'; exact d (Option.some.inj h')
theorem ne_of_none {H : Hp} {a b : Addr} {o : HO} (h : H a = some o) (h' : H b = none) : a ≠ b := by
  intro e; subst e; rw [h] at h'; cases h'

section
variable (P : Program) (w : World)
def ObjOk (H : Hp) (h : Heap) (a : Addr) : HO → Prop
  | .lst xs => xs.length ≤ sizeLine ∧ ∃ (its : List Value) (n : Nat), Vals xs its ∧ h.get? a = some { cls := .type "list", data := .seq its.toArray n }
  | .tup xs => xs.length ≤ sizeLine ∧ ∃ its : List Value, Vals xs its ∧ IsTup h a its.toArray
  | .dK kvs => kvs.length ≤ sizeLine ∧ (a == sysModules) = false ∧ ∃ vs, KV kvs vs ∧ h.DictOf (mixKind P w) a vs
  | .dT kvs => kvs.length ≤ sizeLine ∧ (a == sysModules) = false ∧ ∃ xs : List (List Key × Addr × Value),
      Paired (fun (p : List Key × V) (q : List Key × Addr × Value) => p.1 = q.1 ∧ H q.2.1 = some (.tup (p.1.map kV)) ∧ RelV p.2 q.2.2) kvs xs ∧
      ∃ o es ep, h.get? a = some o ∧ o.ExactDict ∧ o.data = .dict es ep ∧ es.toList = xs.map (entryOfKey (tupleKind (mixKind P w))) ∧ (xs.map (·.1)).Nodup
  | .set S n => h.SetOf (intKind P w) a S n
  | .ins C dx fs => H dx = some (.own a) ∧ fs.length ≤ 1000 ∧ dx ≠ a ∧ h.get? a = some (PySem.W.instObj C dx) ∧
      ∃ mA, h.Ns1 dx mA ∧ (∀ f, RelO (fs.lookup f) (mA f)) ∧ PySem.Within mA (fs.map (·.1))
  | .own _ => ∃ o, h.get? a = some o
  | .xd fs => ∃ mA, h.Ns1 a mA ∧ ∀ f, RelO (fs.lookup f) (mA f)
  | .rng lo hi => ∃ t u v, h.get? a = some { cls := .type "range", data := .fields #[.int lo t, .int hi u, .int 1 v] }
  | .frz o u => h.get? a = some o ∧ ObjOk H h a u
  | .tbl ps => h.get? a = some { cls := .none, data := .fields ps }
  | .met f x => h.get? a = some (PySem.W.methodObj (.ref f) (.ref x))
  | .ext φ => φ h ∧ (∃ o, h.get? a = some o) ∧ ∀ h1 h2 : Heap, φ h1 → (∀ o, h1.get? a = some o → h2.get? a = some o) → φ h2
/-- the abstract heap is held -/
def HOk (H : Hp) (h : Heap) : Prop := ∀ a o, H a = some o → ObjOk P w H h a o
end

section
variable {P : Program} {w : World} {H H' : Hp} {h h' : Heap} {a : Addr} {o : HO}
theorem ObjOk.lt (x : ObjOk P w H h a o) : a < h.objs.size := by
  cases o with
  | lst xs => obtain ⟨_, _, _, _, e⟩ := x; exact Heap.lt_size e
  | tup xs => obtain ⟨_, _, _, p⟩ := x; exact p.lt
  | dK kvs => obtain ⟨_, _, _, _, o, _, _, e, _⟩ := x; exact Heap.lt_size e
  | dT kvs => obtain ⟨_, _, _, _, o, _, _, e, _⟩ := x; exact Heap.lt_size e
  | set S n => obtain ⟨o, _, _, _, e, _⟩ := x; exact Heap.lt_size e
  | ins C dx fs => obtain ⟨_, _, _, e, _⟩ := x; exact Heap.lt_size e
  | own y => obtain ⟨_, e⟩ := x; exact Heap.lt_size e
  | xd fs => obtain ⟨_, ⟨_, _, _, e, _⟩, _⟩ := x; exact Heap.lt_size e
  | rng lo hi => obtain ⟨_, _, _, e⟩ := x; exact Heap.lt_size e
  | frz ob u => obtain ⟨e, _⟩ := x; exact Heap.lt_size e
  | tbl ps => exact Heap.lt_size (show h.get? a = some _ from x)
  | met f y => exact Heap.lt_size (show h.get? a = some _ from x)
  | ext φ => obtain ⟨_, ⟨_, e⟩, _⟩ := x; exact Heap.lt_size e
theorem Paired.mapP {α β : Type} {F G : α → β → Prop} : ∀ {l₁ : List α} {l₂ : List β}, Paired F l₁ l₂ → (∀ a b, F a b → G a b) → Paired G l₁ l₂
  | _, _, .nil, _ => .nil
  | _, _, .cons r t, f => .cons (f _ _ r) (Paired.mapP t f)
/-- what an object's description leans on: its own object, its own dict, the tuples -/
theorem ObjOk.stay (x : ObjOk P w H h a o) (k : ∀ b u, (b = a ∨ H b = some (.own a)) → h.get? b = some u → h'.get? b = some u)
    (ho : ∀ b, H b = some (.own a) → H' b = some (.own a)) (ht : ∀ b xs, H b = some (.tup xs) → H' b = some (.tup xs)) : ObjOk P w H' h' a o := by
  induction o with
  | lst xs => obtain ⟨z, its, n, r, e⟩ := x; exact ⟨z, its, n, r, k _ _ (.inl rfl) e⟩
  | tup xs => obtain ⟨z, its, r, ob, e, c⟩ := x; exact ⟨z, its, r, ob, k _ _ (.inl rfl) e, c⟩
  | dK kvs => obtain ⟨z, y, vs, r, ob, es, ep, e, c⟩ := x; exact ⟨z, y, vs, r, ob, es, ep, k _ _ (.inl rfl) e, c⟩
  | dT kvs =>
    obtain ⟨z, y, xs, r, ob, es, ep, e, c⟩ := x
    exact ⟨z, y, xs, Paired.mapP r fun p q z => ⟨z.1, ht _ _ z.2.1, z.2.2⟩, ob, es, ep, k _ _ (.inl rfl) e, c⟩
  | set S n => obtain ⟨ob, es, ep, t, e, c⟩ := x; exact ⟨ob, es, ep, t, k _ _ (.inl rfl) e, c⟩
  | ins C dx fs =>
    obtain ⟨d, z, ne, e, mA, ⟨od, es, ep, e2, c⟩, r⟩ := x
    exact ⟨ho _ d, z, ne, k _ _ (.inl rfl) e, mA, ⟨od, es, ep, k _ _ (.inr d) e2, c⟩, r⟩
  | own y => obtain ⟨ob, e⟩ := x; exact ⟨ob, k _ _ (.inl rfl) e⟩
  | xd fs => obtain ⟨mA, ⟨od, es, ep, e, c⟩, r⟩ := x; exact ⟨mA, ⟨od, es, ep, k _ _ (.inl rfl) e, c⟩, r⟩
  | rng lo hi => obtain ⟨t, u, v, e⟩ := x; exact ⟨t, u, v, k _ _ (.inl rfl) e⟩
  | frz ob u ih => obtain ⟨e, q⟩ := x; exact ⟨k _ _ (.inl rfl) e, ih q⟩
  | tbl ps =>
    have e : h.get? a = some { cls := .none, data := .fields ps } := x
    show h'.get? a = some { cls := .none, data := .fields ps }
    exact k a _ (.inl rfl) e
  | met f y =>
    have e : h.get? a = some (PySem.W.methodObj (.ref f) (.ref y)) := x
    show h'.get? a = some (PySem.W.methodObj (.ref f) (.ref y))
    exact k a _ (.inl rfl) e
  | ext φ => obtain ⟨p, ⟨o, e⟩, st⟩ := x; exact ⟨st _ _ p fun o q => k _ _ (.inl rfl) q, ⟨o, k _ _ (.inl rfl) e⟩, st⟩
theorem HOk.lt (x : HOk P w H h) (e : H a = some o) : a < h.objs.size := (x a o e).lt
theorem HOk.fresh (x : HOk P w H h) (e : h.objs.size ≤ a) : H a = none := by
  cases q : H a with
  | none => rfl
  | some u => exact absurd (Nat.lt_of_lt_of_le (x.lt q) e) (Nat.lt_irrefl _)
/-- every object of the heap is kept -/
theorem HOk.kept (x : HOk P w H h) (k : ∀ b u, h.get? b = some u → h'.get? b = some u) : HOk P w H h' := fun a o e =>
  (x a o e).stay (fun b u _ q => k b u q) (fun _ q => q) fun _ _ q => q
/-- a new object is laid and tracked -/
theorem HOk.laid (x : HOk P w H h) (k : ∀ b u, h.get? b = some u → h'.get? b = some u) (hp : h.objs.size ≤ a) (new : ObjOk P w (upd H a o) h' a o) : HOk P w (upd H a o) h' := fun b u e => by
  have hn := x.fresh hp
  by_cases hb : b = a
  · subst hb; rw [upd_same] at e; cases e; exact new
  · rw [upd_ne hb] at e
    exact (x b u e).stay (fun c v _ q => k c v q) (fun c q => by rw [upd_ne (ne_of_none q hn)]; exact q) fun c xs q => by rw [upd_ne (ne_of_none q hn)]; exact q
end

/-- what may be read as u: it is u, or a known u -/
def Rd (H : Hp) (a : Addr) (u : HO) : Prop := H a = some u ∨ ∃ o, H a = some (.frz o u)
theorem Rd.ok {P : Program} {w : World} {H : Hp} {h : Heap} {a : Addr} {u : HO} (r : Rd H a u) (x : HOk P w H h) : ObjOk P w H h a u := by
  rcases r with r | ⟨o, r⟩
  · exact x a u r
  · obtain ⟨_, q⟩ := x a _ r
    exact q
/-- what may be written -/
def Mut : Option HO → Prop
  | some (.lst _) => True
  | some (.dK _) => True
  | some (.dT _) => True
  | some (.set _ _) => True
  | some (.ins _ _ _) => True
  | some (.ext _) => True
  | _ => False
section
variable {P : Program} {w : World} {H : Hp} {h h' : Heap} {x e : Addr} {o' : HO}
/-- the object at e is changed: x itself, or the dict of the instance x -/
theorem HOk.write (ok : HOk P w H h) (mu : Mut (H x)) (he : e = x ∨ H e = some (.own x)) (k : ∀ b u, b ≠ e → h.get? b = some u → h'.get? b = some u) (heo : ∃ u, h'.get? e = some u)
    (new : ObjOk P w (upd H x o') h' x o') : HOk P w (upd H x o') h' := fun b u q => by
  have nown : ∀ c y, H c = some (.own y) → c ≠ x := fun c y r z => by subst z; rw [r] at mu; exact mu
  have ntup : ∀ c xs, H c = some (.tup xs) → c ≠ x := fun c xs r z => by subst z; rw [r] at mu; exact mu
  by_cases hb : b = x
  · subst hb; rw [upd_same] at q; cases q; exact new
  · rw [upd_ne hb] at q
    by_cases hbe : b = e
    · have q' : H b = some (.own x) := by
        rcases he with z | z
        · exact absurd (hbe.trans z) hb
        · rw [hbe]; exact z
      rw [q] at q'; cases q'
      obtain ⟨v, hv⟩ := heo
      exact ⟨v, by rw [hbe]; exact hv⟩
    · refine (ok b u q).stay (fun c v hc r => k c v ?_ r) (fun c r => by rw [upd_ne (nown c b r)]; exact r) fun c xs r => by rw [upd_ne (ntup c xs r)]; exact r
      rcases hc with rfl | hc
      · exact hbe
      · rintro rfl
        rcases he with z | z
        · exact nown c b hc z
        · rw [hc] at z; cases z; exact hb rfl
end

/-! ### kept unless tracked; of the frames at fs (the callers') the slots may change (an exception that passes writes there); of the records at ex (iterators) nothing is said -/
structure Un (fs ex : List Addr) (H H' : Hp) (h h' : Heap) : Prop where
  keep : ∀ b o, h.get? b = some o → H b = none → b ∉ fs → b ∉ ex → h'.get? b = some o
  slot : ∀ b o, h.get? b = some o → H b = none → b ∈ fs → b ∉ ex → ∃ sl, h'.get? b = some { o with slots := sl }
  free : ∀ b o, h.get? b = some o → H b = none → b ∉ ex → H' b = none
  there : ∀ b o, h.get? b = some o → b ∉ ex → ∃ o', h'.get? b = some o'
  tups : ∀ b xs, H b = some (.tup xs) → H' b = some (.tup xs)
  frzs : ∀ b o u, H b = some (.frz o u) → H' b = some (.frz o u)
  tbls : ∀ b ps, H b = some (.tbl ps) → ∃ more, H' b = some (.tbl (ps ++ more))
section
variable {fs fs' ex ex' : List Addr} {H H1 H2 : Hp} {h h1 h2 h' : Heap} {a x e : Addr} {o : HO}
theorem Un.any (u : Un fs ex H H1 h h1) {b : Addr} {ob : Obj} (q : h.get? b = some ob) (n : H b = none) (hx : b ∉ ex) : ∃ sl, h1.get? b = some { ob with slots := sl } := by
  by_cases hb : b ∈ fs
  · exact u.slot b ob q n hb hx
  · exact ⟨ob.slots, u.keep b ob q n hb hx⟩
theorem Un.kept (k : ∀ b u, h.get? b = some u → h'.get? b = some u) : Un fs ex H H h h' :=
  ⟨fun b ob q _ _ _ => k b ob q, fun b ob q _ _ _ => ⟨ob.slots, k b ob q⟩, fun _ _ _ n _ => n, fun b ob q _ => ⟨ob, k b ob q⟩, fun _ _ q => q, fun _ _ _ q => q, fun _ ps q => ⟨#[], by rw [q]; simp⟩⟩
theorem Un.refl : Un fs ex H H h h := Un.kept fun _ _ q => q
theorem Un.laid (k : ∀ b u, h.get? b = some u → h'.get? b = some u) (hp : h.objs.size ≤ a) (hn : H a = none) : Un fs ex H (upd H a o) h h' where
  keep := fun b u q _ _ _ => k b u q
  slot := fun b u q _ _ _ => ⟨u.slots, k b u q⟩
  free := fun b u q n _ => by rw [upd_ne (Nat.ne_of_lt (Nat.lt_of_lt_of_le (Heap.lt_size q) hp))]; exact n
  there := fun b u q _ => ⟨u, k b u q⟩
  tups := fun b xs q => by rw [upd_ne (ne_of_none q hn)]; exact q
  frzs := fun b u xs q => by rw [upd_ne (ne_of_none q hn)]; exact q
  tbls := fun b ps q => ⟨#[], by rw [upd_ne (ne_of_none q hn), q]; simp⟩
theorem Un.write (mu : Mut (H x)) (he : e = x ∨ H e = some (.own x)) (k : ∀ b u, b ≠ e → h.get? b = some u → h'.get? b = some u) (heo : ∃ u, h'.get? e = some u) : Un fs ex H (upd H x o) h h' := by
  have hx : ∀ b, H b = none → b ≠ x := fun b n z => by subst z; rw [n] at mu; exact mu
  have hb : ∀ b, H b = none → b ≠ e := fun b n z => by
    subst z
    rcases he with r | r
    · exact hx b n r
    · rw [n] at r; cases r
  have hm : ∀ b u, H b = some u → ¬ Mut (some u) → b ≠ x := fun b u q nm z => by subst z; rw [q] at mu; exact nm mu
  refine ⟨fun b u q n _ _ => k b u (hb b n) q, fun b u q n _ _ => ⟨u.slots, k b u (hb b n) q⟩, fun b u q n _ => by rw [upd_ne (hx b n)]; exact n, fun b u q _ => ?_,
    fun b xs q => by rw [upd_ne (hm b _ q fun z => z)]; exact q, fun b u xs q => by rw [upd_ne (hm b _ q fun z => z)]; exact q, fun b ps q => ⟨#[], by rw [upd_ne (hm b _ q fun z => z), q]; simp⟩⟩
  by_cases hbe : b = e
  · subst hbe; exact heo
  · exact ⟨u, k b u hbe q⟩
end

/-! ### the heap without what is tracked -/
def trk (h : Heap) (H : Hp) : List Addr := (List.range h.objs.size).filter fun a => (H a).isSome
def hidT (h : Heap) (H : Hp) : Heap := PySem.W.hideAll h (trk h H)
theorem hidT_size (h : Heap) (H : Hp) : (hidT h H).objs.size = h.objs.size := PySem.W.hideAll_size _ _
theorem hidT_get {h : Heap} {H : Hp} {b : Addr} {o : Obj} (e : h.get? b = some o) (n : H b = none) : (hidT h H).get? b = some o :=
  PySem.W.hideAll_get _ e fun hm => by
    have q : (H b).isSome = true := (List.mem_filter.mp hm).2
    rw [n] at q; simp at q
theorem of_hidT {h : Heap} {H : Hp} {b : Addr} {o : Obj} (e : (hidT h H).get? b = some o) : h.get? b = some o ∧ H b = none := by
  have e' : h.get? b = some o := PySem.W.of_hideAll (trk h H) e
  refine ⟨e', ?_⟩
  cases q : H b with
  | none => rfl
  | some x =>
    have hm : b ∈ trk h H := List.mem_filter.mpr ⟨List.mem_range.mpr (Heap.lt_size e'), by simp [q]⟩
    have z : (hidT h H).get? b = none := PySem.W.hideAll_none (trk h H) hm
    rw [z] at e; cases e

/-! ### OpenK's ledger, filled with every new object but one -/
end L2

namespace L2
open PySem PySem.Spec PyProof.Rows

/-- the module's facts, over the base: the heap at the law's entry without what is tracked there -/
structure Mod (K : PySem.W.Frag) (mg : Str → Option Value) (base : Heap) : Prop where
  kin : K.In base
  glob : base.Ns mainGlobals mg
  blt : ∃ mb, base.Ns builtinsNs mb ∧ ∀ x : Str, x ≠ "__name__" → mb x = bootBuiltins x
  nolimit : base.NoLimit

/-- the context: a def's body (or a comprehension's block) running. base: fixed through the whole law; s₀, H₀: the entry; outer: the frames whose slots others may change (a def's callers); stack: all frames that run;
   ex: iterators that were made ahead of the entry and are walked here (a comprehension's); fn: the names whose cells were made at the entry (a def: all; a comprehension's block: its own); calm: not within an except suite; pn: pins that every state bears; xe: what is wanted of an exception that leaves the code -/
structure Cx where
  prog : Program
  w : World
  K : PySem.W.Frag
  mg : Str → Option Value
  base : Heap
  A : Around
  N : List Str
  s₀ : Shared
  H₀ : Hp
  env : Env
  outer : List Env
  stack : List Env
  ex : List Addr
  fn : Str → Bool
  calm : Bool
  pn : List (Addr × Obj)
  xe : Value → Shared → Prop
/-- the callers' frames -/
def frs (l : List Env) : List Addr := l.filterMap (·.frame)
abbrev Cx.fs (X : Cx) : List Addr := frs X.outer

def Vis (sc : Scope) (x : Str) : Prop := sc.names.lookup x = some .local ∨ sc.names.lookup x = some .cell ∨ sc.names.lookup x = some .free
def Loc (sc : Scope) (x : Str) : Prop := sc.names.lookup x = some .local ∨ sc.names.lookup x = some .cell
def Look (env : Env) (h : Heap) (m : Str → Option Value) (x : Str) (u : Value) : Prop :=
  (env.kindOf x = some .local ∧ m x = some u) ∨ ((env.kindOf x = some .cell ∨ env.kindOf x = some .free) ∧ ∃ c, env.cells.lookup x = some c ∧ h.IsCell c (some u))

structure Cx.Ok (X : Cx) : Prop where
  mod : Mod X.K X.mg X.base
  kind : X.env.scope.kind = .function
  glob : X.env.globals = mainGlobals
  blt : X.env.builtins = builtinsNs
  above : X.s₀.heap.objs.size ≤ X.env.locals
  inj : ∀ x y c, X.env.cells.lookup x = some c → X.env.cells.lookup y = some c → x = y
  has : ∀ x, (X.env.kindOf x = some .cell ∨ X.env.kindOf x = some .free) → ∃ c, X.env.cells.lookup x = some c
  cab : ∀ x c, X.fn x = true → X.env.cells.lookup x = some c → X.s₀.heap.objs.size ≤ c
  hd : X.calm = true → X.A.handled = none
  frames : X.A.frames = some X.stack
  stk : X.stack = X.outer ∨ (X.stack = X.env :: X.outer ∧ X.env.frame = some X.env.locals)
  exf : ∀ b ∈ X.ex, b ≠ X.env.locals ∧ ∀ x c, X.env.cells.lookup x = some c → c ≠ b
  bs : ∀ b o, X.base.get? b = some o → X.s₀.heap.get? b = some o ∧ X.H₀ b = none
  bsz : X.base.objs.size ≤ X.s₀.heap.objs.size
  noex : ∀ b o, X.base.get? b = some o → b ∉ X.ex
  exfs : ∀ b ∈ X.ex, b ∉ X.fs
  funs : X.s₀.heap.FunFrames X.base X.outer
  frf : ∀ b ∈ X.fs, X.H₀ b = none

structure Inv (X : Cx) (pins : List (Addr × Obj)) (σ : List (Option V)) (H : Hp) (s : Shared) : Prop where
  ok : X.Ok
  os : s.os = X.s₀.os
  bare : AllBare s.gens
  base : Un X.fs X.ex X.H₀ H X.s₀.heap s.heap
  loc : ∃ m, s.heap.Ns X.env.locals m ∧ ∀ (i : Nat) (x : Str) (v : V), X.N[i]? = some x → σ[i]? = some (some v) → Vis X.env.scope x → ∃ u, RelV v u ∧ Look X.env s.heap m x u
  cell : ∀ x c, X.env.cells.lookup x = some c → ∃ v, s.heap.IsCell c v
  free : H X.env.locals = none
  freeC : ∀ x c, X.env.cells.lookup x = some c → H c = none
  pin : ∀ p ∈ X.pn ++ pins, s.heap.get? p.1 = some p.2 ∧ H p.1 = none ∧ p.1 ≠ X.env.locals ∧ p.1 ∉ X.fs ∧ ∀ v, p.2.data ≠ .cell v
  hok : HOk X.prog X.w H s.heap
  len : σ.length = X.N.length

section
variable {X : Cx} {pins : List (Addr × Obj)} {σ : List (Option V)} {H H' : Hp} {s : Shared} {h' : Heap}

theorem Cx.Ok.nofr (ok : X.Ok) {b : Addr} {o : Obj} (e : X.base.get? b = some o) : b ∉ X.fs := fun hb => by
  have := (ok.funs.mem hb).1
  rw [e] at this; cases this
theorem Inv.bs (I : Inv X pins σ H s) : ∀ b o, X.base.get? b = some o → s.heap.get? b = some o ∧ H b = none := fun b o e =>
  ⟨I.base.keep b o (I.ok.bs b o e).1 (I.ok.bs b o e).2 (I.ok.nofr e) (I.ok.noex b o e), I.base.free b o (I.ok.bs b o e).1 (I.ok.bs b o e).2 (I.ok.noex b o e)⟩
theorem Inv.bk (I : Inv X pins σ H s) : ∀ b o, X.base.get? b = some o → s.heap.get? b = some o := fun b o e => (I.bs b o e).1
theorem Inv.mod (I : Inv X pins σ H s) : Mod X.K X.mg X.base := I.ok.mod
theorem Inv.kIn (I : Inv X pins σ H s) : X.K.In s.heap := I.ok.mod.kin.keeps I.bk
theorem Inv.lt (I : Inv X pins σ H s) : X.env.locals < s.heap.objs.size := let ⟨_, hn, _⟩ := I.loc; hn.lt
theorem Inv.sz (I : Inv X pins σ H s) : X.s₀.heap.objs.size ≤ s.heap.objs.size := Nat.le_trans I.ok.above (Nat.le_of_lt I.lt)
theorem Inv.nofs (I : Inv X pins σ H s) {a : Addr} (h : s.heap.objs.size ≤ a) : a ∉ X.fs := fun hb => by
  obtain ⟨_, o, ho, _⟩ := I.ok.funs.mem hb
  exact absurd (Nat.lt_of_lt_of_le (Heap.lt_size ho) (Nat.le_trans I.sz h)) (Nat.lt_irrefl _)
theorem Inv.cne (I : Inv X pins σ H s) : ∀ x c, X.env.cells.lookup x = some c → c ≠ X.env.locals := fun x c e z => by
  obtain ⟨v, o, ho, hd⟩ := I.cell x c e
  obtain ⟨m, ⟨o', es, ep, ho', hd', _⟩, _⟩ := I.loc
  rw [z, ho'] at ho; cases ho; rw [hd'] at hd; cases hd
theorem Inv.funs (I : Inv X pins σ H s) : s.heap.FunFrames X.base X.outer := by
  have all : ∀ (l : List Env), (∀ b ∈ frs l, b ∈ X.fs) → X.s₀.heap.FunFrames X.base l → s.heap.FunFrames X.base l := by
    intro l
    induction l with
    | nil => intro _ _; trivial
    | cons env r ih =>
      intro hs hl
      obtain ⟨hk, ⟨L, o, hf, hn, ho, hd⟩, hr⟩ := hl
      have hL : L ∈ X.fs := hs L (by unfold frs; rw [List.filterMap_cons, hf]; exact List.mem_cons_self)
      obtain ⟨sl, e⟩ := I.base.slot L o ho (I.ok.frf L hL) hL fun z => I.ok.exfs L z hL
      exact ⟨hk, ⟨L, _, hf, hn, e, hd⟩, ih (fun b hb => hs b (by unfold frs; rw [List.filterMap_cons, hf]; exact List.mem_cons_of_mem _ hb)) hr⟩
  exact all X.outer (fun _ hb => hb) I.ok.funs

/-- the frames that run, for a call -/
theorem Inv.stack (I : Inv X pins σ H s) : s.heap.FunFrames X.base X.stack := by
  rcases I.ok.stk with e | ⟨e, hf⟩
  · rw [e]; exact I.funs
  · rw [e]
    obtain ⟨m, hn, _⟩ := I.loc
    refine .cons (by rw [I.ok.kind]; decide) hf hn ?_ I.funs
    exact Heap.get?_none_of_le (Nat.le_trans I.ok.bsz I.ok.above)
theorem Inv.stkSub (I : Inv X pins σ H s) : ∀ b ∈ frs X.stack, b ∈ X.env.locals :: X.fs := fun b hb => by
  rcases I.ok.stk with e | ⟨e, hf⟩
  · rw [e] at hb; exact List.mem_cons_of_mem _ hb
  · rw [e] at hb
    unfold frs at hb
    rw [List.filterMap_cons, hf] at hb
    exact hb
theorem Inv.stkFree (I : Inv X pins σ H s) : ∀ b ∈ frs X.stack, H b = none := fun b hb => by
  rcases List.mem_cons.mp (I.stkSub b hb) with e | hb
  · rw [e]; exact I.free
  · obtain ⟨_, o, ho, _⟩ := I.ok.funs.mem hb
    exact I.base.free b o ho (I.ok.frf b hb) fun z => I.ok.exfs b z hb

/-- THE STEP: the untracked objects but the frame and the records at ch are kept (the callers' frames up to slots), the frame's map is kept, the new abstract heap is held -/
theorem Inv.step {g' : Array GenState} {t' : Nat} {d' : Drawn} {ch : List Addr} (I : Inv X pins σ H s)
    (hch : ∀ b ∈ ch, (b ∈ X.ex ∨ X.s₀.heap.objs.size ≤ b) ∧ b ≠ X.env.locals ∧ (∀ x c, X.env.cells.lookup x = some c → c ≠ b) ∧ ∀ p ∈ X.pn ++ pins, p.1 ≠ b)
    (keep : ∀ b o, b ≠ X.env.locals → b ∉ X.fs → b ∉ ch → s.heap.get? b = some o → H b = none → h'.get? b = some o)
    (slot : ∀ b o, b ≠ X.env.locals → b ∈ X.fs → b ∉ ch → s.heap.get? b = some o → H b = none → ∃ sl, h'.get? b = some { o with slots := sl }) (free : ∀ b o, b ∉ ch → s.heap.get? b = some o → H b = none → H' b = none)
    (there : ∀ b o, b ∉ ch → s.heap.get? b = some o → ∃ o', h'.get? b = some o')
    (tups : ∀ b xs, H b = some (.tup xs) → H' b = some (.tup xs)) (frzs : ∀ b o u, H b = some (.frz o u) → H' b = some (.frz o u)) (tbls : ∀ b ps, H b = some (.tbl ps) → ∃ more, H' b = some (.tbl (ps ++ more)))
    (ns : ∀ m, s.heap.Ns X.env.locals m → h'.Ns X.env.locals m) (hok : HOk X.prog X.w H' h') (hg : AllBare g') :
    Inv X pins σ H' { s with heap := h', gens := g', drawn := d', toks := t' } := by
  have neL : ∀ b o, X.s₀.heap.get? b = some o → b ≠ X.env.locals := fun b o e => Nat.ne_of_lt (Nat.lt_of_lt_of_le (Heap.lt_size e) I.ok.above)
  have neC : ∀ b o, X.s₀.heap.get? b = some o → b ∉ X.ex → b ∉ ch := fun b o e hx hb => by
    rcases (hch b hb).1 with z | z
    · exact hx z
    · exact absurd (Nat.lt_of_lt_of_le (Heap.lt_size e) z) (Nat.lt_irrefl _)
  have cellK : ∀ x c, X.env.cells.lookup x = some c → ∀ v, s.heap.IsCell c v → h'.IsCell c v := fun x c e v ⟨o, ho, hd⟩ => by
    have nch : c ∉ ch := fun z => (hch c z).2.2.1 x c e rfl
    by_cases hc : c ∈ X.fs
    · obtain ⟨sl, q⟩ := slot c o (I.cne x c e) hc nch ho (I.freeC x c e)
      exact ⟨_, q, hd⟩
    · exact ⟨o, keep c o (I.cne x c e) hc nch ho (I.freeC x c e), hd⟩
  refine ⟨I.ok, I.os, hg, ⟨fun b o e n hb hx => ?_, fun b o e n hb hx => ?_, fun b o e n hx => ?_, fun b o e hx => ?_, fun b xs e => tups b xs (I.base.tups b xs e), fun b o xs e => frzs b o xs (I.base.frzs b o xs e), fun b ps e => ?_⟩, ?_, fun x c e => ?_, ?_, fun x c e => ?_, fun p hp => ?_, hok, I.len⟩
  · exact keep b o (neL b o e) hb (neC b o e hx) (I.base.keep b o e n hb hx) (I.base.free b o e n hx)
  · obtain ⟨sl, e1⟩ := I.base.slot b o e n hb hx
    obtain ⟨sl', e2⟩ := slot b _ (neL b o e) hb (neC b o e hx) e1 (I.base.free b o e n hx)
    exact ⟨sl', e2⟩
  · obtain ⟨o', e1⟩ := I.base.there b o e hx
    exact free b o' (neC b o e hx) e1 (I.base.free b o e n hx)
  · obtain ⟨o', e1⟩ := I.base.there b o e hx
    exact there b o' (neC b o e hx) e1
  · obtain ⟨m1, e1⟩ := I.base.tbls b ps e
    obtain ⟨m2, e2⟩ := tbls b _ e1
    exact ⟨m1 ++ m2, by rw [e2, Array.append_assoc]⟩
  · obtain ⟨m, hn, hl⟩ := I.loc
    refine ⟨m, ns m hn, fun i x v e1 e2 e3 => ?_⟩
    obtain ⟨u, r, l⟩ := hl i x v e1 e2 e3
    refine ⟨u, r, ?_⟩
    rcases l with l | ⟨k, c, e, z⟩
    · exact .inl l
    · exact .inr ⟨k, c, e, cellK x c e _ z⟩
  · obtain ⟨v, z⟩ := I.cell x c e
    exact ⟨v, cellK x c e v z⟩
  · obtain ⟨m, ⟨o, _, _, ho, _⟩, _⟩ := I.loc
    exact free _ o (fun z => (hch _ z).2.1 rfl) ho I.free
  · obtain ⟨v, o, ho, hd⟩ := I.cell x c e
    exact free c o (fun z => (hch c z).2.2.1 x c e rfl) ho (I.freeC x c e)
  · obtain ⟨e, n, ne, nf, d⟩ := I.pin p hp
    have nch : p.1 ∉ ch := fun z => (hch p.1 z).2.2.2 p hp rfl
    exact ⟨keep p.1 p.2 ne nf nch e n, free p.1 p.2 nch e n, ne, nf, d⟩
/-- .. where the frame's own object is kept too -/
theorem Inv.un {t' : Nat} (I : Inv X pins σ H s) (u : Un X.fs [] H H' s.heap h') (hok : HOk X.prog X.w H' h') : Inv X pins σ H' { s with heap := h', toks := t' } := by
  obtain ⟨m, ⟨o, es, ep, ho, r⟩, _⟩ := id I.loc
  obtain ⟨sl, hL⟩ := u.any ho I.free (by simp)
  exact I.step (g' := s.gens) (d' := s.drawn) (ch := []) (fun _ z => nomatch z) (fun b o _ hb _ e n => u.keep b o e n hb (by simp)) (fun b o _ hb _ e n => u.slot b o e n hb (by simp)) (fun b o _ e n => u.free b o e n (by simp)) (fun b o _ e => u.there b o e (by simp)) u.tups u.frzs u.tbls (fun m' hm => by
    obtain ⟨o', es', ep', ho', r'⟩ := hm
    rw [ho] at ho'; cases ho'
    exact ⟨_, es', ep', hL, r'⟩) hok I.bare
/-- behind a call (or a comprehension's block): the slots of this frame may have changed too, the records at ch may have turned -/
theorem Inv.call {g' : Array GenState} {t' : Nat} {d' : Drawn} {ch : List Addr} (I : Inv X pins σ H s) (u : Un (frs X.stack) ch H H' s.heap h') (hok : HOk X.prog X.w H' h') (hg : AllBare g')
    (hch : ∀ b ∈ ch, (b ∈ X.ex ∨ X.s₀.heap.objs.size ≤ b) ∧ b ≠ X.env.locals ∧ (∀ x c, X.env.cells.lookup x = some c → c ≠ b) ∧ ∀ p ∈ X.pn ++ pins, p.1 ≠ b) :
    Inv X pins σ H' { s with heap := h', gens := g', drawn := d', toks := t' } := by
  obtain ⟨m, ⟨o, es, ep, ho, r⟩, _⟩ := id I.loc
  obtain ⟨sl, hL⟩ := u.any ho I.free fun z => (hch _ z).2.1 rfl
  exact I.step (ch := ch) hch (fun b o hL hb hc e n => u.keep b o e n (fun z => (List.mem_cons.mp (I.stkSub b z)).elim hL hb) hc) (fun b o _ _ hc e n => u.any e n hc) (fun b o hc e n => u.free b o e n hc) (fun b o hc e => u.there b o e hc) u.tups u.frzs u.tbls (fun m' hm => by
    obtain ⟨o', es', ep', ho', r'⟩ := hm
    rw [ho] at ho'; cases ho'
    exact ⟨_, es', ep', hL, r'⟩) hok hg
/-- an untracked record of ours (an iterator) has turned -/
theorem Inv.turned {t' : Nat} {it : Addr} (I : Inv X pins σ H s) (k : ∀ b o, b ≠ it → s.heap.get? b = some o → h'.get? b = some o) (hn : H it = none) (hL : it ≠ X.env.locals)
    (h1 : it ∈ X.ex ∨ X.s₀.heap.objs.size ≤ it) (h2 : ∀ x c, X.env.cells.lookup x = some c → c ≠ it) (h3 : ∀ p ∈ X.pn ++ pins, p.1 ≠ it) : Inv X pins σ H { s with heap := h', toks := t' } := by
  have nit : ∀ b u, H b = some u → b ≠ it := fun b u e z => by rw [z, hn] at e; cases e
  refine I.step (g' := s.gens) (d' := s.drawn) (ch := [it]) (fun b hb => ?_) (fun b o _ _ hc e _ => k b o (fun z => hc (by simp [z])) e) (fun b o _ _ hc e _ => ⟨o.slots, k b o (fun z => hc (by simp [z])) e⟩) (fun _ _ _ _ n => n)
    (fun b o hc e => ⟨o, k b o (fun z => hc (by simp [z])) e⟩) (fun _ _ e => e) (fun _ _ _ e => e) (fun b ps e => ⟨#[], by rw [e]; simp⟩) (fun m hm => ?_) (fun b u e => ?_) I.bare
  · have e : b = it := by simpa using hb
    subst e
    exact ⟨h1, hL, h2, h3⟩
  · obtain ⟨o, es, ep, ho, r⟩ := hm
    exact ⟨o, es, ep, k _ o (Ne.symm hL) ho, r⟩
  · refine (I.hok b u e).stay (fun c v hc q => k c v ?_ q) (fun _ q => q) fun _ _ q => q
    rcases hc with z | z
    · rw [z]; exact nit b u e
    · exact nit c _ z
theorem Inv.tok (I : Inv X pins σ H s) (t : Nat) : Inv X pins σ H { s with toks := t } := I.un (h' := s.heap) (t' := t) Un.refl I.hok
/-- all objects kept -/
theorem Inv.kept {t' : Nat} (I : Inv X pins σ H s) (k : ∀ b u, s.heap.get? b = some u → h'.get? b = some u) : Inv X pins σ H { s with heap := h', toks := t' } := I.un (Un.kept k) (I.hok.kept k)
/-- a new object laid and tracked -/
theorem Inv.laid {a : Addr} {o : HO} {t' : Nat} (I : Inv X pins σ H s) (k : ∀ b u, s.heap.get? b = some u → h'.get? b = some u) (hp : s.heap.objs.size ≤ a) (new : ObjOk X.prog X.w (upd H a o) h' a o) :
    Inv X pins σ (upd H a o) { s with heap := h', toks := t' } := I.un (Un.laid k hp (I.hok.fresh hp)) (I.hok.laid k hp new)
/-- an object written -/
theorem Inv.write {x e : Addr} {o : HO} {t' : Nat} (I : Inv X pins σ H s) (mu : Mut (H x)) (he : e = x ∨ H e = some (.own x)) (k : ∀ b u, b ≠ e → s.heap.get? b = some u → h'.get? b = some u) (heo : ∃ u, h'.get? e = some u)
    (new : ObjOk X.prog X.w (upd H x o) h' x o) : Inv X pins σ (upd H x o) { s with heap := h', toks := t' } := I.un (Un.write mu he k heo) (I.hok.write mu he k heo new)
theorem Inv.pins_of {pins' : List (Addr × Obj)} (I : Inv X pins σ H s) (h : ∀ p ∈ pins', s.heap.get? p.1 = some p.2 ∧ H p.1 = none ∧ p.1 ≠ X.env.locals ∧ p.1 ∉ X.fs ∧ ∀ v, p.2.data ≠ .cell v) : Inv X pins' σ H s :=
  ⟨I.ok, I.os, I.bare, I.base, I.loc, I.cell, I.free, I.freeC, fun p hp => (List.mem_append.mp hp).elim (fun z => I.pin p (List.mem_append_left _ z)) (h p), I.hok, I.len⟩

theorem nodup_ix {N : List Str} (hN : N.Nodup) {i j : Nat} {x : Str} (a : N[i]? = some x) (b : N[j]? = some x) : i = j := by
  obtain ⟨h1, e1⟩ := List.getElem?_eq_some_iff.mp a
  obtain ⟨h2, e2⟩ := List.getElem?_eq_some_iff.mp b
  exact (List.getElem_inj hN).mp (e1.trans e2.symm)

/-- a name is stored; what changed -/
theorem store_ok2 {M : Model} {A : Around} {E : Value → Shared → Prop} {i : Nat} {x : Str} {v : V} {u : Value} {Q : Unit → Shared → Prop} (I : Inv X pins σ H s) (hN : X.N.Nodup) (hi : X.N[i]? = some x) (hx : Loc X.env.scope x) (r : RelV v u)
    (h : ∀ s', Inv X pins (σ.set i (some v)) H s' → (∃ a, Heap.SameBut a s.heap s'.heap ∧ (a = X.env.locals ∨ X.env.cells.lookup x = some a)) → Q () s') (hf : X.fn x = true ∨ X.env.scope.names.lookup x = some .local := by first | exact .inl rfl | exact .inr rfl | assumption) : wpAny M A (storeName X.env x u) Q E s := by
  obtain ⟨m, hn, hl⟩ := id I.loc
  have hcls : (X.env.scope.kind == .class || (X.env.scope.kind == .module && X.env.locals != X.env.globals)) = false := by rw [I.ok.kind]; rfl
  have hiσ : i < σ.length := by rw [I.len]; exact (List.getElem?_eq_some_iff.mp hi).1
  have cne := I.cne
  have tracked : ∀ {a : Addr} {h' : Heap}, (∃ o, s.heap.get? a = some o ∧ H a = none) → Heap.SameBut a s.heap h' → HOk X.prog X.w H h' := fun {a h'} ha hs b ob e => by
    obtain ⟨_, _, hfree⟩ := ha
    refine (I.hok b ob e).stay (fun c w' hc q => (hs.2 c ?_).trans q) (fun _ q => q) fun _ _ q => q
    rintro rfl
    rcases hc with rfl | hc
    · rw [hfree] at e; cases e
    · rw [hfree] at hc; cases hc
  rcases hx with hk | hk
  · refine wpAny_storeName_local hk hn (fun h' hn' hs => ?_) hcls
    obtain ⟨oL, _, _, hoL, _⟩ := id hn
    refine h _ ⟨I.ok, I.os, I.bare, ⟨fun b o e n hb hx => ?_, fun b o e n hb hx => ?_, I.base.free, fun b o e hx => ?_, I.base.tups, I.base.frzs, I.base.tbls⟩, ⟨_, hn', fun j y v' e1 e2 e3 => ?_⟩, fun y c e => ?_, I.free, I.freeC, fun p hp => ?_, tracked ⟨oL, hoL, I.free⟩ hs, by simpa using I.len⟩ ⟨_, hs, .inl rfl⟩
    · exact (hs.2 b (Nat.ne_of_lt (Nat.lt_of_lt_of_le (Heap.lt_size e) I.ok.above))).trans (I.base.keep b o e n hb hx)
    · obtain ⟨sl, e1⟩ := I.base.slot b o e n hb hx
      exact ⟨sl, (hs.2 b (Nat.ne_of_lt (Nat.lt_of_lt_of_le (Heap.lt_size e) I.ok.above))).trans e1⟩
    · obtain ⟨o', e1⟩ := I.base.there b o e hx
      exact ⟨o', (hs.2 b (Nat.ne_of_lt (Nat.lt_of_lt_of_le (Heap.lt_size e) I.ok.above))).trans e1⟩
    · by_cases hj : j = i
      · subst hj
        rw [hi] at e1; cases e1
        rw [List.getElem?_set_self hiσ] at e2
        cases e2
        exact ⟨u, r, .inl ⟨hk, by simp⟩⟩
      · rw [List.getElem?_set_ne (Ne.symm hj)] at e2
        obtain ⟨u', r', q⟩ := hl j y v' e1 e2 e3
        refine ⟨u', r', ?_⟩
        rcases q with ⟨k, e⟩ | ⟨k, c, e, z⟩
        · refine .inl ⟨k, ?_⟩
          have : y ≠ x := fun e => hj (nodup_ix hN e1 (e ▸ hi))
          simp [this, e]
        · exact .inr ⟨k, c, e, z.sameBut hs (cne y c e)⟩
    · obtain ⟨w', z⟩ := I.cell y c e
      exact ⟨w', z.sameBut hs (cne y c e)⟩
    · obtain ⟨e, n, ne, nf, d⟩ := I.pin p hp
      exact ⟨(hs.2 p.1 ne).trans e, n, ne, nf, d⟩
  · have hfn : X.fn x = true := by
      rcases hf with z | z
      · exact z
      · rw [z] at hk; cases hk
    obtain ⟨c, hc⟩ := I.ok.has x (.inl hk)
    obtain ⟨w', z⟩ := I.cell x c hc
    refine wpAny_storeName_cell I.ok.kind hk hc z (fun h' hc' hs => ?_)
    obtain ⟨oc, hoc, hocd⟩ := id z
    refine h { s with heap := h' } ⟨I.ok, I.os, I.bare, ⟨fun b o e n hb hx => ?_, fun b o e n hb hx => ?_, I.base.free, fun b o e hx => ?_, I.base.tups, I.base.frzs, I.base.tbls⟩, ⟨m, hn.sameBut hs (Ne.symm (cne x c hc)), fun j y v' e1 e2 e3 => ?_⟩, fun y c' e => ?_, I.free, I.freeC, fun p hp => ?_, tracked ⟨oc, hoc, I.freeC x c hc⟩ hs, by simpa using I.len⟩ ⟨c, hs, .inr hc⟩
    · exact (hs.2 b (Nat.ne_of_lt (Nat.lt_of_lt_of_le (Heap.lt_size e) (I.ok.cab x c hfn hc)))).trans (I.base.keep b o e n hb hx)
    · obtain ⟨sl, e1⟩ := I.base.slot b o e n hb hx
      exact ⟨sl, (hs.2 b (Nat.ne_of_lt (Nat.lt_of_lt_of_le (Heap.lt_size e) (I.ok.cab x c hfn hc)))).trans e1⟩
    · obtain ⟨o', e1⟩ := I.base.there b o e hx
      exact ⟨o', (hs.2 b (Nat.ne_of_lt (Nat.lt_of_lt_of_le (Heap.lt_size e) (I.ok.cab x c hfn hc)))).trans e1⟩
    · by_cases hj : j = i
      · subst hj
        rw [hi] at e1; cases e1
        rw [List.getElem?_set_self hiσ] at e2
        cases e2
        exact ⟨u, r, .inr ⟨.inl hk, c, hc, hc'⟩⟩
      · rw [List.getElem?_set_ne (Ne.symm hj)] at e2
        obtain ⟨u', r', q⟩ := hl j y v' e1 e2 e3
        refine ⟨u', r', ?_⟩
        rcases q with q | ⟨k, c', e, z'⟩
        · exact .inl q
        · refine .inr ⟨k, c', e, z'.sameBut hs ?_⟩
          rintro rfl
          exact hj (nodup_ix hN e1 (I.ok.inj _ _ _ e hc ▸ hi))
    · by_cases hcc : c' = c
      · subst hcc; exact ⟨_, hc'⟩
      · obtain ⟨w2, z2⟩ := I.cell y c' e
        exact ⟨w2, z2.sameBut hs hcc⟩
    · obtain ⟨e, n, ne, nf, d⟩ := I.pin p hp
      refine ⟨(hs.2 p.1 ?_).trans e, n, ne, nf, d⟩
      intro q
      rw [q, hoc] at e
      have q' : oc = p.2 := Option.some.inj e
      exact d w' (by rw [← q']; exact hocd)
theorem store_ok {M : Model} {A : Around} {E : Value → Shared → Prop} {i : Nat} {x : Str} {v : V} {u : Value} {Q : Unit → Shared → Prop} (I : Inv X pins σ H s) (hN : X.N.Nodup) (hi : X.N[i]? = some x) (hx : Loc X.env.scope x) (r : RelV v u)
    (h : ∀ s', Inv X pins (σ.set i (some v)) H s' → Q () s') (hf : X.fn x = true ∨ X.env.scope.names.lookup x = some .local := by first | exact .inl rfl | exact .inr rfl | assumption) : wpAny M A (storeName X.env x u) Q E s :=
  store_ok2 I hN hi hx r (fun s' I' _ => h s' I') hf
/-- behind a call or a block, the state as it is -/
theorem Inv.call' {s' : Shared} {ch : List Addr} (I : Inv X pins σ H s) (ho : s'.os = s.os) (u : Un (frs X.stack) ch H H' s.heap s'.heap) (hok : HOk X.prog X.w H' s'.heap) (hg : AllBare s'.gens)
    (hch : ∀ b ∈ ch, (b ∈ X.ex ∨ X.s₀.heap.objs.size ≤ b) ∧ b ≠ X.env.locals ∧ (∀ x c, X.env.cells.lookup x = some c → c ≠ b) ∧ ∀ p ∈ X.pn ++ pins, p.1 ≠ b) : Inv X pins σ H' s' := by
  obtain ⟨h', g', d', t', o'⟩ := s'
  have e : o' = s.os := ho
  subst e
  exact I.call (g' := g') (t' := t') (d' := d') u hok hg hch
end

/-! ### the judgements -/
/-- an exception: its class, its own dict's address (where it has one), the abstract heap behind it -/
abbrev XK := Value → Option Addr → Hp → Prop
abbrev St := List (Option V)
abbrev VK := V → Hp → Prop
/-- an expression's reading; a test's; an argument list's -/
abbrev TE := St → Hp → VK → Prop
abbrev TT := St → Hp → (Bool → Hp → Prop) → Prop
abbrev TA := St → Hp → (List V → Hp → Prop) → Prop
/-- what is wanted behind a statement -/
structure Ends where
  nx : St → Hp → Prop
  rt : VK
  bk : St → Hp → Prop := fun _ _ => False
  ct : St → Hp → Prop := fun _ _ => False
abbrev TS := Ends → St → Hp → Prop

def EP (X : Cx) (pins : List (Addr × Obj)) (σ : St) (Q : VK) (u : Value) (s' : Shared) : Prop := ∃ v H', Inv X pins σ H' s' ∧ RelV v u ∧ Q v H'
def TP (X : Cx) (pins : List (Addr × Obj)) (σ : St) (Q : Bool → Hp → Prop) (b : Bool) (s' : Shared) : Prop := ∃ H', Inv X pins σ H' s' ∧ Q b H'
def AP (X : Cx) (pins : List (Addr × Obj)) (σ : St) (Q : List V → Hp → Prop) (us : List Value) (s' : Shared) : Prop := ∃ vs H', Inv X pins σ H' s' ∧ Vals vs us ∧ Q vs H'
def SP (X : Cx) (pins : List (Addr × Obj)) (D : Ends) (f : Flow) (s' : Shared) : Prop :=
  match f with
  | .next => ∃ σ' H', Inv X pins σ' H' s' ∧ D.nx σ' H'
  | .brk => ∃ σ' H', Inv X pins σ' H' s' ∧ D.bk σ' H'
  | .cont => ∃ σ' H', Inv X pins σ' H' s' ∧ D.ct σ' H'
  | .ret u => ∃ v σ' H', Inv X pins σ' H' s' ∧ RelV v u ∧ D.rt v H'

def PE (X : Cx) (e : Expr) (t : TE) : Prop :=
  ∀ (pins : List (Addr × Obj)) (s : Shared) (σ : St) (H : Hp) (Q : VK), Inv X pins σ H s → t σ H Q → wpAny (model X.prog X.w) X.A (eval e X.env) (EP X pins σ Q) X.xe s
def PT (X : Cx) (e : Expr) (t : TT) : Prop :=
  ∀ (pins : List (Addr × Obj)) (s : Shared) (σ : St) (H : Hp) (Q : Bool → Hp → Prop), Inv X pins σ H s → t σ H Q → wpAny (model X.prog X.w) X.A (isTrue e X.env (eval e X.env)) (TP X pins σ Q) X.xe s
/-- a test whatever its 'whole' is (and, or) -/
def PW (X : Cx) (e : Expr) (t : TT) : Prop :=
  ∀ (whole : Sem Value) (pins : List (Addr × Obj)) (s : Shared) (σ : St) (H : Hp) (Q : Bool → Hp → Prop), Inv X pins σ H s → t σ H Q → wpAny (model X.prog X.w) X.A (isTrue e X.env whole) (TP X pins σ Q) X.xe s
theorem PW.pt {X : Cx} {e : Expr} {t : TT} (h : PW X e t) : PT X e t := h _
/-- an argument list (no star), from the left -/
def PA (X : Cx) (es : List Expr) (t : TA) : Prop :=
  ∀ (pos : Pos) (pins : List (Addr × Obj)) (s : Shared) (σ : St) (H : Hp) (Q : List V → Hp → Prop), Inv X pins σ H s → t σ H Q → wpAny (model X.prog X.w) X.A (spliced (backTo pos (starEach es X.env))) (AP X pins σ Q) X.xe s
def PS (X : Cx) (st : Stmt) (t : TS) : Prop :=
  ∀ (pins : List (Addr × Obj)) (s : Shared) (σ : St) (H : Hp) (D : Ends), Inv X pins σ H s → t D σ H → wpAny (model X.prog X.w) X.A (exec st X.env) (SP X pins D) X.xe s
def PSs (X : Cx) (st : List Stmt) (t : TS) : Prop :=
  ∀ (pins : List (Addr × Obj)) (s : Shared) (σ : St) (H : Hp) (D : Ends), Inv X pins σ H s → t D σ H → wpAny (model X.prog X.w) X.A (execs st X.env) (SP X pins D) X.xe s
/-- weaken the end -/
theorem thn {α : Type} {t : Sem α} {Q Q' : α → Shared → Prop} {M : Model} {A : Around} {E : Value → Shared → Prop} {s : Shared} (h : wpAny M A t Q E s) (hQ : ∀ a s, Q a s → Q' a s) : wpAny M A t Q' E s := wpAny_mono h hQ fun _ _ x => x
end L2

namespace L2
open PySem PySem.Spec PyProof.Rows
section
variable {X : Cx}

/-- two expressions in a row -/
theorem bin {a b : Expr} {ta tb : TE} (ha : PE X a ta) (hb : PE X b tb) {pins : List (Addr × Obj)} {s : Shared} {σ : St} {H : Hp} {R : V → V → Hp → Prop} (I : Inv X pins σ H s) (h : ta σ H fun x H1 => tb σ H1 fun y H2 => R x y H2)
    {α : Type} {Q : α → Shared → Prop} {f : Value → Value → Sem α}
    (hf : ∀ v u s2 x y H2, Inv X pins σ H2 s2 → RelV x v → RelV y u → R x y H2 → wpAny (model X.prog X.w) X.A (f v u) Q X.xe s2) :
    wpAny (model X.prog X.w) X.A (eval a X.env) (fun v s₁ => wpAny (model X.prog X.w) X.A (eval b X.env) (fun u s₂ => wpAny (model X.prog X.w) X.A (f v u) Q X.xe s₂) X.xe s₁) X.xe s := by
  refine thn (ha pins s σ H _ I h) fun v s1 ⟨x, H1, I1, r1, q1⟩ => ?_
  refine thn (hb pins s1 σ H1 _ I1 q1) fun u s2 ⟨y, H2, I2, r2, q2⟩ => ?_
  exact hf v u s2 x y H2 I2 r1 r2 q2

/-! ### names and constants -/
def tVar (i : Nat) : TE := fun σ H Q => ∃ v, σ[i]? = some (some v) ∧ Q v H
def tC (v : V) : TE := fun _ H Q => Q v H
theorem pe_var {i : Nat} {x : Str} {pos : Pos} (hN : X.N[i]? = some x) (hv : Vis X.env.scope x) (hd : (x == ("__debug__" : Str)) = false := by decide) (hcd : (x == ("__classdict__" : Str)) = false := by decide) : PE X (.Name x pos) (tVar i) := by
  intro pins s σ H Q I h
  obtain ⟨v, e, h⟩ := h
  obtain ⟨m, hn, hl⟩ := I.loc
  obtain ⟨u, r, l⟩ := hl i x v hN e hv
  have fin : EP X pins σ Q u s := ⟨v, H, I, r, h⟩
  rcases l with ⟨hk, hm⟩ | ⟨hk, c, hc, hcell⟩
  · exact wpAny_Name (wpAny_loadName_local I.ok.kind hk hn hm fin) hd
  · rcases hk with hk | hk
    · exact wpAny_Name (wpAny_loadName_cell I.ok.kind hk hc hcell fin) hd
    · exact wpAny_Name (wpAny_loadName_free I.ok.kind hk hc hcell fin hcd) hd
theorem pe_int {i j pos} : PE X (.Constant (.int i) j pos) (tC (.int i)) := fun _ _ _ H _ I h => wpAny_Constant_int ⟨.int i, H, I.tok _, ⟨_, rfl⟩, h⟩
theorem pe_bl {b j pos} : PE X (.Constant (.bool b) j pos) (tC (.bl b)) := fun _ _ _ H _ I h => Constant_bool ⟨.bl b, H, I, rfl, h⟩
theorem pe_non {j pos} : PE X (.Constant .none j pos) (tC .non) := fun _ _ _ H _ I h => Constant_none ⟨.non, H, I, rfl, h⟩
theorem pe_str {x j pos} : PE X (.Constant (.str x) j pos) (tC (.str x)) := fun _ _ _ H _ I h => Calls.Constant_str ⟨.str x, H, I.tok _, ⟨_, rfl⟩, h⟩

/-- a global name of the def -/
def Gl (X : Cx) (x : Str) : Prop := X.env.kindOf x = some .globalImplicit
theorem ld_glob {E : Value → Shared → Prop} {pins : List (Addr × Obj)} {s : Shared} {σ : St} {H : Hp} {x : Str} {u : Value} {pos : Pos} {Q : Value → Shared → Prop} (I : Inv X pins σ H s) (hg : Gl X x) (hm : X.mg x = some u) (h : Q u s)
    (hd : (x == ("__debug__" : Str)) = false := by decide) : wpAny (model X.prog X.w) X.A (eval (.Name x pos) X.env) Q E s :=
  Calls.Name_function_global I.ok.kind hg (Calls.loadGlobal_global (by rw [I.ok.glob]; exact I.mod.glob.keeps I.bk) hm h) hd
theorem ld_blt {E : Value → Shared → Prop} {pins : List (Addr × Obj)} {s : Shared} {σ : St} {H : Hp} {x : Str} {u : Value} {pos : Pos} {Q : Value → Shared → Prop} (I : Inv X pins σ H s) (hg : Gl X x) (hm : X.mg x = none) (hv : bootBuiltins x = some u) (h : Q u s)
    (hn : x ≠ "__name__" := by decide) (hd : (x == ("__debug__" : Str)) = false := by decide) : wpAny (model X.prog X.w) X.A (eval (.Name x pos) X.env) Q E s := by
  obtain ⟨mb, h1, h2⟩ := I.mod.blt
  exact Calls.Name_function_global I.ok.kind hg (Calls.loadGlobal_builtin (by rw [I.ok.glob]; exact I.mod.glob.keeps I.bk) hm (by rw [I.ok.blt]; exact h1.keeps I.bk) ((h2 x hn).trans hv) h) hd
/-- a module's constant, a class, a function, as a value -/
theorem pe_glob {x : Str} {v : V} {u : Value} {pos : Pos} (hg : Gl X x) (hm : X.mg x = some u) (r : RelV v u) (hd : (x == ("__debug__" : Str)) = false := by decide) : PE X (.Name x pos) (tC v) :=
  fun _ _ _ H _ I h => ld_glob I hg hm ⟨v, H, I, r, h⟩ hd
theorem pe_bltn {x : Str} {v : V} {u : Value} {pos : Pos} (hg : Gl X x) (hm : X.mg x = none) (hv : bootBuiltins x = some u) (r : RelV v u) (hn : x ≠ "__name__" := by decide) (hd : (x == ("__debug__" : Str)) = false := by decide) : PE X (.Name x pos) (tC v) :=
  fun _ _ _ H _ I h => ld_blt I hg hm hv ⟨v, H, I, r, h⟩ hn hd

/-! ### arithmetic -/
variable {a b : Expr} {ta tb : TE} {pos : Pos}

/-! ### comparisons -/
def PC (X : Cx) (op : CmpOp) (a b : Expr) (t : TE) : Prop :=
  ∀ (pins : List (Addr × Obj)) (s : Shared) (σ : St) (H : Hp) (Q : VK), Inv X pins σ H s → t σ H Q →
    wpAny (model X.prog X.w) X.A (eval a X.env) (fun v s₁ => wpAny (model X.prog X.w) X.A (eval b X.env) (fun u s₂ => wpAny (model X.prog X.w) X.A (compareOp op v u) (EP X pins σ Q) X.xe s₂) X.xe s₁) X.xe s
/-- a comparison as a value, as a test -/
def tB (t : TE) : TT := fun σ H Q => t σ H fun x H1 => ∃ c, x = .bl c ∧ Q c H1
theorem pt_cmp {op : CmpOp} {t : TE} (h : PC X op a b t) (h1 : behindInMarks op b = false := by first | exact nobehind _ (by decide) (by decide) | rfl) : PT X (.Compare a [op] [b] pos) (tB t) := by
  intro pins s σ H Q I hw
  refine wpAny_isTrue_Compare1 (thn (h pins s σ H _ I hw) fun v s1 h1 => thn h1 fun u s2 h2 => thn h2 fun c s3 ⟨x, H1, I1, r1, q1⟩ => ?_) h1
  obtain ⟨d, rfl, q⟩ := q1
  cases r1
  exact wpAny_truthy_bool ⟨H1, I1, q⟩
/-- an expression whose value is a bool, as a test -/
theorem pt_val {e : Expr} {t : TE} (h : PE X e t) (he : ∀ whole, isTrue e X.env whole = (do let v ← whole; standAt e.pos; holding [v] (truthy v)) := by intro _; rfl) : PT X e (tB t) := by
  intro pins s σ H Q I hw
  refine isTrue_plain (thn (h pins s σ H _ I hw) fun v s1 ⟨x, H1, I1, r1, q1⟩ => ?_) (he _)
  obtain ⟨d, rfl, q⟩ := q1
  cases r1
  exact wpAny_truthy_bool ⟨H1, I1, q⟩

/-! ### and, or, not -/
variable {tA tB' : TT} {rest : List Expr}
def tAnd (t u : TT) : TT := fun σ H Q => t σ H fun c H1 => if c = true then u σ H1 Q else Q false H1
def tOr (t u : TT) : TT := fun σ H Q => t σ H fun c H1 => if c = true then Q true H1 else u σ H1 Q
def tNot (t : TT) : TT := fun σ H Q => t σ H fun c H1 => Q (!c) H1
theorem pw_and1 (ha : PT X a tA) : PW X (.BoolOp .And [a] pos) tA := by
  intro wh pins s σ H Q I h
  refine isTrue_and (thn (ha pins s σ H Q I h) fun c s1 e => ?_)
  cases c with
  | true => exact isTrue_and_nil e
  | false => exact e
theorem pw_or1 (ha : PT X a tA) : PW X (.BoolOp .Or [a] pos) tA := by
  intro wh pins s σ H Q I h
  refine isTrue_or (thn (ha pins s σ H Q I h) fun c s1 e => ?_)
  cases c with
  | false => exact isTrue_or_nil e
  | true => exact e
theorem pw_and (ha : PT X a tA) (hb : PW X (.BoolOp .And (b :: rest) pos) tB') : PW X (.BoolOp .And (a :: b :: rest) pos) (tAnd tA tB') := by
  intro wh pins s σ H Q I h
  refine isTrue_and (thn (ha pins s σ H _ I h) fun c s1 ⟨H1, I1, q1⟩ => ?_)
  cases c with
  | true => exact hb wh pins s1 σ H1 Q I1 q1
  | false => exact ⟨H1, I1, q1⟩
theorem pw_or (ha : PT X a tA) (hb : PW X (.BoolOp .Or (b :: rest) pos) tB') : PW X (.BoolOp .Or (a :: b :: rest) pos) (tOr tA tB') := by
  intro wh pins s σ H Q I h
  refine isTrue_or (thn (ha pins s σ H _ I h) fun c s1 ⟨H1, I1, q1⟩ => ?_)
  cases c with
  | true => exact ⟨H1, I1, q1⟩
  | false => exact hb wh pins s1 σ H1 Q I1 q1
theorem pt_not (ha : PT X a tA) : PT X (.UnaryOp .Not a pos) (tNot tA) := by
  intro pins s σ H Q I h
  exact isTrue_not (ha pins s σ H (fun c H1 => Q (!c) H1) I h)
/-- .. as values (bools) -/
def tAndV (ta tb : TE) : TE := fun σ H Q => ta σ H fun x H1 => ∃ c, x = .bl c ∧ if c = true then tb σ H1 Q else Q (.bl false) H1
def tNotV (ta : TE) : TE := fun σ H Q => ta σ H fun x H1 => ∃ c, x = .bl c ∧ Q (.bl (!c)) H1
theorem pe_one {op} {t : TE} (h : PE X a t) : PE X (.BoolOp op [a] pos) t := fun pins s σ H Q I hw => BoolOp_one (h pins s σ H Q I hw)
theorem pe_and (ha : PE X a ta) (hb : PE X (.BoolOp .And (b :: rest) pos) tb) : PE X (.BoolOp .And (a :: b :: rest) pos) (tAndV ta tb) := by
  intro pins s σ H Q I h
  refine BoolOp_and (thn (ha pins s σ H _ I h) fun v s1 ⟨x, H1, I1, r1, q1⟩ => ?_)
  obtain ⟨c, rfl, q1⟩ := q1
  cases r1
  refine wpAny_truthy_bool ?_
  cases c with
  | true => exact hb pins s1 σ H1 Q I1 q1
  | false => exact ⟨.bl false, H1, I1, rfl, q1⟩
theorem pe_not (ha : PE X a ta) : PE X (.UnaryOp .Not a pos) (tNotV ta) := by
  intro pins s σ H Q I h
  refine UnaryOp_ (thn (ha pins s σ H _ I h) fun v s1 ⟨x, H1, I1, r1, q1⟩ => ?_)
  obtain ⟨c, rfl, q1⟩ := q1
  cases r1
  exact not_of (wpAny_truthy_bool ⟨.bl (!c), H1, I1, rfl, q1⟩)
/-- a if t else b -/
def tIf (t : TT) (ta tb : TE) : TE := fun σ H Q => t σ H fun c H1 => if c = true then ta σ H1 Q else tb σ H1 Q
theorem pe_ifExp {c : Expr} (hc : PT X c tA) (ha : PE X a ta) (hb : PE X b tb) : PE X (.IfExp c a b pos) (tIf tA ta tb) := by
  intro pins s σ H Q I h
  refine wpAny_IfExp (thn (hc pins s σ H _ I h) fun d s1 ⟨H1, I1, q1⟩ => ?_)
  cases d with
  | true => exact ha pins s1 σ H1 Q I1 q1
  | false => exact hb pins s1 σ H1 Q I1 q1
end
end L2

namespace L2
open PySem PySem.Spec PyProof.Rows

/-! ### a list, a tuple that is read: tracked, frozen, or an object of the module -/
def SqL (K : PySem.W.Frag) (H : Hp) (a : Addr) (xs : List V) : Prop :=
  Rd H a (.lst xs) ∨
    ∃ (o : Obj) (its : Array Value) (n : Nat), K.lookup a = some o ∧ o.cls = .type "list" ∧ o.dict = none ∧ o.data = .seq its n ∧ its.size ≤ sizeLine ∧ Vals xs its.toList
def SqT (K : PySem.W.Frag) (H : Hp) (a : Addr) (xs : List V) : Prop :=
  Rd H a (.tup xs) ∨
    ∃ (o : Obj) (its : Array Value) (n : Nat), K.lookup a = some o ∧ o.cls = .type "tuple" ∧ o.data = .seq its n ∧ its.size ≤ sizeLine ∧ Vals xs its.toList
section
variable {X : Cx} {pins : List (Addr × Obj)} {σ : St} {H : Hp} {s : Shared} {a : Addr} {xs ys : List V}
theorem SqL.of {K : PySem.W.Frag} (h : H a = some (.lst xs)) : SqL K H a xs := .inl (.inl h)
theorem SqT.of {K : PySem.W.Frag} (h : H a = some (.tup xs)) : SqT K H a xs := .inl (.inl h)
theorem Inv.list (I : Inv X pins σ H s) (h : SqL X.K H a xs) : ∃ its : List Value, Vals xs its ∧ PlainL s.heap a its.toArray ∧ xs.length ≤ sizeLine := by
  rcases h with h | ⟨o, its, n, hk, hc, hd, hs, hz, r⟩
  · obtain ⟨z, its, n, r, e⟩ := h.ok I.hok
    exact ⟨its, r, ⟨_, n, e, rfl, rfl, rfl⟩, z⟩
  · refine ⟨its.toList, r, ⟨o, n, I.kIn a o hk, hc, hd, by simpa using hs⟩, ?_⟩
    have e := r.length
    simp only [Array.length_toList] at e
    omega
theorem Inv.tuple (I : Inv X pins σ H s) (h : SqT X.K H a xs) : ∃ its : List Value, Vals xs its ∧ IsTup s.heap a its.toArray ∧ xs.length ≤ sizeLine := by
  rcases h with h | ⟨o, its, n, hk, hc, hs, hz, r⟩
  · obtain ⟨z, its, r, p⟩ := h.ok I.hok
    exact ⟨its, r, p, z⟩
  · refine ⟨its.toList, r, ⟨o, I.kIn a o hk, hc, n, by simpa using hs⟩, ?_⟩
    have e := r.length
    simp only [Array.length_toList] at e
    omega
end

/-! ### another wish about exceptions -/
abbrev Cx.wish (X : Cx) (E : Value → Shared → Prop) : Cx := { X with xe := E }
/-- no exception leaves -/
abbrev Cx.nox (X : Cx) : Cx := X.wish fun _ _ => False
theorem Cx.Ok.wish {X : Cx} (ok : X.Ok) (E : Value → Shared → Prop) : (X.wish E).Ok :=
  ⟨ok.mod, ok.kind, ok.glob, ok.blt, ok.above, ok.inj, ok.has, ok.cab, ok.hd, ok.frames, ok.stk, ok.exf, ok.bs, ok.bsz, ok.noex, ok.exfs, ok.funs, ok.frf⟩
theorem Cx.Ok.unwish {X : Cx} {E : Value → Shared → Prop} (ok : (X.wish E).Ok) : X.Ok :=
  ⟨ok.mod, ok.kind, ok.glob, ok.blt, ok.above, ok.inj, ok.has, ok.cab, ok.hd, ok.frames, ok.stk, ok.exf, ok.bs, ok.bsz, ok.noex, ok.exfs, ok.funs, ok.frf⟩
section
variable {X : Cx} {pins : List (Addr × Obj)} {σ : St} {H : Hp} {s : Shared} {E : Value → Shared → Prop}
theorem Inv.wish (I : Inv X pins σ H s) (E : Value → Shared → Prop) : Inv (X.wish E) pins σ H s := ⟨I.ok.wish E, I.os, I.bare, I.base, I.loc, I.cell, I.free, I.freeC, I.pin, I.hok, I.len⟩
theorem Inv.unwish (I : Inv (X.wish E) pins σ H s) : Inv X pins σ H s := ⟨I.ok.unwish, I.os, I.bare, I.base, I.loc, I.cell, I.free, I.freeC, I.pin, I.hok, I.len⟩
theorem SP.unwish {D : Ends} {f : Flow} {s' : Shared} (h : SP (X.wish E) pins D f s') : SP X pins D f s' := by
  cases f with
  | next => obtain ⟨σ', H', I, q⟩ := h; exact ⟨σ', H', I.unwish, q⟩
  | brk => obtain ⟨σ', H', I, q⟩ := h; exact ⟨σ', H', I.unwish, q⟩
  | cont => obtain ⟨σ', H', I, q⟩ := h; exact ⟨σ', H', I.unwish, q⟩
  | ret u => obtain ⟨v, σ', H', I, r, q⟩ := h; exact ⟨v, σ', H', I.unwish, r, q⟩
theorem PSs.nox {st : List Stmt} {t : TS} (h : PSs X.nox st t) : PSs X st t := fun pins s σ H D I hw =>
  wpAny_mono (h pins s σ H D (I.wish _) hw) (fun _ _ q => q.unwish) fun _ _ z => False.elim z
end

/-! ### blocks and small statements -/
section
variable {X : Cx} {st : Stmt} {rest : List Stmt} {t u : TS} {e : Expr} {te : TE} {pos : Pos}
def tNext : TS := fun D σ H => D.nx σ H
def tSeq (t u : TS) : TS := fun D σ H => t { D with nx := u D } σ H
theorem pss_nil : PSs X [] tNext := fun _ _ σ H _ I h => wpAny_execs_nil ⟨σ, H, I, h⟩
theorem pss_cons (h1 : PS X st t) (h2 : PSs X rest u) : PSs X (st :: rest) (tSeq t u) := by
  intro pins s σ H D I h
  refine wpAny_execs_cons (thn (h1 pins s σ H { D with nx := u D } I h) fun f s1 q => ?_)
  cases f with
  | next =>
    obtain ⟨σ', H', I', q⟩ := q
    exact h2 pins s1 σ' H' D I' q
  | ret v => exact q
  | brk => exact q
  | cont => exact q
theorem pss_one (h1 : PS X st t) : PSs X [st] t := by
  intro pins s σ H D I h
  refine wpAny_execs_cons (thn (h1 pins s σ H D I h) fun f s1 q => ?_)
  cases f with
  | next => exact wpAny_execs_nil q
  | ret v => exact q
  | brk => exact q
  | cont => exact q
/-- in a def's body nothing is shown -/
theorem Inv.quiet {pins : List (Addr × Obj)} {σ : St} {H : Hp} {s : Shared} (I : Inv X pins σ H s) : interactive X.env = false := by simp [interactive, I.ok.kind]
/-- an expression whose value is dropped -/
def tDrop (te : TE) : TS := fun D σ H => te σ H fun _ H1 => D.nx σ H1
theorem ps_expr (he : PE X e te) (hs : swapsWith e none pos.line X.env = pure false := by rfl) : PS X (.Expr e pos) (tDrop te) := by
  intro pins s σ H D I h
  exact wpAny_Expr_any (thn (he pins s σ H _ I h) fun v s1 ⟨x, H1, I1, r1, q1⟩ => ⟨σ, H1, I1, q1⟩) I.quiet hs
def tRet (te : TE) : TS := fun D σ H => te σ H D.rt
theorem ps_ret (he : PE X e te) : PS X (.Return (some e) pos) (tRet te) := by
  intro pins s σ H D I h
  exact wpAny_Return_some (thn (he pins s σ H _ I h) fun v s1 ⟨x, H1, I1, r1, q1⟩ => ⟨x, σ, H1, I1, r1, q1⟩)
def tIfS (c : TT) (t u : TS) : TS := fun D σ H => c σ H fun b H1 => if b = true then t D σ H1 else u D σ H1
theorem ps_if {c : Expr} {a b : List Stmt} {tc : TT} (hc : PT X c tc) (ha : PSs X a t) (hb : PSs X b u) : PS X (.If c a b pos) (tIfS tc t u) := by
  intro pins s σ H D I h
  refine wpAny_If (thn (hc pins s σ H _ I h) fun d s1 ⟨H1, I1, q1⟩ => ?_)
  cases d with
  | true => exact ha pins s1 σ H1 D I1 q1
  | false => exact hb pins s1 σ H1 D I1 q1
/-- code that the proof never comes to -/
def tNever : TS := fun _ _ _ => False
theorem ps_never : PS X st tNever := fun _ _ _ _ _ _ h => h.elim
end

/-! ### targets -/
abbrev TG := V → St → Hp → (St → Hp → Prop) → Prop
abbrev TGs := List V → St → Hp → (St → Hp → Prop) → Prop
def PG (X : Cx) (target : Expr) (t : TG) : Prop :=
  ∀ (pins : List (Addr × Obj)) (s : Shared) (σ : St) (H : Hp) (v : V) (u : Value) (Q : St → Hp → Prop), Inv X pins σ H s → RelV v u → t v σ H Q →
    wpAny (model X.prog X.w) X.A (assign target X.env u) (fun _ s' => ∃ σ' H', Inv X pins σ' H' s' ∧ Q σ' H') X.xe s
/-- several targets, one after another -/
def PGs (X : Cx) (ts : List Expr) (t : TGs) : Prop :=
  ∀ (pins : List (Addr × Obj)) (s : Shared) (σ : St) (H : Hp) (vs : List V) (us : List Value) (Q : St → Hp → Prop), Inv X pins σ H s → Vals vs us → t vs σ H Q →
    wpAny (model X.prog X.w) X.A (assignInOrder ((assignEach ts X.env).map (·.2)) us) (fun _ s' => ∃ σ' H', Inv X pins σ' H' s' ∧ Q σ' H') X.xe s
/-- o[i] = v, by values -/
abbrev TSet := V → V → V → Hp → (Hp → Prop) → Prop
def PSet (X : Cx) (t : TSet) : Prop :=
  ∀ (pins : List (Addr × Obj)) (s : Shared) (σ : St) (H : Hp) (o i v : V) (ov iv u : Value) (Q : Hp → Prop), Inv X pins σ H s → RelV o ov → RelV i iv → RelV v u → t o i v H Q →
    wpAny (model X.prog X.w) X.A (setItem ov iv u) (fun _ s' => ∃ H', Inv X pins σ H' s' ∧ Q H') X.xe s
section
variable {X : Cx} {pos : Pos}
def gName (i : Nat) : TG := fun v σ H Q => Q (σ.set i (some v)) H
theorem pg_name {i : Nat} {x : Str} (hN : X.N.Nodup) (hi : X.N[i]? = some x) (hx : Loc X.env.scope x) (hf : X.fn x = true ∨ X.env.scope.names.lookup x = some .local := by first | exact .inl rfl | exact .inr rfl | assumption) : PG X (.Name x pos) (gName i) := by
  intro pins s σ H v u Q I r h
  exact wpAny_assign_Name (store_ok I hN hi hx r (fun s' I' => ⟨_, H, I', h⟩) hf)
def gNil : TGs := fun vs σ H Q => vs = [] ∧ Q σ H
def gCons (t : TG) (u : TGs) : TGs := fun vs σ H Q => ∃ v r, vs = v :: r ∧ t v σ H fun σ' H' => u r σ' H' Q
theorem pgs_nil : PGs X [] gNil := by
  intro pins s σ H vs us Q I r h
  obtain ⟨e, h⟩ := h
  subst e
  cases r
  exact assignInOrder_nil ⟨σ, H, I, h⟩
theorem pgs_cons {e : Expr} {es : List Expr} {t : TG} {u : TGs} (h1 : PG X e t) (h2 : PGs X es u)
    (hs : (assignEach (e :: es) X.env).map (·.2) = assign e X.env :: (assignEach es X.env).map (·.2) := by rfl) : PGs X (e :: es) (gCons t u) := by
  intro pins s σ H vs us Q I r h
  obtain ⟨v, vr, e1, h⟩ := h
  subst e1
  cases r with
  | cons r rr =>
    rw [hs]
    refine assignInOrder_cons (thn (h1 pins s σ H _ _ _ I r h) fun _ s1 ⟨σ1, H1, I1, q1⟩ => ?_)
    exact h2 pins s1 σ1 H1 _ _ Q I1 rr q1
/-- (a, b, ..) = a tuple of that length -/
def gTup (K : PySem.W.Frag) (n : Nat) (t : TGs) : TG := fun v σ H Q => ∃ a xs, v = .ref a ∧ SqT K H a xs ∧ xs.length = n ∧ t xs σ H Q
theorem pg_tup {es : List Expr} {k : Nat} {t : TGs} {n : Nat} (hc : X.calm = true) (h : PGs X es t)
    (hn : (assignEach es X.env).length = n := by rfl) (hst : (assignEach es X.env).findIdx? (·.1) = none := by rfl) : PG X (.Tuple es k pos) (gTup X.K n t) := by
  intro pins s σ H v u Q I r hw
  obtain ⟨a, xs, e1, hq, hl, hw⟩ := hw
  subst e1
  cases r
  obtain ⟨its, rv, ht, hz⟩ := I.tuple hq
  refine assign_Tuple_tuple (I.ok.hd hc) ht (by simp [hn, ← hl, rv.length]) hst fun h' hx => ?_
  have I1 : Inv X pins σ H { s with heap := h' } := I.kept (t' := s.toks) fun b o e => hx b o (Nat.ne_of_lt (Heap.lt_size e)) e
  exact h pins _ σ H xs _ Q I1 (by simpa using rv) hw
/-- o[i] = .. -/
def gSub (to ti : TE) (t : TSet) : TG := fun v σ H Q => to σ H fun o H1 => ti σ H1 fun i H2 => t o i v H2 fun H3 => Q σ H3
theorem pg_sub {o i : Expr} {to ti : TE} {t : TSet} (ho : PE X o to) (hi : PE X i ti) (hs : PSet X t)
    (ha : ∀ v, assign (.Subscript o i pos) X.env v = (do
      let ov ← holding [v] (eval o X.env)
      let iv ← holding [v, ov] (eval i X.env)
      standAt pos
      holding [v, ov, iv] (setItem ov iv v)
      release [v, ov, iv] []) := by intro _; rfl) : PG X (.Subscript o i pos) (gSub to ti t) := by
  intro pins s σ H v u Q I r h
  rw [ha]
  refine wpAny_bind (wpAny_holding (thn (ho pins s σ H _ I h) fun ov s1 ⟨x, H1, I1, r1, q1⟩ => ?_))
  refine wpAny_bind (wpAny_holding (thn (hi pins s1 σ H1 _ I1 q1) fun iv s2 ⟨y, H2, I2, r2, q2⟩ => ?_))
  refine wpAny_bind (wpAny_standAt (wpAny_bind (wpAny_holding (thn (hs pins s2 σ H2 x y v ov iv u _ I2 r1 r2 r q2) fun _ s3 ⟨H3, I3, q3⟩ => ?_))))
  exact wpAny_release ⟨σ, H3, I3, q3⟩
/-- target = value -/
def tAsg (te : TE) (g : TG) : TS := fun D σ H => te σ H fun x H1 => g x σ H1 D.nx
theorem ps_asg {tg e : Expr} {te : TE} {g : TG} (he : PE X e te) (hg : PG X tg g) (hs : swapsWithSole [tg] e pos.line X.env = pure false := by rfl) (hw : swappedStores [tg] e X.env = pure none := by rfl)
    (h1 : (assignEach [tg] X.env).map (·.2) = [assign tg X.env] := by rfl) : PS X (.Assign [tg] e pos) (tAsg te g) := by
  intro pins s σ H D I h
  refine wpAny_Assign_stores (thn (he pins s σ H _ I h) fun v s1 ⟨x, H1, I1, r1, q1⟩ => ?_) hs hw
  rw [h1]
  exact thn (hg pins s1 σ H1 x v _ I1 r1 q1) fun _ s2 q => q
/-- name = value -/
theorem ps_set {i : Nat} {x : Str} {e : Expr} {te : TE} {pos' : Pos} (hN : X.N.Nodup) (hi : X.N[i]? = some x) (hx : Loc X.env.scope x) (he : PE X e te) (hs : swapsWith e (some (.Name x pos')) pos.line X.env = pure false := by rfl) (hf : X.fn x = true ∨ X.env.scope.names.lookup x = some .local := by first | exact .inl rfl | exact .inr rfl | assumption) :
    PS X (.Assign [.Name x pos'] e pos) (tAsg te (gName i)) := by
  intro pins s σ H D I h
  refine wpAny_Assign_Name (thn (he pins s σ H _ I h) fun v s1 ⟨y, H1, I1, r1, q1⟩ => ?_) hs
  exact store_ok I1 hN hi hx r1 (fun s2 I2 => ⟨_, H1, I2, q1⟩) hf
end

/-! ### while -/
section
variable {X : Cx} {pos : Pos}
/-- the invariant W with its measure -/
def tWhile (c : TT) (tb : TS) : TS := fun D σ H => ∃ W : Nat → St → Hp → Prop, (∃ m, W m σ H) ∧ ∀ m σ H, W m σ H →
  c σ H fun b H1 => if b = true then ∃ N : St → Hp → Prop, (∀ σ' H', N σ' H' → ∃ m', m' < m ∧ W m' σ' H') ∧ tb { D with nx := N, ct := N, bk := D.nx } σ H1 else D.nx σ H1
theorem ps_while {c : Expr} {body : List Stmt} {tc : TT} {tb : TS} (hp : PassesOwn (model X.prog X.w) X.A X.env X.xe) (hc : PT X c tc) (hb : PSs X body tb) : PS X (.While c body [] pos) (tWhile tc tb) := by
  intro pins s σ H D I h
  obtain ⟨W, ⟨m0, w0⟩, turn⟩ := h
  refine wpAny_While (codeAny_whileLoop (fun n s' => ∃ σ' H', Inv X pins σ' H' s' ∧ W n σ' H') ?_ m0 ⟨σ, H, I, w0⟩)
  rintro n s1 ⟨σ1, H1, I1, w1⟩
  refine wpAny_passesOwn hp (thn (hc pins s1 σ1 H1 _ I1 (turn n σ1 H1 w1)) fun b s2 ⟨H2, I2, q2⟩ => ?_)
  cases b with
  | true =>
    obtain ⟨N, hN, q2⟩ := q2
    rw [if_pos rfl]
    refine wpAny_passesOwn hp (thn (hb pins s2 σ1 H2 _ I2 q2) fun f s3 q3 => ?_)
    cases f with
    | next =>
      obtain ⟨σ3, H3, I3, n3⟩ := q3
      obtain ⟨m', hm, w3⟩ := hN σ3 H3 n3
      exact ⟨m', hm, σ3, H3, I3, w3⟩
    | cont =>
      obtain ⟨σ3, H3, I3, n3⟩ := q3
      obtain ⟨m', hm, w3⟩ := hN σ3 H3 n3
      exact ⟨m', hm, σ3, H3, I3, w3⟩
    | brk => exact q3
    | ret v => exact q3
  | false =>
    rw [if_neg Bool.false_ne_true]
    exact wpAny_execs_nil ⟨σ1, H2, I2, q2⟩
end

/-! ### what a loop or a comprehension walks -/
/-- at turn i: it yields x (the heap may grow), or it stops -/
structure It where
  go : Nat → Hp → Prop
  yld : Nat → Hp → V → Hp → Prop
  stop : Nat → Hp → Prop
/-- the iterator's own objects may turn: they are not the frame's, not pinned, younger than the entry (or a comprehension's own) -/
def FpOk (X : Cx) (pins : List (Addr × Obj)) (H : Hp) (b : Addr) : Prop :=
  H b = none ∧ b ≠ X.env.locals ∧ b ∉ X.fs ∧ (b ∈ X.ex ∨ X.s₀.heap.objs.size ≤ b) ∧ (∀ x c, X.env.cells.lookup x = some c → c ≠ b) ∧ ∀ p ∈ X.pn ++ pins, p.1 ≠ b
theorem Inv.fpOk {X : Cx} {pins : List (Addr × Obj)} {σ : St} {H H' : Hp} {s : Shared} {b : Addr} (I : Inv X pins σ H s) (hb : s.heap.objs.size ≤ b) (hn : H' b = none) : FpOk X pins H' b := by
  refine ⟨hn, Nat.ne_of_gt (Nat.lt_of_lt_of_le I.lt hb), I.nofs hb, .inr (Nat.le_trans I.sz hb), fun x c e z => ?_, fun p hp z => ?_⟩
  · obtain ⟨v, q⟩ := I.cell x c e
    exact absurd (Nat.lt_of_lt_of_le q.lt (by rw [z]; exact hb)) (Nat.lt_irrefl _)
  · exact absurd (Nat.lt_of_lt_of_le (Heap.lt_size (I.pin p hp).1) (by rw [z]; exact hb)) (Nat.lt_irrefl _)
structure Turn (P : Program) (w : World) (K : PySem.W.Frag) (tg : Expr) (J : It) (fp : List Addr) (it : Addr) (tn : Nat → Heap → Prop) : Prop where
  mem : it ∈ fp
  obj : ∀ i h, tn i h → ∀ b ∈ fp, ∃ o, h.get? b = some o ∧ ∀ v, o.data ≠ .cell v
  keep : ∀ i h h', tn i h → (∀ b ∈ fp, ∀ o, h.get? b = some o → h'.get? b = some o) → tn i h'
  item : ∀ (X : Cx), X.prog = P → X.w = w → X.K = K → X.calm = true → ∀ (i : Nat) (pins : List (Addr × Obj)) (s : Shared) (σ : St) (H : Hp) (E : Value → Shared → Prop), Inv X pins σ H s → (∀ b ∈ fp, FpOk X pins H b) → tn i s.heap → J.go i H →
    wpAny (model P w) X.A (pyNext (.ref it)) (fun r s1 => ∃ u, r = some u ∧
      wpAny (model P w) X.A (letOwnedTupleGo tg (.ref it) u) (fun _ s2 => ∃ x H', Inv X pins σ H' s2 ∧ RelV x u ∧ J.yld i H x H' ∧ tn (i + 1) s2.heap ∧ ∀ b ∈ fp, H' b = none) E s1) E s
  done : ∀ (X : Cx), X.prog = P → X.w = w → X.K = K → X.calm = true → ∀ (i : Nat) (pins : List (Addr × Obj)) (s : Shared) (σ : St) (H : Hp) (E : Value → Shared → Prop), Inv X pins σ H s → (∀ b ∈ fp, FpOk X pins H b) → tn i s.heap → J.stop i H →
    wpAny (model P w) X.A (pyNext (.ref it)) (fun r s1 => r = none ∧ Inv X pins σ H s1) E s
  self : ∀ (A : Around) (i : Nat) (s : Shared) (Q : Value → Shared → Prop) (E : Value → Shared → Prop), tn i s.heap → Q (.ref it) s → wpAny (model P w) A (pyIter (.ref it)) Q E s
abbrev TI := St → Hp → (It → Hp → Prop) → Prop
/-- an iterator has come -/
def PIE (X : Cx) (pins : List (Addr × Obj)) (σ : St) (tg : Expr) (R : It → Hp → Prop) (itv : Value) (s2 : Shared) : Prop :=
  ∃ (it : Addr) (fp : List Addr) (tn : Nat → Heap → Prop) (J : It) (H' : Hp), itv = .ref it ∧ Inv X pins σ H' s2 ∧ Turn X.prog X.w X.K tg J fp it tn ∧ tn 0 s2.heap ∧ (∀ b ∈ fp, FpOk X pins H' b) ∧ R J H'
def PI (X : Cx) (tg iter : Expr) (wi : TI) : Prop :=
  ∀ (pins : List (Addr × Obj)) (s : Shared) (σ : St) (H : Hp) (R : It → Hp → Prop), Inv X pins σ H s → wi σ H R →
    wpAny (model X.prog X.w) X.A (eval iter X.env) (fun v s1 => wpAny (model X.prog X.w) X.A (pyIter v) (PIE X pins σ tg R) X.xe s1) X.xe s

/-- the step ahead of the store is nothing for an iterator that keeps no tuple -/
theorem go_of {M : Model} {A : Around} {E : Value → Shared → Prop} {s : Shared} {tg : Expr} {it : Addr} {u : Value} {o : Obj} {n : String} {vs : Array Value} {Q : Unit → Shared → Prop} (ho : s.heap.get? it = some o) (hc : o.cls = .type n) (hd : o.data = .fields vs)
    (hn : ["enumerate", "zip", "dict_itemiterator", "dict_reverseitemiterator", "odict_iterator", "itertools.zip_longest", "itertools.pairwise"].contains n = false) (hQ : Q () s) : wpAny M A (letOwnedTupleGo tg (.ref it) u) Q E s := by
  unfold letOwnedTupleGo
  cases tg <;> first
    | exact wpAny_pure hQ
    | (cases u <;> first
        | exact wpAny_pure hQ
        | (refine wpAny_bind (wpAny_load ho ?_)
           rw [hc, hd]
           show wpAny M A (if (["enumerate", "zip", "dict_itemiterator", "dict_reverseitemiterator", "odict_iterator", "itertools.zip_longest", "itertools.pairwise"].contains n && vs[0]? == some (rawInt _)) = true then _ else _) Q E s
           rw [if_neg (by intro h; rw [hn, Bool.false_and] at h; cases h)]
           exact wpAny_pure hQ))

/-- lo, lo + 1, .. (n of them) -/
def Itr (lo : Int) (n : Nat) : It := ⟨fun i _ => i < n, fun i H x H' => H' = H ∧ x = .int (lo + i), fun i _ => n ≤ i⟩
theorem turn_range {P : Program} {w : World} {K : PySem.W.Frag} {tg : Expr} (it : Addr) (lo : Int) (n : Nat) : Turn P w K tg (Itr lo n) [it] it (fun i h => IsRangeIter h it (lo + (i : Nat) * 1) ((n : Int) - (i : Nat)) 1) where
  mem := by simp
  obj := fun i h st b hb => by
    have e : b = it := by simpa using hb
    subst e
    exact ⟨_, st, fun v z => by
      have z' : Data.fields _ = Data.cell v := z
      cases z'⟩
  keep := fun i h h' st k => k it (by simp) _ st
  item := by
    intro X hP hw hK hc i pins s σ H E I hf st hg
    subst hP hw hK
    obtain ⟨f0, f1, f2, f3, f4, f5⟩ := hf it (by simp)
    have W := Walks.range (prog := X.prog) (w := X.w) (I.ok.hd hc) it lo 1 n
    refine W.item i s _ _ hg st fun v h' tk hv st' kk => ?_
    obtain ⟨t, rfl⟩ := hv
    have I1 : Inv X pins σ H { s with heap := h', toks := tk } := I.turned (fun b o hb e => kk b o (by simpa using hb) e) f0 f1 f3 f4 f5
    refine ⟨_, rfl, go_of (s := { s with heap := h', toks := tk }) (n := "range_iterator") st' rfl rfl (by decide) ⟨.int (lo + i), H, I1, ⟨t, ?_⟩, ⟨rfl, rfl⟩, st', fun b hb => (hf b hb).1⟩⟩
    rw [Int.mul_one]
  done := by
    intro X hP hw hK hc i pins s σ H E I hf st hg
    subst hP hw hK
    obtain ⟨f0, f1, f2, f3, f4, f5⟩ := hf it (by simp)
    exact wpAny_pyNext_range_end (I.ok.hd hc) st (by have : n ≤ i := hg; omega) fun h' eb => ⟨rfl, I.turned (t' := s.toks) (fun b o hb e => eb b o hb e) f0 f1 f3 f4 f5⟩
  self := fun _ _ _ _ _ st h => wpAny_pyIter_rangeiter st h
end L2

namespace L2
open PySem PySem.Spec PyProof.Rows
section
variable {X : Cx} {tg : Expr}
/-- a range object just made, walked -/
theorem range_it {pins : List (Addr × Obj)} {σ : St} {H : Hp} {s : Shared} {R : It → Hp → Prop} {E : Value → Shared → Prop} {lo hi : Int} {t u v : Tok} {tk : Nat} (I : Inv X pins σ H s) (h1 : -(2 ^ 62) ≤ lo) (h2 : lo < 2 ^ 62) (h3 : -(2 ^ 62) ≤ hi) (h4 : hi < 2 ^ 62)
    (q : R (Itr lo (hi - lo).toNat) H) : wpAny (model X.prog X.w) X.A (pyIter (.ref s.heap.objs.size)) (PIE X pins σ tg R) E { s with heap := s.heap.push { cls := .type "range", data := .fields #[.int lo t, .int hi u, .int 1 v] }, toks := tk } := by
  refine wpAny_pyIter_range (IsRange.new ..) (small_one h1 h2 h3 h4) ?_
  have I1 : Inv X pins σ H { s with heap := s.heap.push { cls := .type "range", data := .fields #[.int lo t, .int hi u, .int 1 v] }, toks := tk } := I.kept fun b o e => Heap.get?_push_of_some _ e
  refine ⟨(s.heap.push { cls := .type "range", data := .fields #[.int lo t, .int hi u, .int 1 v] }).objs.size, [(s.heap.push { cls := .type "range", data := .fields #[.int lo t, .int hi u, .int 1 v] }).objs.size], _, _, H, rfl,
    I1.kept (t' := tk) fun b o e => Heap.get?_push_of_some _ e, turn_range _ lo (hi - lo).toNat, ?_, fun b hb => ?_, q⟩
  · have e1 : lo + ((0 : Nat) : Int) * 1 = lo := by simp
    have e2 : (((hi - lo).toNat : Nat) : Int) - ((0 : Nat) : Int) = Builtin.Range.rangeSize lo hi 1 := by rw [rangeSize_one]; split <;> omega
    show IsRangeIter _ _ (lo + ((0 : Nat) : Int) * 1) ((((hi - lo).toNat : Nat) : Int) - ((0 : Nat) : Int)) 1
    rw [e1, e2]
    exact Heap.get?_push_size _ rfl
  · have e : b = (s.heap.push { cls := .type "range", data := .fields #[.int lo t, .int hi u, .int 1 v] }).objs.size := by simpa using hb
    subst e
    exact I1.fpOk (Nat.le_refl _) (I1.hok.fresh (Nat.le_refl _))
def iRng1 (ta : TA) : TI := fun σ H R => ta σ H fun vs H1 => ∃ j : Int, vs = [.int j] ∧ -(2 ^ 62) ≤ j ∧ j < 2 ^ 62 ∧ R (Itr 0 j.toNat) H1
theorem pi_range1 {a : Expr} {ta : TA} {p pos : Pos} (hg : Gl X "range") (hm : X.mg "range" = none) (ha : PA X [a] ta) (hs : starEach [a] X.env = [(false, eval a X.env)] := by rfl) : PI X tg (.Call (.Name "range" p) [a] [] pos) (iRng1 ta) := by
  intro pins s σ H R I h
  refine Call_ (ld_blt I hg hm boot_range (PyProof.Rows.callWith_type1 (thn (ha pos pins s σ H _ I h) fun us s1 ⟨vs, H1, I1, r1, q1⟩ => ?_) hs rfl))
  obtain ⟨j, e, q1, q2, q⟩ := q1
  subst e
  cases r1 with
  | cons r rr =>
    cases rr
    obtain ⟨t, rfl⟩ := r
    exact call_range_1 (range_it I1 (by omega) (by omega) q1 q2 (by simpa using q))

/-! ### for -/
/-- W: the invariant by the turn and a measure; N: what the body is to reach -/
def tFor (wi : TI) (g : TG) (tb : TS) : TS := fun D σ H => wi σ H fun J H1 => ∃ W : Nat → Nat → St → Hp → Prop, (∃ m, W 0 m σ H1) ∧ ∀ i m σ H, W i m σ H →
  (J.stop i H ∧ D.nx σ H) ∨ (J.go i H ∧ ∃ N : St → Hp → Prop, (∀ σ' H', N σ' H' → ∃ m', m' < m ∧ W (i + 1) m' σ' H') ∧ ∀ x H', J.yld i H x H' → g x σ H' fun σ2 H2 => tb { D with nx := N, ct := N, bk := D.nx } σ2 H2)
/-- the records at fp as they stand -/
def pinsAt (fp : List Addr) (h : Heap) : List (Addr × Obj) := fp.filterMap fun b => (h.get? b).map fun o => (b, o)
theorem mem_pinsAt {fp : List Addr} {h : Heap} {b : Addr} {o : Obj} (hb : b ∈ fp) (e : h.get? b = some o) : (b, o) ∈ pinsAt fp h := List.mem_filterMap.mpr ⟨b, hb, by rw [e]; rfl⟩
theorem of_pinsAt {fp : List Addr} {h : Heap} {p : Addr × Obj} (hp : p ∈ pinsAt fp h) : p.1 ∈ fp ∧ h.get? p.1 = some p.2 := by
  obtain ⟨b, hb, e⟩ := List.mem_filterMap.mp hp
  cases q : h.get? b with
  | none => rw [q] at e; cases e
  | some o =>
    rw [q] at e
    have e' : (b, o) = p := Option.some.inj e
    subst e'
    exact ⟨hb, q⟩
theorem Inv.pinned {pins : List (Addr × Obj)} {σ : St} {H : Hp} {s : Shared} {fp : List Addr} (I : Inv X pins σ H s) (hf : ∀ b ∈ fp, FpOk X pins H b) (ho : ∀ b ∈ fp, ∃ o, s.heap.get? b = some o ∧ ∀ v, o.data ≠ .cell v) : Inv X (pins ++ pinsAt fp s.heap) σ H s :=
  I.pins_of fun p hp => (List.mem_append.mp hp).elim (fun z => I.pin p (List.mem_append_right _ z)) fun z => by
    obtain ⟨hb, e⟩ := of_pinsAt z
    obtain ⟨f0, f1, f2, _⟩ := hf p.1 hb
    obtain ⟨o, e', d⟩ := ho p.1 hb
    rw [e] at e'; cases e'
    exact ⟨e, f0, f1, f2, d⟩
theorem Inv.unpinned {pins pl : List (Addr × Obj)} {σ : St} {H : Hp} {s : Shared} (I : Inv X (pins ++ pl) σ H s) : Inv X pins σ H s := I.pins_of fun p hp => I.pin p (List.mem_append_right _ (List.mem_append_left _ hp))
theorem ps_for {iter : Expr} {body : List Stmt} {wi : TI} {g : TG} {tb : TS} {pos : Pos} (hp : PassesOwn (model X.prog X.w) X.A X.env X.xe) (hc : X.calm = true) (hi : PI X tg iter wi) (hg : PG X tg g) (hb : PSs X body tb)
    (hs : ∀ x, foldedSetIterable iter X.env x = pure x := by intro _; rfl) : PS X (.For tg iter body [] pos) (tFor wi g tb) := by
  intro pins s σ H D I h
  refine wpAny_For (thn (hi pins s σ H _ I h) fun v s1 h1 => thn h1 fun itv s2 h2 => ?_) hs
  obtain ⟨it, fp, tn, J, H2, e, I2, T, st2, f2, W, ⟨m0, w0⟩, turn⟩ := h2
  subst e
  -- what stays true of the iterator's objects through the loop
  have stat : ∀ {H' : Hp}, (∀ b ∈ fp, H' b = none) → ∀ b ∈ fp, FpOk X pins H' b := fun hn b hb => ⟨hn b hb, (f2 b hb).2⟩
  refine codeAny_forLoop_any (fun n s' => ∃ i σ' H', Inv X pins σ' H' s' ∧ tn i s'.heap ∧ (∀ b ∈ fp, H' b = none) ∧ W i n σ' H') ?_ m0 ⟨0, σ, H2, I2, st2, fun b hb => (f2 b hb).1, w0⟩
  rintro n s3 ⟨i, σ3, H3, I3, st3, fr3, w3⟩
  rcases turn i n σ3 H3 w3 with ⟨stop, qn⟩ | ⟨go, N, hN, step⟩
  · refine wpAny_passesOwn hp (thn (T.done X rfl rfl rfl hc i pins s3 σ3 H3 X.xe I3 (stat fr3) st3 stop) fun r s4 ⟨hr, I4⟩ => ?_)
    subst hr
    exact wpAny_execs_nil ⟨σ3, H3, I4, qn⟩
  · refine wpAny_passesOwn hp (thn (T.item X rfl rfl rfl hc i pins s3 σ3 H3 X.xe I3 (stat fr3) st3 go) fun r s4 ⟨u, hr, h4⟩ => ?_)
    subst hr
    refine wpAny_passesOwn hp (thn h4 fun _ s5 ⟨x, H5, I5, r5, y5, st5, fr5⟩ => ?_)
    have I5' := I5.pinned (stat fr5) (T.obj _ _ st5)
    refine wpAny_passesOwn hp (thn (hg _ s5 σ3 H5 x u _ I5' r5 (step x H5 y5)) fun _ s6 ⟨σ6, H6, I6, q6⟩ => ?_)
    refine wpAny_passesOwn hp (thn (hb _ s6 σ6 H6 _ I6 q6) fun f s7 q7 => ?_)
    have again : ∀ {σ7 : St} {H7 : Hp}, Inv X (pins ++ pinsAt fp s5.heap) σ7 H7 s7 → N σ7 H7 → ∃ m, m < n ∧ ∃ i σ' H', Inv X pins σ' H' s7 ∧ tn i s7.heap ∧ (∀ b ∈ fp, H' b = none) ∧ W i m σ' H' := fun {σ7 H7} I7 n7 => by
      obtain ⟨m', hm, w7⟩ := hN σ7 H7 n7
      refine ⟨m', hm, i + 1, σ7, H7, I7.unpinned, T.keep _ _ _ st5 fun b hb o e => (I7.pin (b, o) (List.mem_append_right _ (List.mem_append_right _ (mem_pinsAt hb e)))).1, fun b hb => ?_, w7⟩
      obtain ⟨o, e, d⟩ := T.obj _ _ st5 b hb
      exact (I7.pin (b, o) (List.mem_append_right _ (List.mem_append_right _ (mem_pinsAt hb e)))).2.1
    cases f with
    | next => obtain ⟨σ7, H7, I7, n7⟩ := q7; exact again I7 n7
    | cont => obtain ⟨σ7, H7, I7, n7⟩ := q7; exact again I7 n7
    | brk => obtain ⟨σ7, H7, I7, q7⟩ := q7; exact ⟨σ7, H7, I7.unpinned, q7⟩
    | ret v => obtain ⟨x7, σ7, H7, I7, r7, q7⟩ := q7; exact ⟨x7, σ7, H7, I7.unpinned, r7, q7⟩
end

/-! ### the forms one uses -/
theorem for_range {lo : Int} {n : Nat} {g : TG} {tb : TS} {D : Ends} {σ : St} {H : Hp} (Pv : Nat → St → Hp → Prop) (h0 : Pv 0 σ H)
    (hs : ∀ i σ H, i < n → Pv i σ H → g (.int (lo + i)) σ H fun σ2 H2 => tb { D with nx := Pv (i + 1), ct := Pv (i + 1), bk := D.nx } σ2 H2) (hd : ∀ σ H, Pv n σ H → D.nx σ H) :
    ∃ W : Nat → Nat → St → Hp → Prop, (∃ m, W 0 m σ H) ∧ ∀ i m σ H, W i m σ H →
      ((Itr lo n).stop i H ∧ D.nx σ H) ∨ ((Itr lo n).go i H ∧ ∃ N : St → Hp → Prop, (∀ σ' H', N σ' H' → ∃ m', m' < m ∧ W (i + 1) m' σ' H') ∧ ∀ x H', (Itr lo n).yld i H x H' → g x σ H' fun σ2 H2 => tb { D with nx := N, ct := N, bk := D.nx } σ2 H2) := by
  refine ⟨fun i m σ H => m = n - i ∧ i ≤ n ∧ Pv i σ H, ⟨n, by simp, Nat.zero_le _, h0⟩, ?_⟩
  rintro i m σ H ⟨rfl, hi, p⟩
  by_cases hlt : i < n
  · refine .inr ⟨hlt, Pv (i + 1), fun σ' H' p' => ⟨n - (i + 1), by omega, rfl, hlt, p'⟩, fun x H' y => ?_⟩
    obtain ⟨e, y⟩ := y
    subst e y
    exact hs i σ _ hlt p
  · have e : i = n := by omega
    subst e
    exact .inl ⟨Nat.le_refl _, hd σ H p⟩
end L2

namespace L2
open PySem PySem.Spec PyProof.Rows

abbrev R2 := V → V → Hp → VK → Prop
/-- a two-place operation on values: f is binaryOp op, inplaceOp op or compareOp op -/
def OpR (X : Cx) (f : Value → Value → Sem Value) (r : R2) : Prop :=
  ∀ (pins : List (Addr × Obj)) (s : Shared) (σ : St) (H : Hp) (x y : V) (v u : Value) (Q : VK), Inv X pins σ H s → RelV x v → RelV y u → r x y H Q →
    wpAny (model X.prog X.w) X.A (f v u) (EP X pins σ Q) X.xe s
/-- a one-place operation -/
def UnR (X : Cx) (f : Value → Sem Value) (r : V → Hp → VK → Prop) : Prop :=
  ∀ (pins : List (Addr × Obj)) (s : Shared) (σ : St) (H : Hp) (x : V) (v : Value) (Q : VK), Inv X pins σ H s → RelV x v → r x H Q →
    wpAny (model X.prog X.w) X.A (f v) (EP X pins σ Q) X.xe s
/-- a call of a value that is known (a builtin, a type) with values -/
def CallR (X : Cx) (f : Value) (r : List V → Hp → VK → Prop) : Prop :=
  ∀ (pins : List (Addr × Obj)) (s : Shared) (σ : St) (H : Hp) (xs : List V) (us : List Value) (Q : VK), Inv X pins σ H s → Vals xs us → r xs H Q →
    wpAny (model X.prog X.w) X.A (call f us) (EP X pins σ Q) X.xe s
/-- a value's truth -/
def TruR (X : Cx) (r : V → Hp → (Bool → Hp → Prop) → Prop) : Prop :=
  ∀ (pins : List (Addr × Obj)) (s : Shared) (σ : St) (H : Hp) (x : V) (v : Value) (Q : Bool → Hp → Prop), Inv X pins σ H s → RelV x v → r x H Q →
    wpAny (model X.prog X.w) X.A (truthy v) (TP X pins σ Q) X.xe s

def tOp (r : R2) (ta tb : TE) : TE := fun σ H Q => ta σ H fun x H1 => tb σ H1 fun y H2 => r x y H2 Q
def tUn (r : V → Hp → VK → Prop) (ta : TE) : TE := fun σ H Q => ta σ H fun x H1 => r x H1 Q
/-- ints in, under C, and a value out -/
def rI (C : Int → Int → Prop) (g : Int → Int → V) : R2 := fun x y H Q => ∃ i j, x = .int i ∧ y = .int j ∧ C i j ∧ Q (g i j) H
def rI0 (g : Int → Int → V) : R2 := fun x y H Q => ∃ i j, x = .int i ∧ y = .int j ∧ Q (g i j) H
def rU (g : Int → V) : V → Hp → VK → Prop := fun x H Q => ∃ i, x = .int i ∧ Q (g i) H

section
variable {X : Cx} {a b c : Expr} {ta tb tc : TE} {pos : Pos}

theorem binT (ha : PE X a ta) (hb : PE X b tb) {pins : List (Addr × Obj)} {s : Shared} {σ : St} {H : Hp} {R : V → V → Hp → Prop} (I : Inv X pins σ H s)
    (h : ta σ H fun x H1 => tb σ H1 fun y H2 => R x y H2) {Q : Value → Shared → Prop} {f : Value → Value → Sem Value}
    (hf : ∀ v u s2 x y H2, Inv X pins σ H2 s2 → RelV x v → RelV y u → R x y H2 → wpAny (model X.prog X.w) X.A (f v u) Q X.xe s2) :
    wpAny (model X.prog X.w) X.A (eval a X.env) (fun v s₁ => wpAny (model X.prog X.w) X.A (eval b X.env) (fun u s₂ => wpAny (model X.prog X.w) X.A (f v u) Q X.xe s₂) X.xe s₁) X.xe s := by
  refine thn (ha pins s σ H _ I h) fun v s1 ⟨x, H1, I1, r1, q1⟩ => ?_
  refine thn (hb pins s1 σ H1 _ I1 q1) fun u s2 ⟨y, H2, I2, r2, q2⟩ => ?_
  exact hf v u s2 x y H2 I2 r1 r2 q2

theorem pe_op {op : Operator} {r : R2} (ho : OpR X (binaryOp op) r) (ha : PE X a ta) (hb : PE X b tb) : PE X (.BinOp a op b pos) (tOp r ta tb) := by
  intro pins s σ H Q I h
  exact wpAny_BinOp (binT ha hb I h fun v u s2 x y H2 I2 rx ry q => ho pins s2 σ H2 x y v u Q I2 rx ry q)
theorem pe_un {op : UnaryOp} {r : V → Hp → VK → Prop} (ho : UnR X (unaryOp op) r) (ha : PE X a ta) : PE X (.UnaryOp op a pos) (tUn r ta) := by
  intro pins s σ H Q I h
  exact UnaryOp_ (thn (ha pins s σ H _ I h) fun v s1 ⟨x, H1, I1, r1, q1⟩ => ho pins s1 σ H1 x v Q I1 r1 q1)

/-! ### ints -/
theorem opI {f : Value → Value → Sem Value} {C : Int → Int → Prop} {g : Int → Int → Int}
    (rule : ∀ (i j : Int) (t u : Tok) (s : Shared) (Q : Value → Shared → Prop) (E : Value → Shared → Prop), C i j → Q (.int (g i j) s.toks) { s with toks := s.toks + 1 } → wpAny (model X.prog X.w) X.A (f (.int i t) (.int j u)) Q E s) :
    OpR X f (rI C fun i j => .int (g i j)) := by
  intro pins s σ H x y v u Q I rx ry h
  obtain ⟨i, j, rfl, rfl, hc, q⟩ := h
  obtain ⟨t, rfl⟩ := rx
  obtain ⟨t', rfl⟩ := ry
  exact rule i j t t' s _ _ hc ⟨.int (g i j), H, I.tok _, ⟨_, rfl⟩, q⟩
theorem opI0 {f : Value → Value → Sem Value} {g : Int → Int → Int}
    (rule : ∀ (i j : Int) (t u : Tok) (s : Shared) (Q : Value → Shared → Prop) (E : Value → Shared → Prop), Q (.int (g i j) s.toks) { s with toks := s.toks + 1 } → wpAny (model X.prog X.w) X.A (f (.int i t) (.int j u)) Q E s) :
    OpR X f (rI0 fun i j => .int (g i j)) := by
  intro pins s σ H x y v u Q I rx ry h
  obtain ⟨i, j, rfl, rfl, q⟩ := h
  obtain ⟨t, rfl⟩ := rx
  obtain ⟨t', rfl⟩ := ry
  exact rule i j t t' s _ _ ⟨.int (g i j), H, I.tok _, ⟨_, rfl⟩, q⟩
theorem opB0 {f : Value → Value → Sem Value} {g : Int → Int → Bool}
    (rule : ∀ (i j : Int) (t u : Tok) (s : Shared) (Q : Value → Shared → Prop) (E : Value → Shared → Prop), Q (.bool (g i j)) s → wpAny (model X.prog X.w) X.A (f (.int i t) (.int j u)) Q E s) :
    OpR X f (rI0 fun i j => .bl (g i j)) := by
  intro pins s σ H x y v u Q I rx ry h
  obtain ⟨i, j, rfl, rfl, q⟩ := h
  obtain ⟨t, rfl⟩ := rx
  obtain ⟨t', rfl⟩ := ry
  exact rule i j t t' s _ _ ⟨.bl (g i j), H, I, rfl, q⟩

def CDiv (i j : Int) : Prop := 0 < j ∧ j < 1073741824
def CPow (i j : Int) : Prop := 0 ≤ j ∧ j ≤ 1000000 ∧ i.natAbs < 2 ^ 64
def CMul (i j : Int) : Prop := (-(2 ^ 64) < i ∧ i < 2 ^ 64) ∨ (-(2 ^ 64) < j ∧ j < 2 ^ 64)
theorem CMul.ok {i j : Int} (h : CMul i j) : IntMulOk i j := by
  rcases h with ⟨h1, h2⟩ | ⟨h1, h2⟩
  · exact .of_left (intBits_le_64 h1 h2)
  · exact .of_right (intBits_le_64 h1 h2)

theorem op_add : OpR X (binaryOp .Add) (rI0 fun i j => .int (i + j)) := opI0 fun _ _ _ _ _ _ _ q => add_int q
theorem op_sub : OpR X (binaryOp .Sub) (rI0 fun i j => .int (i - j)) := opI0 fun _ _ _ _ _ _ _ q => sub_int q
/-- // by a positive divisor -/
theorem op_fdiv : OpR X (binaryOp .FloorDiv) (rI CDiv fun i j => .int (i / j)) := opI fun i j _ _ _ _ _ hc q => by
  have h1 : (0 : Int) < j := hc.1
  have h2 : j < 1073741824 := hc.2
  exact floordiv_int (by omega) (by rw [Int.fdiv_eq_ediv_of_nonneg i (by omega)]; exact q) (.inl (PyProof.noPylong_small (by omega)))
/-- % by a positive divisor of any size -/
theorem op_mod : OpR X (binaryOp .Mod) (rI (fun _ j => 0 < j) fun i j => .int (i % j)) := opI fun i j _ _ _ _ _ hc q => by
  have h1 : (0 : Int) < j := hc
  exact mod_int' (by omega) (by rw [Int.fmod_eq_emod_of_nonneg i (by omega)]; exact q)
theorem op_pow : OpR X (binaryOp .Pow) (rI CPow fun i j => .int (i ^ j.toNat)) := opI fun _ _ _ _ _ _ _ hc q => pow_int_small hc.1 hc.2.1 hc.2.2 q


theorem unI {f : Value → Sem Value} {g : Int → Int}
    (rule : ∀ (i : Int) (t : Tok) (s : Shared) (Q : Value → Shared → Prop) (E : Value → Shared → Prop), Q (.int (g i) s.toks) { s with toks := s.toks + 1 } → wpAny (model X.prog X.w) X.A (f (.int i t)) Q E s) :
    UnR X f (rU fun i => .int (g i)) := by
  intro pins s σ H x v Q I rx h
  obtain ⟨i, rfl, q⟩ := h
  obtain ⟨t, rfl⟩ := rx
  exact rule i t s _ _ ⟨.int (g i), H, I.tok _, ⟨_, rfl⟩, q⟩
theorem un_neg : UnR X (unaryOp .USub) (rU fun i => .int (-i)) := unI fun _ _ _ _ _ q => neg_int q

/-! ### bools among ints: n += (a < b) -/
end

/-! ### comparisons -/
/-- the scalars that == tells apart as data does -/
def scal : V → V → Bool
  | .non, .non => true | .non, .int _ => true | .int _, .non => true | .non, .bl _ => true | .bl _, .non => true | .non, .str _ => true | .str _, .non => true
  | .int _, .int _ => true | .bl _, .bl _ => true | .str _, .str _ => true | .byt _, .byt _ => true
  | .int _, .str _ => true | .str _, .int _ => true | .bl _, .str _ => true | .str _, .bl _ => true
  | _, _ => false
def rEq : R2 := fun x y H Q => scal x y = true ∧ Q (.bl (decide (x = y))) H
def rNe : R2 := fun x y H Q => scal x y = true ∧ Q (.bl (!decide (x = y))) H

theorem dec_int {i j : Int} : decide (V.int i = V.int j) = (i == j) := by
  rw [Bool.eq_iff_iff]
  simp
theorem dec_bl {i j : Bool} : decide (V.bl i = V.bl j) = (i == j) := by
  rw [Bool.eq_iff_iff]
  simp
theorem dec_str {i j : Str} : decide (V.str i = V.str j) = (i == j) := by
  rw [Bool.eq_iff_iff]
  simp
theorem dec_byt {i j : Array UInt8} : decide (V.byt i = V.byt j) = (i.toList == j.toList) := by
  rw [Bool.eq_iff_iff]
  cases i
  cases j
  simp

section
variable {X : Cx} {a b c : Expr} {ta tb tc : TE} {pos : Pos}
theorem fin_bl {pins : List (Addr × Obj)} {σ : St} {H : Hp} {s : Shared} {Q : VK} {k k' : Bool} (I : Inv X pins σ H s) (q : Q (.bl k) H) (e : k = k') : EP X pins σ Q (.bool k') s := by
  subst e
  exact ⟨.bl k, H, I, rfl, q⟩
theorem op_eq : OpR X (compareOp .Eq) rEq := by
  intro pins s σ H x y v u Q I rx ry h
  obtain ⟨hs, q⟩ := h
  cases x with
  | non =>
    cases rx
    cases y with
    | non => cases ry; exact PySem.EqNone.eq_none_none (fin_bl I q (by simp))
    | bl j => cases ry; exact PySem.EqNone.eq_none_bool (fin_bl I q (by simp))
    | int j => obtain ⟨t', rfl⟩ := ry; exact PySem.EqNone.eq_none_int (fin_bl I q (by simp))
    | str j => obtain ⟨t', rfl⟩ := ry; exact PySem.EqNone.eq_none_str (fin_bl I q (by simp))
    | _ => exact absurd (show false = true from hs) Bool.false_ne_true
  | bl i =>
    cases rx
    cases y with
    | non => cases ry; exact PySem.EqNone.eq_bool_none (fin_bl I q (by simp))
    | bl j => cases ry; exact eq_bool (fin_bl I q dec_bl)
    | str j => obtain ⟨t', rfl⟩ := ry; exact PySem.EqMixed.eq_bool_str (fin_bl I q (by simp))
    | _ => exact absurd (show false = true from hs) Bool.false_ne_true
  | int i =>
    obtain ⟨t, rfl⟩ := rx
    cases y with
    | non => cases ry; exact PySem.EqNone.eq_int_none (fin_bl I q (by simp))
    | int j => obtain ⟨t', rfl⟩ := ry; exact eq_int (fin_bl I q dec_int)
    | str j => obtain ⟨t', rfl⟩ := ry; exact PySem.EqMixed.eq_int_str (fin_bl I q (by simp))
    | _ => exact absurd (show false = true from hs) Bool.false_ne_true
  | str i =>
    obtain ⟨t, rfl⟩ := rx
    cases y with
    | non => cases ry; exact PySem.EqNone.eq_str_none (fin_bl I q (by simp))
    | bl j => cases ry; exact PySem.EqMixed.eq_str_bool (fin_bl I q (by simp))
    | int j => obtain ⟨t', rfl⟩ := ry; exact PySem.EqMixed.eq_str_int (fin_bl I q (by simp))
    | str j => obtain ⟨t', rfl⟩ := ry; exact eq_str (fin_bl I q dec_str)
    | _ => exact absurd (show false = true from hs) Bool.false_ne_true
  | byt i =>
    obtain ⟨t, rfl⟩ := rx
    cases y with
    | byt j => obtain ⟨t', rfl⟩ := ry; exact PySem.W.eq_bytes (fin_bl I q dec_byt)
    | _ => exact absurd (show false = true from hs) Bool.false_ne_true
  | _ => cases y <;> exact absurd (show false = true from hs) Bool.false_ne_true
theorem op_ne : OpR X (compareOp .NotEq) rNe := by
  intro pins s σ H x y v u Q I rx ry h
  obtain ⟨hs, q⟩ := h
  cases x with
  | non =>
    cases rx
    cases y with
    | non => cases ry; exact PySem.EqNone.ne_none_none (fin_bl I q (by simp))
    | bl j => cases ry; exact PySem.EqNone.ne_none_bool (fin_bl I q (by simp))
    | int j => obtain ⟨t', rfl⟩ := ry; exact PySem.EqNone.ne_none_int (fin_bl I q (by simp))
    | str j => obtain ⟨t', rfl⟩ := ry; exact PySem.EqNone.ne_none_str (fin_bl I q (by simp))
    | _ => exact absurd (show false = true from hs) Bool.false_ne_true
  | bl i =>
    cases rx
    cases y with
    | non => cases ry; exact PySem.EqNone.ne_bool_none (fin_bl I q (by simp))
    | bl j => cases ry; exact ne_bool (fin_bl I q (congrArg not dec_bl))
    | str j => obtain ⟨t', rfl⟩ := ry; exact PySem.EqMixed.ne_bool_str (fin_bl I q (by simp))
    | _ => exact absurd (show false = true from hs) Bool.false_ne_true
  | int i =>
    obtain ⟨t, rfl⟩ := rx
    cases y with
    | non => cases ry; exact PySem.EqNone.ne_int_none (fin_bl I q (by simp))
    | int j => obtain ⟨t', rfl⟩ := ry; exact ne_int (fin_bl I q (congrArg not dec_int))
    | str j => obtain ⟨t', rfl⟩ := ry; exact PySem.EqMixed.ne_int_str (fin_bl I q (by simp))
    | _ => exact absurd (show false = true from hs) Bool.false_ne_true
  | str i =>
    obtain ⟨t, rfl⟩ := rx
    cases y with
    | non => cases ry; exact PySem.EqNone.ne_str_none (fin_bl I q (by simp))
    | bl j => cases ry; exact PySem.EqMixed.ne_str_bool (fin_bl I q (by simp))
    | int j => obtain ⟨t', rfl⟩ := ry; exact PySem.EqMixed.ne_str_int (fin_bl I q (by simp))
    | str j => obtain ⟨t', rfl⟩ := ry; exact ne_str (fin_bl I q (congrArg not dec_str))
    | _ => exact absurd (show false = true from hs) Bool.false_ne_true
  | byt i =>
    obtain ⟨t, rfl⟩ := rx
    cases y with
    | byt j => obtain ⟨t', rfl⟩ := ry; exact PySem.W.ne_bytes (fin_bl I q (congrArg not dec_byt))
    | _ => exact absurd (show false = true from hs) Bool.false_ne_true
  | _ => cases y <;> exact absurd (show false = true from hs) Bool.false_ne_true

theorem op_lt : OpR X (compareOp .Lt) (rI0 fun i j => .bl (decide (i < j))) := opB0 fun _ _ _ _ _ _ _ q => lt_int q
theorem op_gt : OpR X (compareOp .Gt) (rI0 fun i j => .bl (decide (j < i))) := opB0 fun _ _ _ _ _ _ _ q => gt_int q
theorem op_ge : OpR X (compareOp .GtE) (rI0 fun i j => .bl (decide (j ≤ i))) := opB0 fun _ _ _ _ _ _ _ q => ge_int q

/-- is None, is not None: the right side a value none -/
theorem op_isN : OpR X (compareOp .Is) (fun x y H Q => y = .non ∧ Q (.bl (decide (x = .non))) H) := by
  intro pins s σ H x y v u Q I rx ry h
  obtain ⟨rfl, q⟩ := h
  cases ry
  refine is_none_gen (fin_bl I q ?_)
  cases x <;> first
    | (cases rx; rfl)
    | (obtain ⟨t, rfl⟩ := rx; rfl)

/-- is, is not of two objects that are tracked lists or instances -/
def isObj : HO → Bool
  | .lst _ => true
  | .ins _ _ _ => true
  | _ => false


theorem nomark (b : Expr) {op : CmpOp} (h : op ≠ .In := by decide) (h2 : op ≠ .NotIn := by decide) : behindInMarks op b = false := by
  have e1 : (op == CmpOp.In) = false := by cases op <;> first | rfl | exact absurd rfl h
  have e2 : (op == CmpOp.NotIn) = false := by cases op <;> first | rfl | exact absurd rfl h2
  cases b <;> simp [behindInMarks, e1, e2]
/-- a comparison as a value; hm: nomark b, or (for in, not in) by with_unfolding_all rfl -/
theorem pe_cmpR {op : CmpOp} {r : R2} (ho : OpR X (compareOp op) r) (ha : PE X a ta) (hb : PE X b tb) (hm : behindInMarks op b = false) : PE X (.Compare a [op] [b] pos) (tOp r ta tb) := by
  intro pins s σ H Q I h
  exact wpAny_Compare1 (binT ha hb I h fun v u s2 x y H2 I2 rx ry q => ho pins s2 σ H2 x y v u Q I2 rx ry q) hm
/-- a reading of a value as a test -/
def tTest (t : TE) : TT := fun σ H Q => t σ H fun x H' => ∃ k, x = .bl k ∧ Q k H'
theorem pt_cmpR {op : CmpOp} {r : R2} (ho : OpR X (compareOp op) r) (ha : PE X a ta) (hb : PE X b tb) (hm : behindInMarks op b = false) : PT X (.Compare a [op] [b] pos) (tTest (tOp r ta tb)) := by
  intro pins s σ H Q I h
  refine wpAny_isTrue_Compare1 (thn (ha pins s σ H _ I h) fun v s1 ⟨x, H1, I1, r1, q1⟩ => thn (hb pins s1 σ H1 _ I1 q1) fun u s2 ⟨y, H2, I2, r2, q2⟩ =>
    thn (ho pins s2 σ H2 x y v u _ I2 r1 r2 q2) fun c s3 ⟨z, H3, I3, r3, k, e, q3⟩ => ?_) hm
  subst e
  cases r3
  exact wpAny_truthy_bool ⟨H3, I3, q3⟩

/-! ### truth -/
/-- a value's truth by the abstract heap -/
def TruV (K : PySem.W.Frag) (x : V) (H : Hp) (k : Bool) : Prop :=
  match x with
  | .non => k = false
  | .bl b => k = b
  | .int i => k = (i != 0)
  | .str y => y.length ≤ sizeLine ∧ k = ((y.length : Int) != 0)
  | .byt y => y.size ≤ sizeLine ∧ k = ((y.size : Int) != 0)
  | .ref p => (∃ xs, SqL K H p xs ∧ k = !xs.isEmpty) ∨ (∃ xs, SqT K H p xs ∧ k = !xs.isEmpty) ∨ ∃ kvs, H p = some (.dK kvs) ∧ k = !kvs.isEmpty
  | _ => False
theorem isEmpty_kv {κ : Type} {kvs : List (κ × V)} {vs : List (κ × Value)} (r : KV kvs vs) : (!vs.isEmpty) = !kvs.isEmpty := by
  cases r <;> rfl
theorem isEmpty_of {xs : List V} {its : List Value} (r : Vals xs its) : (!its.toArray.isEmpty) = !xs.isEmpty := by
  cases r <;> simp
theorem line63 : (sizeLine : Nat) < 2 ^ 63 := by rw [sizeLine_eq]; decide
theorem tru_ok : TruR X (fun x H Q => ∃ k, TruV X.K x H k ∧ Q k H) := by
  intro pins s σ H x v Q I rx h
  obtain ⟨k, e, q⟩ := h
  have hl := line63
  have hs : sizeLine = 16777216 := sizeLine_eq
  cases x with
  | non =>
    cases rx
    have e' : k = false := e
    subst e'
    exact truthy_none ⟨H, I, q⟩
  | bl b =>
    cases rx
    have e' : k = b := e
    subst e'
    exact wpAny_truthy_bool ⟨H, I, q⟩
  | int i =>
    obtain ⟨t, rfl⟩ := rx
    have e' : k = (i != 0) := e
    subst e'
    exact PySem.P.truthy_int ⟨H, I, q⟩
  | str y =>
    obtain ⟨t, rfl⟩ := rx
    obtain ⟨hy, e'⟩ : y.length ≤ sizeLine ∧ k = ((y.length : Int) != 0) := e
    subst e'
    exact PySem.P.truthy_str (by omega) ⟨H, I.tok _, q⟩
  | byt y =>
    obtain ⟨t, rfl⟩ := rx
    obtain ⟨hy, e'⟩ : y.size ≤ sizeLine ∧ k = ((y.size : Int) != 0) := e
    subst e'
    exact PySem.W.truthy_bytes (by omega) ⟨H, I.tok _, q⟩
  | ref p =>
    cases rx
    have e' : (∃ xs, SqL X.K H p xs ∧ k = !xs.isEmpty) ∨ (∃ xs, SqT X.K H p xs ∧ k = !xs.isEmpty) ∨ ∃ kvs, H p = some (.dK kvs) ∧ k = !kvs.isEmpty := e
    rcases e' with ⟨xs, hx, e'⟩ | ⟨xs, hx, e'⟩ | ⟨kvs, hx, e'⟩
    · subst e'
      obtain ⟨its, r, pl, hz⟩ := I.list hx
      have hlen := r.length
      exact wpAny_truthy_list pl.isList (by simp only [List.size_toArray]; omega) ⟨H, I.tok _, by rw [isEmpty_of r]; exact q⟩
    · subst e'
      obtain ⟨its, r, pl, hz⟩ := I.tuple hx
      have hlen := r.length
      exact truthy_tuple pl (by simp only [List.size_toArray]; omega) ⟨H, I.tok _, by rw [isEmpty_of r]; exact q⟩
    · subst e'
      obtain ⟨hz, hS, vs, r, m⟩ : kvs.length ≤ sizeLine ∧ (p == sysModules) = false ∧ ∃ vs, KV kvs vs ∧ s.heap.DictOf (mixKind X.prog X.w) p vs := I.hok p _ hx
      have hlen : kvs.length = vs.length := Paired.length r
      exact wpAny_truthy_dict hS m (by omega) ⟨H, I.tok _, by rw [isEmpty_kv r]; exact q⟩
  | _ => exact (show False from e).elim
/-- any expression whose test is its value's truth (a name, a call, a subscript, a field ..: he by fun _ => rfl) -/
theorem pt_truth (ha : PE X a ta) (he : ∀ whole, isTrue a X.env whole = (do let v ← whole; standAt a.pos; holding [v] (truthy v))) :
    PT X a (fun σ H Q => ta σ H fun x H' => ∃ k, TruV X.K x H' k ∧ Q k H') := by
  intro pins s σ H Q I h
  exact isTrue_plain (thn (ha pins s σ H _ I h) fun v s1 ⟨x, H1, I1, r1, q1⟩ => tru_ok pins s1 σ H1 x v Q I1 r1 q1) (he _)

/-! ### strs and bytes -/


/-! ### scalar builtins, by CallR -/
theorem vals1 {x : V} {us : List Value} (r : Vals [x] us) : ∃ u, us = [u] ∧ RelV x u := by
  cases r with
  | cons r1 r2 => cases r2; exact ⟨_, rfl, r1⟩
theorem vals2 {x y : V} {us : List Value} (r : Vals [x, y] us) : ∃ u w', us = [u, w'] ∧ RelV x u ∧ RelV y w' := by
  cases r with
  | cons r1 r2 =>
    cases r2 with
    | cons r3 r4 => cases r4; exact ⟨_, _, rfl, r1, r3⟩
theorem call_max2 (hc : X.calm = true) : CallR X (.builtin "max") (fun xs H Q => ∃ i j, xs = [.int i, .int j] ∧ Q (.int (if j > i then j else i)) H) := by
  intro pins s σ H xs us Q I r h
  obtain ⟨i, j, rfl, q⟩ := h
  obtain ⟨u, w', rfl, ⟨t, rfl⟩, ⟨t', rfl⟩⟩ := vals2 r
  refine max_two_ints (I.ok.hd hc) fun h' tk k => ⟨_, H, I.kept k, ?_, q⟩
  by_cases hj : j > i
  · rw [if_pos hj, if_pos hj]; exact ⟨_, rfl⟩
  · rw [if_neg hj, if_neg hj]; exact ⟨_, rfl⟩
theorem call_min2 (hc : X.calm = true) : CallR X (.builtin "min") (fun xs H Q => ∃ i j, xs = [.int i, .int j] ∧ Q (.int (if j < i then j else i)) H) := by
  intro pins s σ H xs us Q I r h
  obtain ⟨i, j, rfl, q⟩ := h
  obtain ⟨u, w', rfl, ⟨t, rfl⟩, ⟨t', rfl⟩⟩ := vals2 r
  refine min_two_ints (I.ok.hd hc) fun h' tk k => ⟨_, H, I.kept k, ?_, q⟩
  by_cases hj : j < i
  · rw [if_pos hj, if_pos hj]; exact ⟨_, rfl⟩
  · rw [if_neg hj, if_neg hj]; exact ⟨_, rfl⟩
theorem call_int1 : CallR X (.type "int") (fun xs H Q => (∃ i, xs = [.int i] ∧ Q (.int i) H) ∨ ∃ k, xs = [.bl k] ∧ Q (.int (if k then 1 else 0)) H) := by
  intro pins s σ H xs us Q I r h
  rcases h with ⟨i, rfl, q⟩ | ⟨k, rfl, q⟩
  · obtain ⟨u, rfl, t, rfl⟩ := vals1 r
    exact call_int_int ⟨.int i, H, I, ⟨_, rfl⟩, q⟩
  · obtain ⟨u, rfl, r1⟩ := vals1 r
    cases r1
    exact call_int_bool ⟨.int (if k then 1 else 0), H, I.tok _, ⟨_, rfl⟩, q⟩
end
end L2

namespace L2
open PySem PySem.Spec PyProof.Rows

/-! ### an instance, its attributes a map -/
structure ObjM (h : Heap) (x dx C : Addr) (mA : Str → Option Value) : Prop where
  obj : h.get? x = some (PySem.W.instObj C dx)
  ns : h.Ns1 dx mA
  ne : dx ≠ x

theorem lookIn_ns {h : Heap} {dx : Addr} {mA : Str → Option Value} (n : h.Ns1 dx mA) : ∃ od, h.get? dx = some od ∧ ∀ name, PySem.W.lookIn name od = some (mA name) := by
  obtain ⟨o, es, ep, ho, hd, hk, _, hm⟩ := n
  refine ⟨o, ho, fun name => ?_⟩
  have e := hm name
  unfold nsFind findBy at e
  rw [← Array.find?_toList] at e
  unfold PySem.W.lookIn
  rw [hd]
  dsimp only
  split
  · rename_i y q
    rw [q] at e
    exact congrArg some e
  · rename_i q
    rw [q] at e
    have a : es.toList.any (·.refKey) = false := by
      rw [List.any_eq_false]
      intro y hy
      obtain ⟨z, t, hkey⟩ := hk y (Array.mem_toList_iff.mp hy)
      simp [DictEntry.refKey, hkey]
    have a' : ¬ es.toList.any (·.refKey) = true := by rw [a]; exact Bool.false_ne_true
    rw [if_neg a']
    exact congrArg some e

theorem ObjM.look {h : Heap} {x dx C : Addr} {mA : Str → Option Value} (I : ObjM h x dx C mA) : ∃ od, PySem.W.InstAt h x (PySem.W.instObj C dx) C (some od) ∧ ∀ name, PySem.W.lookIn name od = some (mA name) :=
  let ⟨od, ho, hl⟩ := lookIn_ns I.ns
  ⟨od, ⟨I.obj, rfl, rfl, ho⟩, hl⟩

section
variable {prog : Program} {w : World} {A : Around} {E : Value → Shared → Prop} {s : Shared} {K : PySem.W.Frag} {x dx C f : Addr} {mA : Str → Option Value} {name : Str} {v : Value}

theorem get_map {expr : Bool} {Q : Value → Shared → Prop} (X : K.In s.heap) (I : ObjM s.heap x dx C mA) (hg : PySem.W.plainGet K C name = true) (hh : PySem.W.hasDictIn K C = true)
    (ha : PySem.W.findIn K (.ref C) name = some none) (hv : mA name = some v) (hv' : PySem.W.handedIn v = true) (h : Q v { s with toks := s.toks + 1 }) :
    wpAny (model prog w) A (getAttr (.ref x) name expr) Q E s := by
  obtain ⟨od, J, hl⟩ := I.look
  exact PySem.W.get_value X J (PySem.W.plainGet_of hg).1 (PySem.W.findObj_own hh ha rfl (by rw [hl, hv])) hv' h


theorem get_meth {pl : Sem Bool} {Q : Value × List Value → Shared → Prop} (X : K.In s.heap) (I : ObjM s.heap x dx C mA) (hg : PySem.W.plainGet K C name = true)
    (hf : PySem.W.findIn K (.ref C) name = some (some (.ref f))) (ht : PySem.W.isFn K (.ref f) = true) (hv : mA name = none) (h : Q (.ref f, [.ref x]) s) :
    wpAny (model prog w) A (getMethod (.ref x) name pl) Q E s := by
  obtain ⟨od, J, hl⟩ := I.look
  exact PySem.W.method_fn X J (PySem.W.plainGet_of hg).1 (PySem.W.plainGet_of hg).2 hf (beq_iff_eq.mp ht) (by show (PySem.W.lookIn name od).map (·.isSome) = some false; rw [hl, hv]; rfl) h

theorem set_map {ns : List Str} {Q : Unit → Shared → Prop} (X : K.In s.heap) (I : ObjM s.heap x dx C mA)
    (hs : PySem.W.findIn K (.ref C) "__setattr__" = some (some (.builtin "object.__setattr__"))) (hp : PySem.W.plainOver K C = true) (ht : PySem.W.takerIn K C name = some none) (hh : PySem.W.hasDictIn K C = true)
    (hw : PySem.Within mA ns) (hsz : ns.length ≤ sizeLine)
    (h : ∀ h', ObjM h' x dx C (fun y => if y = name then some v else mA y) → Heap.SameBut dx s.heap h' → Q () { s with heap := h', toks := s.toks + 2 }) :
    wpAny (model prog w) A (setAttr (.ref x) name v) Q E s := by
  obtain ⟨od, J, hl⟩ := I.look
  refine PySem.W.set_plain X J hs (PySem.W.osa_open (s := { s with toks := s.toks + 1 }) (r := none) X J hp ht fun b => ?_)
  obtain ⟨cd, hc, hd'⟩ := PySem.W.any_some hh
  have hx : s.heap.get? x = some ⟨.ref C, some dx, .plain, #[]⟩ := I.obj
  refine wpAny_bind (wpAny_pure (wpAny_bind (wpAny_bind (wpAny_loadPart hx (wpAny_bind (PySem.W.Looks.here (s := { s with toks := s.toks + 1 }) (PySem.W.looks_clsIn X hc) ?_))))))
  rw [hd']
  refine wpAny_pure (a := some dx) (wpAny_bind (wpAny_pure (wpAny_bind ?_)))
  refine wpAny_nsSet1 (s := { s with toks := s.toks + 1 }) I.ns fun h' hn2 hs2 => ?_
  obtain ⟨oD, esD, epD, hoD, hdD, hcD⟩ := hn2.count (PySem.Within.cons name v hw)
  refine wpAny_bind (wpAny_lookBehind hoD (by rw [hdD]; exact pastItsLine_dict (Nat.le_trans hcD (by rw [List.length_cons]; omega))) ?_)
  exact wpAny_pure (h _ ⟨(hs2.2 _ (Ne.symm I.ne)).trans I.obj, hn2, I.ne⟩ hs2)

/-- C(..): the dict at the heap's end, the instance behind it; then its __init__ -/
theorem make_map {R : Result → Shared → Prop} {vs : List Value} {kw : List (Str × Value)} (X : K.In s.heap) (hm : PySem.W.makesIn K C = true)
    (hi : PySem.W.findIn K (.ref C) "__init__" = some (some (.ref f))) (hf : PySem.W.typeIn K (.ref f) = some (.type "function"))
    (h : codeAny (model prog w) (A.under (.builtin "type.__call__" ⟨.ref C :: vs, kw⟩)) (.call (.ref f) ⟨.ref (s.heap.objs.size + 1) :: vs, kw⟩) (PySem.W.InitBack (s.heap.objs.size + 1) R)
      { s with heap := (s.heap.push PySem.W.emptyDict).push (PySem.W.instObj C s.heap.objs.size) }) :
    codeAny (model prog w) A (.call (.ref C) ⟨vs, kw⟩) R s := by
  obtain ⟨hh, g, d, t, os⟩ := s
  exact PySem.W.make_core (PySem.W.makes_of X hm) (PySem.W.looks_findIn X hi) (fun self => PySem.W.bind_fn X self hf) (.inl rfl) h
end

/-! ### the attributes as a list of pairs -/
def putF (f : Str) (v : V) : List (Str × V) → List (Str × V)
  | [] => [(f, v)]
  | (g, x) :: r => if g = f then (g, v) :: r else (g, x) :: putF f v r
theorem lookup_putF (f g : Str) (v : V) : ∀ fs : List (Str × V), (putF f v fs).lookup g = if g = f then some v else fs.lookup g
  | [] => by
    show List.lookup g [(f, v)] = _
    by_cases h : g = f
    · have hb : (g == f) = true := beq_iff_eq.mpr h
      simp only [List.lookup, hb, if_pos h]
    · have hb : (g == f) = false := beq_eq_false_iff_ne.mpr h
      simp only [List.lookup, hb, if_neg h]
  | (k, x) :: r => by
    have ih := lookup_putF f g v r
    rw [show putF f v ((k, x) :: r) = (if k = f then (k, v) :: r else (k, x) :: putF f v r) from rfl]
    by_cases hk : k = f
    · rw [if_pos hk]
      by_cases h : g = k
      · have hb : (g == k) = true := beq_iff_eq.mpr h
        simp only [List.lookup, hb, if_pos (h.trans hk)]
      · have hb : (g == k) = false := beq_eq_false_iff_ne.mpr h
        simp only [List.lookup, hb, if_neg (fun e : g = f => h (e.trans hk.symm))]
    · rw [if_neg hk]
      by_cases h : g = k
      · have hb : (g == k) = true := beq_iff_eq.mpr h
        simp only [List.lookup, hb, if_neg (fun e : g = f => hk (h.symm.trans e))]
      · have hb : (g == k) = false := beq_eq_false_iff_ne.mpr h
        simp only [List.lookup, hb]
        exact ih
theorem keys_putF (f : Str) (v : V) : ∀ fs : List (Str × V), f ∈ (putF f v fs).map (·.1) ∧ ∀ g, g ∈ fs.map (·.1) → g ∈ (putF f v fs).map (·.1)
  | [] => ⟨by simp [putF], fun g h => by simp at h⟩
  | (k, x) :: r => by
    obtain ⟨i1, i2⟩ := keys_putF f v r
    rw [show putF f v ((k, x) :: r) = (if k = f then (k, v) :: r else (k, x) :: putF f v r) from rfl]
    by_cases hk : k = f
    · rw [if_pos hk]
      subst hk
      exact ⟨by simp, fun g h => by simpa using h⟩
    · rw [if_neg hk]
      refine ⟨?_, fun g h => ?_⟩
      · rw [List.map_cons]
        exact List.mem_cons_of_mem _ i1
      · rw [List.map_cons] at h ⊢
        rcases List.mem_cons.mp h with e | e
        · exact List.mem_cons.mpr (.inl e)
        · exact List.mem_cons_of_mem _ (i2 g e)
theorem length_putF (f : Str) (v : V) : ∀ fs : List (Str × V), (putF f v fs).length ≤ fs.length + 1
  | [] => by simp [putF]
  | (k, x) :: r => by
    have ih := length_putF f v r
    rw [show putF f v ((k, x) :: r) = (if k = f then (k, v) :: r else (k, x) :: putF f v r) from rfl]
    by_cases hk : k = f
    · rw [if_pos hk, List.length_cons, List.length_cons]; omega
    · rw [if_neg hk, List.length_cons, List.length_cons]; omega

theorem RelO.some_of {v : V} {o : Option Value} (r : RelO (some v) o) : ∃ u, o = some u ∧ RelV v u := by
  cases o with
  | none => exact (show False from r).elim
  | some u => exact ⟨u, rfl, r⟩
theorem RelO.none_of {o : Option Value} (r : RelO none o) : o = none := by
  cases o with
  | none => rfl
  | some u => exact (show False from r).elim
theorem handed_of {v : V} {u : Value} (r : RelV v u) : PySem.W.handedIn u = true := by
  cases v with
  | non => cases (show u = Value.none from r); rfl
  | bl b => cases (show u = Value.bool b from r); rfl
  | int i => obtain ⟨t, e⟩ := (show ∃ t, u = Value.int i t from r); cases e; rfl
  | str x => obtain ⟨t, e⟩ := (show ∃ t, u = Value.str x t from r); cases e; rfl
  | byt b => obtain ⟨t, e⟩ := (show ∃ t, u = Value.bytes b t from r); cases e; rfl
  | flt b => obtain ⟨t, e⟩ := (show ∃ t, u = Value.float b t from r); cases e; rfl
  | ref a => cases (show u = Value.ref a from r); rfl
  | ty n => cases (show u = Value.type n from r); rfl

section
variable {P : Program} {w : World} {H H' : Hp} {h h' : Heap} {a C dx : Addr} {fs fs' : List (Str × V)}
theorem ins_get (hok : HOk P w H h) (e : H a = some (.ins C dx fs)) : ∃ mA, ObjM h a dx C mA ∧ (∀ f, RelO (fs.lookup f) (mA f)) ∧ PySem.Within mA (fs.map (·.1)) ∧ fs.length ≤ 1000 ∧ H dx = some (.own a) := by
  obtain ⟨d, z, ne, ob, mA, n, r, q⟩ := (show ObjOk P w H h a (.ins C dx fs) from hok a _ e)
  exact ⟨mA, ⟨ob, n, ne⟩, r, q, z, d⟩
end

/-! ### what of the text a class must have -/
structure Cls (K : PySem.W.Frag) (C : Addr) : Prop where
  pg : PySem.W.plainGet K C Str.empty = true
  hd : PySem.W.hasDictIn K C = true
  po : PySem.W.plainOver K C = true
  sa : PySem.W.findIn K (.ref C) "__setattr__" = some (some (.builtin "object.__setattr__"))
theorem Cls.get {K : PySem.W.Frag} {C : Addr} (c : Cls K C) (f : Str) : PySem.W.plainGet K C f = true := c.pg
/-- no class of it has the name -/
def NoAttr (K : PySem.W.Frag) (C : Addr) (f : Str) : Prop := PySem.W.findIn K (.ref C) f = some none
theorem NoAttr.taker {K : PySem.W.Frag} {C : Addr} {f : Str} (n : NoAttr K C f) : PySem.W.takerIn K C f = some none := by
  unfold PySem.W.takerIn
  rw [show PySem.W.findIn K (.ref C) f = some none from n]
  rfl
/-- a method: a plain def of the class or of one above it -/
structure Meth (K : PySem.W.Frag) (C : Addr) (m : Str) (f : Addr) : Prop where
  at_ : PySem.W.findIn K (.ref C) m = some (some (.ref f))
  fn : PySem.W.isFn K (.ref f) = true
  kp : PySem.W.keepIn K (.ref f) = true

section
variable {X : Cx} {pins : List (Addr × Obj)} {σ : St} {H : Hp} {s : Shared} {a C dx : Addr} {fs : List (Str × V)} {f : Str} {v : V} {A : Around} {E : Value → Shared → Prop}

theorem getattr_ok {b : Bool} {Q : Value → Shared → Prop} (I : Inv X pins σ H s) (e : H a = some (.ins C dx fs)) (c : Cls X.K C) (n : NoAttr X.K C f) (l : fs.lookup f = some v)
    (h : ∀ u s', Inv X pins σ H s' → RelV v u → Q u s') : wpAny (model X.prog X.w) A (getAttr (.ref a) f b) Q E s := by
  obtain ⟨mA, O, r, _, _, _⟩ := ins_get I.hok e
  obtain ⟨u, hu, ru⟩ := RelO.some_of (v := v) (o := mA f) (by rw [← l]; exact r f)
  exact get_map I.kIn O (c.get f) c.hd n hu (handed_of ru) (h u _ (I.tok _) ru)


theorem getmeth_ok {m : Str} {g : Addr} {pl : Sem Bool} {Q : Value × List Value → Shared → Prop} (I : Inv X pins σ H s) (e : H a = some (.ins C dx fs)) (c : Cls X.K C) (k : Meth X.K C m g) (l : fs.lookup m = none)
    (h : Q (.ref g, [.ref a]) s) : wpAny (model X.prog X.w) A (getMethod (.ref a) m pl) Q E s := by
  obtain ⟨mA, O, r, _, _, _⟩ := ins_get I.hok e
  have hn : mA m = none := RelO.none_of (by rw [← l]; exact r m)
  exact get_meth I.kIn O (c.get m) k.at_ k.fn hn h

theorem setattr_ok {y : V} {u : Value} {Q : Unit → Shared → Prop} (I : Inv X pins σ H s) (e : H a = some (.ins C dx fs)) (c : Cls X.K C) (n : NoAttr X.K C f) (hl : fs.length < 1000) (ry : RelV y u)
    (h : ∀ s', Inv X pins σ (upd H a (.ins C dx (putF f y fs))) s' → Q () s') : wpAny (model X.prog X.w) A (setAttr (.ref a) f u) Q E s := by
  obtain ⟨mA, O, r, wi, _, ho⟩ := ins_get I.hok e
  have hz : (fs.map (·.1)).length ≤ sizeLine := by rw [List.length_map, sizeLine_eq]; omega
  refine set_map I.kIn O c.sa c.po n.taker c.hd wi hz fun h' O' sb => h _ ?_
  have hd : ∃ o, h'.get? dx = some o := let ⟨o, _, _, e', _⟩ := O'.ns; ⟨o, e'⟩
  refine I.write (x := a) (e := dx) (by rw [e]; exact True.intro) (.inr ho) (fun b q hb z => (sb.2 b hb).trans z) hd ?_
  refine ⟨by rw [upd_ne O.ne]; exact ho, ?_, O.ne, O'.obj, _, O'.ns, fun g => ?_, fun g hg => ?_⟩
  · have := length_putF f y fs; omega
  · show RelO ((putF f y fs).lookup g) (if g = f then some u else mA g)
    rw [lookup_putF]
    by_cases q : g = f
    · rw [if_pos q, if_pos q]; exact ry
    · rw [if_neg q, if_neg q]; exact r g
  · by_cases q : g = f
    · rw [q]; exact (keys_putF f y fs).1
    · refine (keys_putF f y fs).2 g (wi g fun z => hg ?_)
      show (if g = f then some u else mA g) = none
      rw [if_neg q]; exact z

/-- a new instance, tracked, without attributes -/
theorem Inv.made (I : Inv X pins σ H s) : Inv X pins σ (upd (upd H s.heap.objs.size (.own (s.heap.objs.size + 1))) (s.heap.objs.size + 1) (.ins C s.heap.objs.size []))
    { s with heap := (s.heap.push PySem.W.emptyDict).push (PySem.W.instObj C s.heap.objs.size) } := by
  have e1 : (s.heap.push PySem.W.emptyDict).get? s.heap.objs.size = some PySem.W.emptyDict := Heap.get?_push_size s.heap rfl
  have e2 : ((s.heap.push PySem.W.emptyDict).push (PySem.W.instObj C s.heap.objs.size)).get? (s.heap.objs.size + 1) = some (PySem.W.instObj C s.heap.objs.size) := by
    have := Heap.get?_push_size (s.heap.push PySem.W.emptyDict) (o := PySem.W.instObj C s.heap.objs.size) rfl
    rwa [Heap.size_push] at this
  have e3 : (s.heap.push PySem.W.emptyDict).Ns s.heap.objs.size (fun _ => none) := ⟨PySem.W.emptyDict, #[], _, e1, rfl, (fun e he => absurd he (by simp)), fun _ => rfl⟩
  have I1 := I.laid (a := s.heap.objs.size) (o := .own (s.heap.objs.size + 1)) (h' := s.heap.push PySem.W.emptyDict) (t' := s.toks) (fun b u q => Heap.get?_push_of_some _ q) (Nat.le_refl _) ⟨_, e1⟩
  refine I1.laid (a := s.heap.objs.size + 1) (o := .ins C s.heap.objs.size []) (t' := s.toks) (fun b u q => Heap.get?_push_of_some _ q) (Nat.le_of_eq (Heap.size_push _ _)) ?_
  have ne : s.heap.objs.size ≠ s.heap.objs.size + 1 := Nat.ne_of_lt (Nat.lt_succ_self _)
  refine ⟨by rw [upd_ne ne, upd_same], Nat.zero_le _, ne, e2, fun _ => none, (Heap.Ns1.of_empty e3).at fun o q => Heap.get?_push_of_some _ q, fun _ => True.intro, fun y hy => absurd rfl hy⟩

/-- e.f where nothing but the object is asked: through attributeBase (super) and the last hold -/
theorem attr_of {prog : Program} {w : World} {env : Env} {e : Expr} {f : Str} {pos : Pos} {s : Shared} {Q : Value → Shared → Prop} (hb : attributeBase e f env (eval e env) = eval e env)
    (h : wpAny (model prog w) A (eval e env) (fun o s₁ => wpAny (model prog w) A (getAttr o f true) Q E s₁) E s) : wpAny (model prog w) A (eval (.Attribute e f pos) env) Q E s :=
  Attribute_any_ h (by rw [arm_eval_Attribute, hb])
end

/-! ### readings and rules -/
/-- e.f, an attribute of the instance -/
def tFld (K : PySem.W.Frag) (ta : TE) (f : Str) : TE := fun σ H Q => ta σ H fun x H1 => ∃ a C dx fs v, x = .ref a ∧ H1 a = some (.ins C dx fs) ∧ Cls K C ∧ NoAttr K C f ∧ fs.lookup f = some v ∧ Q v H1
/-- e.f = value -/
def sFld (K : PySem.W.Frag) (ta tv : TE) (f : Str) : TS := fun D σ H => tv σ H fun y H1 => ta σ H1 fun x H2 => ∃ a C dx fs, x = .ref a ∧ H2 a = some (.ins C dx fs) ∧ Cls K C ∧ NoAttr K C f ∧ fs.length < 1000 ∧
  D.nx σ (upd H2 a (.ins C dx (putF f y fs)))
/-- an augmented operator on two values -/
def InOp (X : Cx) (op : Operator) (rd : V → V → Hp → VK → Prop) : Prop :=
  ∀ (pins : List (Addr × Obj)) (s : Shared) (σ : St) (H : Hp) (x y : V) (u v : Value) (Q : VK), Inv X pins σ H s → RelV x u → RelV y v → rd x y H Q → wpAny (model X.prog X.w) X.A (inplaceOp op u v) (EP X pins σ Q) X.xe s
/-- e.f op= value -/
def sFldAug (K : PySem.W.Frag) (ta tv : TE) (rd : V → V → Hp → VK → Prop) (f : Str) : TS := fun D σ H => ta σ H fun x H1 => ∃ a C dx fs v, x = .ref a ∧ H1 a = some (.ins C dx fs) ∧ Cls K C ∧ NoAttr K C f ∧ fs.lookup f = some v ∧
  tv σ H1 fun y H2 => rd v y H2 fun z H3 => ∃ dx' fs', H3 a = some (.ins C dx' fs') ∧ fs'.length < 1000 ∧ D.nx σ (upd H3 a (.ins C dx' (putF f z fs')))

section
variable {X : Cx} {o e value : Expr} {f : Str} {pos pos' tpos : Pos} {ta tv : TE}
theorem pe_fld (he : PE X e ta) (hb : attributeBase e f X.env (eval e X.env) = eval e X.env) : PE X (.Attribute e f pos) (tFld X.K ta f) := by
  intro pins s σ H Q I h
  refine attr_of hb (thn (he pins s σ H _ I h) fun u s1 ⟨x, H1, I1, rx, a, C, dx, fs, v, ex, ea, c, n, l, q⟩ => ?_)
  subst ex
  obtain rfl : u = Value.ref a := rx
  exact getattr_ok I1 ea c n l fun u' s2 I2 ru => ⟨v, H1, I2, ru, q⟩
theorem ps_fld (ha : PE X o ta) (hv : PE X value tv) (hs : swapsWith value (some (.Attribute o f pos')) pos.line X.env = pure false) : PS X (.Assign [.Attribute o f pos'] value pos) (sFld X.K ta tv f) := by
  intro pins s σ H D I h
  refine plainObj_wpAny_Assign_Attribute (thn (hv pins s σ H _ I h) fun u s1 ⟨y, H1, I1, ry, q⟩ => thn (ha pins s1 σ H1 _ I1 q) fun ov s2 ⟨x, H2, I2, rx, a, C, dx, fs, ex, ea, c, n, l, q2⟩ => ?_) hs
  subst ex
  obtain rfl : ov = Value.ref a := rx
  exact setattr_ok I2 ea c n l ry fun s3 I3 => ⟨σ, _, I3, q2⟩
theorem ps_fldaug {op : Operator} {rd : V → V → Hp → VK → Prop} (ha : PE X o ta) (hv : PE X value tv) (hop : InOp X op rd) : PS X (.AugAssign (.Attribute o f tpos) op value pos) (sFldAug X.K ta tv rd f) := by
  intro pins s σ H D I h
  refine wpAny_AugAssign_AttributeAny (thn (ha pins s σ H _ I h) fun ov s1 ⟨x, H1, I1, rx, a, C, dx, fs, v, ex, ea, c, n, l, q⟩ => ?_)
  subst ex
  obtain rfl : ov = Value.ref a := rx
  refine getattr_ok I1 ea c n l fun u s2 I2 ru => thn (hv pins s2 σ H1 _ I2 q) fun w3 s3 ⟨y, H2, I3, ry, q3⟩ => thn (hop pins s3 σ H2 v y u w3 _ I3 ru ry q3) fun w4 s4 ⟨z, H3, I4, rz, dx', fs', ea', l', q4⟩ => ?_
  exact setattr_ok I4 ea' c n l' rz fun s5 I5 => ⟨σ, _, I5, q4⟩
def rAdd : V → V → Hp → VK → Prop := fun x y H Q => ∃ i j, x = .int i ∧ y = .int j ∧ Q (.int (i + j)) H
def rSub : V → V → Hp → VK → Prop := fun x y H Q => ∃ i j, x = .int i ∧ y = .int j ∧ Q (.int (i - j)) H
theorem in_add : InOp X .Add rAdd := by
  rintro pins s σ H x y u v Q I rx ry ⟨i, j, rfl, rfl, q⟩
  obtain ⟨t, rfl⟩ := (show ∃ t, u = Value.int i t from rx)
  obtain ⟨t', rfl⟩ := (show ∃ t', v = Value.int j t' from ry)
  exact PyProof.Rows.iadd_int ⟨.int (i + j), H, I.tok _, ⟨_, rfl⟩, q⟩
theorem in_sub : InOp X .Sub rSub := by
  rintro pins s σ H x y u v Q I rx ry ⟨i, j, rfl, rfl, q⟩
  obtain ⟨t, rfl⟩ := (show ∃ t, u = Value.int i t from rx)
  obtain ⟨t', rfl⟩ := (show ∃ t', v = Value.int j t' from ry)
  exact PyProof.Rows.isub_int ⟨.int (i - j), H, I.tok _, ⟨_, rfl⟩, q⟩

/-- what is between an instance and its method: the tree of a method call -/
theorem methcall_of {pl : Sem Bool} {m : Str} {apos : Pos} {args : List Expr} {pins : List (Addr × Obj)} {s : Shared} {σ : St} {H : Hp} {Q : Value → Shared → Prop} {te : TE} (he : PE X e te) (I : Inv X pins σ H s)
    (h : te σ H fun x H1 => ∃ a C dx fs g, x = .ref a ∧ H1 a = some (.ins C dx fs) ∧ Cls X.K C ∧ Meth X.K C m g ∧ fs.lookup m = none ∧
      ∀ s1, Inv X pins σ H1 s1 → wpAny (model X.prog X.w) X.A (callWith pos (.ref g) [.ref a] (backTo pos (starEach args X.env)) (backToKw pos (keywordEach [] X.env))) Q X.xe s1)
    (ht : eval (.Call (.Attribute e m apos) args [] pos) X.env = (do
      let ov ← eval e X.env
      standAt apos.atName
      let (f, first) ← holding [ov] (getMethod ov m pl)
      callWith pos f first (backTo pos (starEach args X.env)) (backToKw pos (keywordEach [] X.env)))) :
    wpAny (model X.prog X.w) X.A (eval (.Call (.Attribute e m apos) args [] pos) X.env) Q X.xe s := by
  refine PySem.W.methodCall_KW (pl := pl) (thn (he pins s σ H _ I h) fun u s1 ⟨x, H1, I1, rx, a, C, dx, fs, g, ex, ea, c, k, l, q⟩ => ?_) ht
  subst ex
  obtain rfl : u = Value.ref a := rx
  exact getmeth_ok I1 ea c k l (q s1 I1)
end

/-! ### isinstance -/
section
variable {X : Cx} {pins : List (Addr × Obj)} {σ : St} {H : Hp} {s : Shared} {A : Around} {E : Value → Shared → Prop} {Q : Value → Shared → Prop} {c : Value} {b : Bool}
/-- the type of a value, as the fragment's deciders take it; for an instance its class -/
inductive TyOf (K : PySem.W.Frag) (H : Hp) : V → Value → Prop where
  | non : TyOf K H .non (.type "NoneType")
  | bl (x : Bool) : TyOf K H (.bl x) (.type "bool")
  | int (i : Int) : TyOf K H (.int i) (.type "int")
  | str (x : Str) : TyOf K H (.str x) (.type "str")
  | flt (x : UInt64) : TyOf K H (.flt x) (.type "float")
  | lst {a : Addr} {xs : List V} (e : H a = some (.lst xs)) : TyOf K H (.ref a) (.type "list")
  | frz {a : Addr} {o : Obj} {xs : List V} (e : H a = some (.frz o (.lst xs))) : TyOf K H (.ref a) (.type "list")
  | tup {a : Addr} {xs : List V} (e : H a = some (.tup xs)) : TyOf K H (.ref a) (.type "tuple")
  | dK {a : Addr} {kvs : List (Key × V)} (e : H a = some (.dK kvs)) : TyOf K H (.ref a) (.type "dict")
  | dT {a : Addr} {kvs : List (List Key × V)} (e : H a = some (.dT kvs)) : TyOf K H (.ref a) (.type "dict")
  | ins {a C dx : Addr} {fs : List (Str × V)} (e : H a = some (.ins C dx fs)) (cl : Cls K C) (ha : PySem.W.findIn K (.ref C) "__class__" = some (some (.builtin "object.__class__")))
      (hn : PySem.W.specialIn K (.builtin "object.__class__") "__get__" = some (some (.builtin "getset_descriptor.__get__"))) (htk : PySem.W.takesIn K (.builtin "object.__class__") = some true)
      (hm : PySem.W.mroIn K C (.type "object") = some true) : TyOf K H (.ref a) (.ref C)
/-- isinstance(x, c) for one class c, a built-in or an own one: kitOne's answer -/
theorem isinst_ok {x : V} {u t : Value} (I : Inv X pins σ H s) (rx : RelV x u) (ty : TyOf X.K H x t) (e : PySem.W.kitOne X.K t c = some b) (h : ∀ tk, Q (.bool b) { s with toks := tk }) :
    wpAny (model X.prog X.w) A (call (.builtin "isinstance") [u, c]) Q E s := by
  cases ty with
  | non => cases (show u = Value.none from rx); exact PySem.W.kia_one PySem.W.kitx_none I.kIn True.intro e (fun z => nomatch z) h
  | bl y => cases (show u = Value.bool y from rx); exact PySem.W.kia_one PySem.W.kitx_bool I.kIn True.intro e (fun z => nomatch z) h
  | int i => obtain ⟨t, q⟩ := (show ∃ t, u = Value.int i t from rx); cases q; exact PySem.W.kia_one PySem.W.kitx_int I.kIn True.intro e (fun z => nomatch z) h
  | str y => obtain ⟨t, q⟩ := (show ∃ t, u = Value.str y t from rx); cases q; exact PySem.W.kia_one PySem.W.kitx_str I.kIn True.intro e (fun z => nomatch z) h
  | flt y => obtain ⟨t, q⟩ := (show ∃ t, u = Value.float y t from rx); cases q; exact PySem.W.kia_one PySem.W.kitx_float I.kIn True.intro e (fun z => nomatch z) h
  | @lst a xs ea =>
    cases (show u = Value.ref a from rx)
    obtain ⟨_, _, n, _, h1⟩ := (show ObjOk X.prog X.w H s.heap a (.lst xs) from I.hok a _ ea)
    exact PySem.W.kia_one PySem.W.kitx_list I.kIn ⟨_, h1, rfl⟩ e (fun z => nomatch z) h
  | @frz a ob xs ea =>
    cases (show u = Value.ref a from rx)
    obtain ⟨_, _, _, n, _, h1⟩ := (show ObjOk X.prog X.w H s.heap a (.frz ob (.lst xs)) from I.hok a _ ea)
    exact PySem.W.kia_one PySem.W.kitx_list I.kIn ⟨_, h1, rfl⟩ e (fun z => nomatch z) h
  | @tup a xs ea =>
    cases (show u = Value.ref a from rx)
    obtain ⟨_, _, _, p⟩ := (show ObjOk X.prog X.w H s.heap a (.tup xs) from I.hok a _ ea)
    obtain ⟨o, h1, h2, _⟩ := p
    exact PySem.W.kia_one PySem.W.kitx_tuple I.kIn ⟨o, h1, h2⟩ e (fun z => nomatch z) h
  | @dK a kvs ea =>
    cases (show u = Value.ref a from rx)
    obtain ⟨_, _, vs, _, p⟩ := (show ObjOk X.prog X.w H s.heap a (.dK kvs) from I.hok a _ ea)
    obtain ⟨o, es, ep, h1, h2, _⟩ := p
    exact PySem.W.kia_one PySem.W.kitx_dict I.kIn ⟨o, h1, h2.1⟩ e (fun z => nomatch z) h
  | @dT a kvs ea =>
    cases (show u = Value.ref a from rx)
    obtain ⟨_, _, xs, _, o, es, ep, h1, h2, _⟩ := (show ObjOk X.prog X.w H s.heap a (.dT kvs) from I.hok a _ ea)
    exact PySem.W.kia_one PySem.W.kitx_dict I.kIn ⟨o, h1, h2.1⟩ e (fun z => nomatch z) h
  | @ins a C dx fs ea cl ha hn htk hm =>
    cases (show u = Value.ref a from rx)
    obtain ⟨mA, O, _⟩ := ins_get I.hok ea
    obtain ⟨od, J, _⟩ := O.look
    exact PySem.W.kia_one (PySem.W.kitx_own (cl.get _) cl.hd ha hn htk hm) I.kIn J e (fun z => nomatch z) h
end
end L2

namespace L2
open PySem PySem.Spec PyProof.Rows

/-! ### room -/
structure Room (k : Nat) (A : Around) : Prop where
  hd : A.handled = none
  dp : A.depth + 3 * k + 5 < recursionLimit
  un : A.units + 16 * k + 200 < cLine
theorem Room.mono {j k : Nat} {A : Around} (r : Room k A) (h : j ≤ k) : Room j A := ⟨r.hd, by have := r.dp; omega, by have := r.un; omega⟩
theorem Room.deeper {k : Nat} {A : Around} (r : Room (k + 1) A) (env : Env) : Room k (A.deeper env) :=
  ⟨r.hd, by have := r.dp; show A.depth + 1 + 3 * k + 5 < _; omega, by have := r.un; show A.units + 3 + 16 * k + 200 < _; omega⟩
theorem make_depth {A : Around} {C : Addr} {us : List Value} {kw : List (Str × Value)} : (A.under (.builtin "type.__call__" ⟨.ref C :: us, kw⟩)).depth = A.depth + 1 := by
  first | rfl | simp [Around.under, Code.weight, Code.isCreation, Code.isGuard, Code.isCaller, Code.frames, Code.isFrame, guardIds]
theorem make_units {A : Around} {C : Addr} {us : List Value} {kw : List (Str × Value)} : (A.under (.builtin "type.__call__" ⟨.ref C :: us, kw⟩)).units = A.units + 1 := by
  first | rfl | simp [Around.under, Code.cUnits, Code.frames, Code.isFrame]
theorem Room.make {k : Nat} {A : Around} (r : Room (k + 1) A) (C : Addr) (us : List Value) (kw : List (Str × Value)) : Room k (A.under (.builtin "type.__call__" ⟨.ref C :: us, kw⟩)) :=
  ⟨r.hd, by have := r.dp; rw [make_depth]; omega, by have := r.un; rw [make_units]; omega⟩
theorem Room.depth {k : Nat} {A : Around} (r : Room k A) : A.depth < recursionLimit := by have := r.dp; omega
theorem Room.units0 {k : Nat} {A : Around} (r : Room k A) : A.units < cLine := by have := r.un; omega

/-! ### argument lists and displays -/
def tNil : TA := fun _ H Q => Q [] H
def tCons (ta : TE) (tr : TA) : TA := fun σ H Q => ta σ H fun x H1 => tr σ H1 fun xs H2 => Q (x :: xs) H2
section
variable {X : Cx} {e : Expr} {es : List Expr} {te : TE} {t : TA} {pos : Pos}
theorem pa_nil : PA X [] tNil := fun _ _ _ _ H Q I h => Calls.spliced_nil ⟨[], H, I, .nil, h⟩
theorem pa_cons (ha : PE X e te) (hr : PA X es t) (hs : starEach (e :: es) X.env = (false, eval e X.env) :: starEach es X.env := by rfl) : PA X (e :: es) (tCons te t) := by
  intro pos pins s σ H Q I h
  rw [hs]
  show wpAny _ _ (spliced ((false, eval e X.env) :: backTo pos (starEach es X.env))) _ _ s
  refine Calls.spliced_cons (thn (ha pins s σ H _ I h) fun u s1 ⟨x, H1, I1, r1, q1⟩ => ?_)
  exact thn (hr pos pins s1 σ H1 _ I1 q1) fun us s2 ⟨xs, H2, I2, r2, q2⟩ => ⟨x :: xs, H2, I2, .cons r1 r2, q2⟩

/-- a tuple, a list of written items -/
def tTup (t : TA) : TE := fun σ H Q => t σ H fun xs H1 => xs.length ≤ sizeLine ∧ ∀ p, H1 p = none → Q (.ref p) (upd H1 p (.tup xs))
def tLst (t : TA) : TE := fun σ H Q => t σ H fun xs H1 => xs.length ≤ sizeLine ∧ ∀ p, H1 p = none → Q (.ref p) (upd H1 p (.lst xs))
theorem pe_tup {x1} (h : PA X es t) : PE X (.Tuple es x1 pos) (tTup t) := by
  intro pins s σ H Q I hq
  refine wpAny_Tuple_spliced (thn (h pos pins s σ H _ I hq) fun us s1 ⟨xs, H1, I1, r, z, q⟩ => ⟨by rw [← r.length]; exact z, ?_⟩)
  have hf : H1 s1.heap.objs.size = none := I1.hok.fresh (Nat.le_refl _)
  refine ⟨.ref s1.heap.objs.size, upd H1 s1.heap.objs.size (.tup xs), I1.laid (t' := s1.toks) (fun b u e => Heap.get?_push_of_some _ e) (Nat.le_refl _) ?_, rfl, q _ hf⟩
  exact ⟨z, us, r, ⟨_, Heap.get?_push_size _ rfl, rfl, _, rfl⟩⟩
theorem pe_lst (h : PA X es t) : PE X (.List es pos) (tLst t) := by
  intro pins s σ H Q I hq
  refine wpAny_List_spliced (thn (h pos pins s σ H _ I hq) fun us s1 ⟨xs, H1, I1, r, z, q⟩ => ⟨by rw [← r.length]; exact z, ?_⟩)
  have hf : H1 s1.heap.objs.size = none := I1.hok.fresh (Nat.le_refl _)
  refine ⟨.ref s1.heap.objs.size, upd H1 s1.heap.objs.size (.lst xs), I1.laid (t' := s1.toks) (fun b u e => Heap.get?_push_of_some _ e) (Nat.le_refl _) ?_, rfl, q _ hf⟩
  exact ⟨z, us, 0, r, Heap.get?_push_size _ rfl⟩
end

/-! ### what a def promises -/
/-- a def's promise: the bound arguments in the parameters' order, the heap, the wanted end, the wanted exception -/
abbrev Sp := List V → Hp → VK → XK → Prop
/-- how an exception lies behind a call (file 08 gives it): the callers' frames, abstract heap and state ahead of the call, the wish, the exception, the state -/
abbrev CXT := List Env → Hp → Shared → XK → Value → Shared → Prop

/-- the state at a call -/
structure Env0 (P : Program) (w : World) (K : PySem.W.Frag) (mg : Str → Option Value) (base : Heap) (A : Around) (outer : List Env) (s : Shared) (H : Hp) : Prop where
  frames : A.frames = some outer
  mod : Mod K mg base
  bs : ∀ b o, base.get? b = some o → s.heap.get? b = some o ∧ H b = none
  bsz : base.objs.size ≤ s.heap.objs.size
  funs : s.heap.FunFrames base outer
  frf : ∀ b ∈ frs outer, H b = none
  hok : HOk P w H s.heap
  bare : AllBare s.gens
/-- a call's end -/
def CE (outer : List Env) (P : Program) (w : World) (H : Hp) (s : Shared) (Q : VK) (u : Value) (s' : Shared) : Prop :=
  ∃ v H', s'.os = s.os ∧ AllBare s'.gens ∧ Un (frs outer) [] H H' s.heap s'.heap ∧ HOk P w H' s'.heap ∧ RelV v u ∧ Q v H'
def CR (CX : CXT) (outer : List Env) (P : Program) (w : World) (H : Hp) (s : Shared) (Q : VK) (E : XK) (r : Result) (s' : Shared) : Prop :=
  match r with
  | .ok (.ret u) => CE outer P w H s Q u s'
  | .ok _ => False
  | .error e => CX outer H s E e s'
structure FnOk (P : Program) (w : World) (K : PySem.W.Frag) (mg : Str → Option Value) (base : Heap) (CX : CXT) (k : Nat) (f : Addr) (fd : FuncData) (ps : List Str) (sp : Sp) : Prop where
  len : ∀ vs H Q E, sp vs H Q E → vs.length = ps.length
  run : ∀ (A : Around) (outer : List Env) (s : Shared) (H : Hp) (args : Args) (us : List Value) (vs : List V) (Q : VK) (E : XK), Room k A → Env0 P w K mg base A outer s H → BindsTo s fd args (ps.zip us) → Vals vs us → sp vs H Q E →
    codeAny (model P w) A (.call (.ref f) args) (CR CX outer P w H s Q E) s
theorem FnOk.mono {P : Program} {w : World} {K : PySem.W.Frag} {mg : Str → Option Value} {base : Heap} {CX : CXT} {j k : Nat} {f : Addr} {fd : FuncData} {ps : List Str} {sp : Sp} (F : FnOk P w K mg base CX j f fd ps sp) (h : j ≤ k) :
    FnOk P w K mg base CX k f fd ps sp := ⟨F.len, fun A outer s H args us vs Q E hr => F.run A outer s H args us vs Q E (hr.mono h)⟩

theorem Env0.make {P : Program} {w : World} {K : PySem.W.Frag} {mg : Str → Option Value} {base : Heap} {A : Around} {outer : List Env} {s : Shared} {H : Hp} (e : Env0 P w K mg base A outer s H) (C : Addr) (us : List Value) (kw : List (Str × Value)) :
    Env0 P w K mg base (A.under (.builtin "type.__call__" ⟨.ref C :: us, kw⟩)) outer s H := ⟨by first | exact e.frames | (simpa [Around.under, Code.envs, Code.isFrame, pushEnvs] using e.frames), e.mod, e.bs, e.bsz, e.funs, e.frf, e.hok, e.bare⟩

section
variable {X : Cx} {pins : List (Addr × Obj)} {σ : St} {H : Hp} {s s' : Shared}
/-- from a body: what a callee wants -/
theorem Inv.env0 (I : Inv X pins σ H s) : Env0 X.prog X.w X.K X.mg X.base X.A X.stack s H :=
  ⟨I.ok.frames, I.ok.mod, I.bs, Nat.le_trans I.ok.bsz I.sz, I.stack, I.stkFree, I.hok, I.bare⟩
/-- behind a call -/
theorem Inv.after {Q : VK} {u : Value} (I : Inv X pins σ H s) (h : CE X.stack X.prog X.w H s Q u s') : EP X pins σ Q u s' := by
  obtain ⟨v, H', os, bare, un, hok, r, q⟩ := h
  obtain ⟨hh, g, d, t, os'⟩ := s'
  obtain rfl : os' = s.os := os
  exact ⟨v, H', I.call (h' := hh) (g' := g) (d' := d) (t' := t) (ch := []) un hok bare (fun b z => absurd z (by simp)), r, q⟩
end

/-! ### calls -/
/-- f(..): the written arguments, then the defaults dvs; E: what is wanted of an exception -/
def tCall (sp : Sp) (dvs : List V) (E : XK) (t : TA) : TE := fun σ H Q => t σ H fun vs H1 => sp (vs ++ dvs) H1 Q E
/-- o.m(..) of an instance of the class at C -/
def tMeth (C : Addr) (m : Str) (sp : Sp) (dvs : List V) (E : XK) (ta : TE) (t : TA) : TE := fun σ H Q => ta σ H fun x H1 => ∃ a dx fs, x = .ref a ∧ H1 a = some (.ins C dx fs) ∧ fs.lookup m = none ∧
  t σ H1 fun vs H2 => sp (x :: (vs ++ dvs)) H2 Q E
/-- C(..): a new instance and its dict, then __init__ -/
def tMake (C : Addr) (sp : Sp) (dvs : List V) (E : XK) (t : TA) : TE := fun σ H Q => t σ H fun vs H1 => ∀ x dx, H1 x = none → H1 dx = none → dx ≠ x →
  sp (.ref x :: (vs ++ dvs)) (upd (upd H1 dx (.own x)) x (.ins C dx [])) (fun v H2 => v = .non ∧ Q (.ref x) H2) E

/-- how the parameters are bound: us the positional arguments, kw the keywords' values by name, ds the defaults that fill up -/
def Binds (K : PySem.W.Frag) (fd : FuncData) (ps : List Str) (ds : List Value) : Prop :=
  ∀ (s : Shared) (us : List Value), K.In s.heap → (us ++ ds).length = ps.length → BindsTo s fd ⟨us, []⟩ (ps.zip (us ++ ds))
/-- every parameter is given -/
theorem Binds.all {K : PySem.W.Frag} {fd : FuncData} {ps : List Str} (h : ∀ us : List Value, us.length = ps.length → bindArgs fd ⟨us, []⟩ = pure (ps.zip us)) : Binds K fd ps [] := fun s us _ hl => by
  rw [List.append_nil] at hl ⊢
  exact .of_eq (h us hl)

/-- an exception of a callee reaches what this body wants of exceptions -/
def Passes (CX : CXT) (X : Cx) (E : XK) : Prop := ∀ (pins : List (Addr × Obj)) (σ : St) (H : Hp) (s : Shared) (e : Value) (s' : Shared), Inv X pins σ H s → CX X.stack H s E e s' → X.xe e s'

section
variable {X : Cx} {CX : CXT} {k : Nat} {f C : Addr} {fd : FuncData} {ps : List Str} {sp : Sp} {dvs : List V} {ds : List Value} {E : XK} {x m : Str} {p pos apos : Pos} {e o : Expr} {es : List Expr} {ta : TE} {t : TA}

/-- the callee runs -/
theorem run_fn {pins : List (Addr × Obj)} {σ : St} {H : Hp} {s : Shared} {Q : VK} {us : List Value} {vs : List V} (F : FnOk X.prog X.w X.K X.mg X.base CX k f fd ps sp) (hr : Room k X.A) (hb : Binds X.K fd ps ds) (hd : Vals dvs ds) (hx : Passes CX X E)
    (I : Inv X pins σ H s) (r : Vals vs us) (h : sp (vs ++ dvs) H Q E) : wpAny (model X.prog X.w) X.A (call (.ref f) us) (EP X pins σ Q) X.xe s := by
  have r2 : Vals (vs ++ dvs) (us ++ ds) := r.append hd
  have hl : (us ++ ds).length = ps.length := by rw [← r2.length]; exact F.len _ _ _ _ h
  refine wpAny_call (codeAny_mono (F.run X.A X.stack s H ⟨us, []⟩ (us ++ ds) (vs ++ dvs) Q E hr I.env0 (hb s us I.kIn hl) r2 h) fun r s' hq => ?_)
  cases r with
  | error e => exact hx pins σ H s e s' I hq
  | ok fl =>
    cases fl with
    | ret u => exact I.after hq
    | next => exact False.elim hq
    | brk => exact False.elim hq
    | cont => exact False.elim hq

theorem pe_call (F : FnOk X.prog X.w X.K X.mg X.base CX k f fd ps sp) (hr : Room k X.A) (hg : Gl X x) (hm : X.mg x = some (.ref f)) (hk : PySem.W.keepIn X.K (.ref f) = true) (hb : Binds X.K fd ps ds) (hd : Vals dvs ds) (hx : Passes CX X E)
    (ha : PA X (e :: es) t) (hdb : (x == ("__debug__" : Str)) = false := by decide) (he : starEach (e :: es) X.env = (false, eval e X.env) :: starEach es X.env := by rfl) (hpl : (backTo pos (starEach es X.env)).any (·.1) = false := by rfl) :
    PE X (.Call (.Name x p) (e :: es) [] pos) (tCall sp dvs E t) := by
  intro pins s σ H Q I h
  refine wpAny_Call_Name_kw (ld_glob I hg hm ?_ hdb)
  refine PySem.W.callWith_K (h₀ := X.base) I.ok.mod.kin hk (thn (ha pos pins s σ H _ I h) fun us s1 ⟨vs, H1, I1, r, q⟩ => ⟨I1.kIn, ?_⟩) he hpl
  exact run_fn F hr hb hd hx I1 r q

/-- o.m(e, ..) -/
theorem pe_meth {pl : Sem Bool} (he : PE X o ta) (c : Cls X.K C) (hm : Meth X.K C m f) (F : FnOk X.prog X.w X.K X.mg X.base CX k f fd ps sp) (hr : Room k X.A) (hb : Binds X.K fd ps ds) (hd : Vals dvs ds) (hx : Passes CX X E) (ha : PA X (e :: es) t)
    (hst : starEach (e :: es) X.env = (false, eval e X.env) :: starEach es X.env := by rfl) (hpl : (backTo pos (starEach es X.env)).any (·.1) = false := by rfl)
    (ht : eval (.Call (.Attribute o m apos) (e :: es) [] pos) X.env = (do
      let ov ← eval o X.env
      standAt apos.atName
      let (f, first) ← holding [ov] (getMethod ov m pl)
      callWith pos f first (backTo pos (starEach (e :: es) X.env)) (backToKw pos (keywordEach [] X.env))) := by rfl) :
    PE X (.Call (.Attribute o m apos) (e :: es) [] pos) (tMeth C m sp dvs E ta t) := by
  intro pins s σ H Q I h
  refine PySem.W.methodCall_KW (pl := pl) (thn (he pins s σ H _ I h) fun u s1 ⟨x, H1, I1, rx, a, dx, fs, ex, ea, l, q⟩ => ?_) ht
  subst ex
  obtain rfl : u = Value.ref a := rx
  refine getmeth_ok I1 ea c hm l ?_
  refine PySem.W.callWith_K (first := [.ref a]) (h₀ := X.base) I.ok.mod.kin hm.kp (thn (ha pos pins s1 σ H1 _ I1 q) fun us s2 ⟨vs, H2, I2, r, q2⟩ => ⟨I2.kIn, ?_⟩) hst hpl
  exact run_fn (us := .ref a :: us) (vs := .ref a :: vs) F hr hb hd hx I2 (.cons rfl r) q2
/-- o.m() -/
theorem pe_meth0 {pl : Sem Bool} (he : PE X o ta) (c : Cls X.K C) (hm : Meth X.K C m f) (F : FnOk X.prog X.w X.K X.mg X.base CX k f fd ps sp) (hr : Room k X.A) (hb : Binds X.K fd ps ds) (hd : Vals dvs ds) (hx : Passes CX X E)
    (ht : eval (.Call (.Attribute o m apos) [] [] pos) X.env = (do
      let ov ← eval o X.env
      standAt apos.atName
      let (f, first) ← holding [ov] (getMethod ov m pl)
      callWith pos f first (backTo pos (starEach [] X.env)) (backToKw pos (keywordEach [] X.env))) := by rfl) :
    PE X (.Call (.Attribute o m apos) [] [] pos) (tMeth C m sp dvs E ta tNil) := by
  intro pins s σ H Q I h
  refine PySem.W.methodCall_KW (pl := pl) (thn (he pins s σ H _ I h) fun u s1 ⟨x, H1, I1, rx, a, dx, fs, ex, ea, l, q⟩ => ?_) ht
  subst ex
  obtain rfl : u = Value.ref a := rx
  refine getmeth_ok I1 ea c hm l ?_
  exact PySem.W.callWith_K0 (first := [.ref a]) I1.kIn hm.kp (run_fn (us := [.ref a]) (vs := [.ref a]) F hr hb hd hx I1 (.cons rfl .nil) q)

/-- what a class must have to be made -/
structure Mk (K : PySem.W.Frag) (C f : Addr) : Prop where
  makes : PySem.W.makesIn K C = true
  init : PySem.W.findIn K (.ref C) "__init__" = some (some (.ref f))
  fn : PySem.W.isFn K (.ref f) = true
  kp : PySem.W.keepIn K (.ref C) = true

theorem run_make {pins : List (Addr × Obj)} {σ : St} {H : Hp} {s : Shared} {Q : VK} {us : List Value} {vs : List V} (M : Mk X.K C f) (F : FnOk X.prog X.w X.K X.mg X.base CX k f fd ps sp) (hr : Room (k + 1) X.A) (hb : Binds X.K fd ps ds) (hd : Vals dvs ds)
    (hx : Passes CX X E) (I : Inv X pins σ H s) (r : Vals vs us)
    (h : ∀ x dx, H x = none → H dx = none → dx ≠ x → sp (.ref x :: (vs ++ dvs)) (upd (upd H dx (.own x)) x (.ins C dx [])) (fun v H2 => v = .non ∧ Q (.ref x) H2) E) :
    wpAny (model X.prog X.w) X.A (call (.ref C) us) (EP X pins σ Q) X.xe s := by
  have hq := h (s.heap.objs.size + 1) s.heap.objs.size (I.hok.fresh (Nat.le_succ _)) (I.hok.fresh (Nat.le_refl _)) (Nat.ne_of_lt (Nat.lt_succ_self _))
  have I2 := Inv.made (C := C) I
  have r2 : Vals (V.ref (s.heap.objs.size + 1) :: (vs ++ dvs)) (Value.ref (s.heap.objs.size + 1) :: (us ++ ds)) := .cons rfl (r.append hd)
  have hl : (Value.ref (s.heap.objs.size + 1) :: us ++ ds).length = ps.length := by
    have e := r2.length
    rw [F.len _ _ _ _ hq] at e
    exact e.symm
  refine wpAny_call (make_map (f := f) I.kIn M.makes M.init (beq_iff_eq.mp M.fn) (codeAny_mono (F.run _ X.stack _ _ ⟨Value.ref (s.heap.objs.size + 1) :: us, []⟩ (Value.ref (s.heap.objs.size + 1) :: (us ++ ds)) _ _ E (hr.make C us [])
    (I2.env0.make C us []) (hb _ (Value.ref (s.heap.objs.size + 1) :: us) I2.kIn hl) r2 hq) fun r s' hq' => ?_))
  cases r with
  | error e => exact hx pins σ _ _ e s' I2 hq'
  | ok fl =>
    cases fl with
    | ret u =>
      obtain ⟨v, H', I3, rv, ev, q3⟩ := I2.after hq'
      subst ev
      exact ⟨rv, ⟨V.ref (s.heap.objs.size + 1), H', I3, rfl, q3⟩⟩
    | next => exact False.elim hq'
    | brk => exact False.elim hq'
    | cont => exact False.elim hq'
theorem pe_make (M : Mk X.K C f) (F : FnOk X.prog X.w X.K X.mg X.base CX k f fd ps sp) (hr : Room (k + 1) X.A) (hg : Gl X x) (hm : X.mg x = some (.ref C)) (hb : Binds X.K fd ps ds) (hd : Vals dvs ds) (hx : Passes CX X E)
    (ha : PA X (e :: es) t) (hdb : (x == ("__debug__" : Str)) = false := by decide) (he : starEach (e :: es) X.env = (false, eval e X.env) :: starEach es X.env := by rfl) (hpl : (backTo pos (starEach es X.env)).any (·.1) = false := by rfl) :
    PE X (.Call (.Name x p) (e :: es) [] pos) (tMake C sp dvs E t) := by
  intro pins s σ H Q I h
  refine wpAny_Call_Name_kw (ld_glob I hg hm ?_ hdb)
  refine PySem.W.callWith_K (h₀ := X.base) I.ok.mod.kin M.kp (thn (ha pos pins s σ H _ I h) fun us s1 ⟨vs, H1, I1, r, q⟩ => ⟨I1.kIn, ?_⟩) he hpl
  exact run_make M F hr hb hd hx I1 r q
end

/-! ### keywords -/
section
variable {X : Cx} {CX : CXT} {k : Nat} {f C : Addr} {fd : FuncData} {ps ks : List Str} {sp : Sp} {E : XK} {x m : Str} {p pos apos kpos : Pos} {e o : Expr} {es : List Expr} {kws : List Keyword} {te ta : TE} {t tk : TA} {nm : Option Str}

variable {g : List Value → List Value → List Value} {gV : List V → List V → List V}
end

/-! ### a def's body keeps its promise -/
/-- names: the parameters first -/
structure FnScope (N P : List Str) (sc : Scope) : Prop where
  kind : sc.kind = .function
  co : sc.isCoroutine = false
  gen : sc.isGenerator = false
  nd : N.Nodup
  pre : N.take P.length = P
  par : ∀ x ∈ P, sc.names.lookup x = some .local ∨ sc.names.lookup x = some .cell
  nofree : ∀ y ∈ sc.names, y.2 ≠ .free

theorem bindL_out {kindOf : Str → Option NameKind} {x : Str} : ∀ {binds : List (Str × Value)} {m : Str → Option Value}, (∀ v, (x, v) ∉ binds) → bindL kindOf binds m x = m x
  | [], _, _ => rfl
  | (n, v) :: r, m, h => by
    unfold bindL
    rw [bindL_out fun w hw => h w (List.mem_cons_of_mem _ hw)]
    split
    · have : x ≠ n := by rintro rfl; exact h v List.mem_cons_self
      simp [this]
    · rfl
theorem bindC_out {kindOf : Str → Option NameKind} {x : Str} : ∀ {binds : List (Str × Value)} {m : Str → Option Value}, (∀ v, (x, v) ∉ binds) → bindC kindOf binds m x = m x
  | [], _, _ => rfl
  | (n, v) :: r, m, h => by
    unfold bindC
    rw [bindC_out fun w hw => h w (List.mem_cons_of_mem _ hw)]
    split
    · rfl
    · have : x ≠ n := by rintro rfl; exact h v List.mem_cons_self
      simp [this]
theorem bindL_get {kindOf : Str → Option NameKind} {x : Str} {v : Value} : ∀ {P : List Str} {vs : List Value} {i : Nat} {m : Str → Option Value}, P.Nodup → P[i]? = some x → vs[i]? = some v → kindOf x = some .local →
    bindL kindOf (P.zip vs) m x = some v
  | [], _, _, _, _, h, _, _ => by simp at h
  | _ :: _, [], _, _, _, _, h, _ => by simp at h
  | p :: P, w :: vs, 0, m, nd, h1, h2, hk => by
    simp at h1 h2; subst h1; subst h2
    show bindL kindOf ((p, w) :: P.zip vs) m p = _
    unfold bindL
    rw [bindL_out fun v hv => (List.nodup_cons.mp nd).1 (List.of_mem_zip hv).1, if_pos hk]
    simp
  | p :: P, w :: vs, i + 1, m, nd, h1, h2, hk => by
    show bindL kindOf ((p, w) :: P.zip vs) m x = _
    unfold bindL
    exact bindL_get (i := i) (List.nodup_cons.mp nd).2 (by simpa using h1) (by simpa using h2) hk
theorem bindC_get {kindOf : Str → Option NameKind} {x : Str} {v : Value} : ∀ {P : List Str} {vs : List Value} {i : Nat} {m : Str → Option Value}, P.Nodup → P[i]? = some x → vs[i]? = some v → kindOf x ≠ some .local →
    bindC kindOf (P.zip vs) m x = some v
  | [], _, _, _, _, h, _, _ => by simp at h
  | _ :: _, [], _, _, _, _, h, _ => by simp at h
  | p :: P, w :: vs, 0, m, nd, h1, h2, hk => by
    simp at h1 h2; subst h1; subst h2
    show bindC kindOf ((p, w) :: P.zip vs) m p = _
    unfold bindC
    rw [bindC_out fun v hv => (List.nodup_cons.mp nd).1 (List.of_mem_zip hv).1, if_neg hk]
    simp
  | p :: P, w :: vs, i + 1, m, nd, h1, h2, hk => by
    show bindC kindOf ((p, w) :: P.zip vs) m x = _
    unfold bindC
    exact bindC_get (i := i) (List.nodup_cons.mp nd).2 (by simpa using h1) (by simpa using h2) hk

/-- the names' values at the entry -/
def start (N : List Str) (vs : List V) : St := vs.map some ++ List.replicate (N.length - vs.length) none

/-- the context of a def's body, at its entry; an exception leaves the frame, then lies as CX says -/
def cxOf (CX : CXT) (P : Program) (w : World) (K : PySem.W.Frag) (mg : Str → Option Value) (base : Heap) (N : List Str) (qual : Str) (scope : Scope) (f : Addr) (cd : Value) (A : Around) (outer : List Env) (s : Shared) (H : Hp) (E : XK) : Cx where
  prog := P
  w := w
  K := K
  mg := mg
  base := base
  A := A.deeper (envOfC qual scope s.heap.objs.size f cd)
  N := N
  s₀ := s
  H₀ := H
  env := envOfC qual scope s.heap.objs.size f cd
  outer := outer
  stack := envOfC qual scope s.heap.objs.size f cd :: outer
  ex := []
  calm := true
  fn := fun _ => true
  pn := []
  xe := fun e s' => wpAny (model P w) (A.deeper (envOfC qual scope s.heap.objs.size f cd)) (leaving (envOfC qual scope s.heap.objs.size f cd) e) (fun _ s'' => CX outer H s E e s'') (fun e' s'' => CX outer H s E e' s'') s'

theorem cell_has {sc : Scope} {n : Nat} {x : Str} (h : sc.names.lookup x = some .cell) : ∃ c, (cellsFrom n sc.names []).lookup x = some c := by
  have q := PySem.W.cellsFrom_some sc.names n [] (.inl h)
  exact Option.isSome_iff_exists.mp q

theorem inv_start {CX : CXT} {P : Program} {w : World} {K : PySem.W.Frag} {mg : Str → Option Value} {base : Heap} {N ps : List Str} {qual : Str} {scope : Scope} {f : Addr} {cd : Value} {A : Around} {outer : List Env} {s s1 : Shared} {H : Hp} {E : XK} {us : List Value} {vs : List V}
    (S : FnScope N ps scope) (hd : A.handled = none) (e0 : Env0 P w K mg base A outer s H) (hl : vs.length = ps.length) (r : Vals vs us)
    (x : InCallC s s.heap.objs.size (bindL (envOfC qual scope s.heap.objs.size f cd).kindOf (ps.zip us) fun _ => none) (cellsFrom (s.heap.objs.size + 1) scope.names []) (bindC (envOfC qual scope s.heap.objs.size f cd).kindOf (ps.zip us) fun _ => none) s1) :
    Inv (cxOf CX P w K mg base N qual scope f cd A outer s H E) [] (start N vs) H s1 := by
  have hpl : ps.length ≤ N.length := by have := congrArg List.length S.pre; rw [List.length_take] at this; omega
  obtain ⟨h1, tk, rfl, hk⟩ := x.done
  have noA : ∀ b : Addr, b ∉ (cxOf CX P w K mg base N qual scope f cd A outer s H E).ex := fun b z => absurd (show b ∈ ([] : List Addr) from z) (by simp)
  refine ⟨⟨e0.mod, S.kind, rfl, rfl, Nat.le_refl _, fun y z c h1 h2 => ?_, fun y hy => ?_, fun y c _ h => ?_, fun _ => hd, Around.frames_deeper e0.frames, .inr ⟨rfl, rfl⟩, fun b z => absurd z (noA b), e0.bs, e0.bsz, fun b _ _ => noA b, fun b z => absurd z (noA b), e0.funs, e0.frf⟩,
    rfl, e0.bare, Un.kept hk, ⟨_, x.toInCall.ns, fun i y v h1 h2 h3 => ?_⟩, fun y c h => ⟨_, x.cell y c h⟩, e0.hok.fresh (Nat.le_refl _), fun y c h => ?_, fun p hp => absurd (show p ∈ ([] : List (Addr × Obj)) from hp) (by simp), e0.hok.kept hk, ?_⟩
  · exact name_of_addr x.apart (PySem.mem_of_lookup h1) (PySem.mem_of_lookup h2)
  · have hy : scope.names.lookup y = some .cell ∨ scope.names.lookup y = some .free := hy
    rcases hy with hy | hy
    · exact cell_has hy
    · exact absurd rfl (S.nofree _ (PySem.mem_of_lookup hy))
  · exact Nat.le_of_lt (x.above y c (PySem.mem_of_lookup h))
  · have hi : i < vs.length := by
      unfold start at h2
      by_cases hi : i < vs.length
      · exact hi
      · rw [List.getElem?_append_right (by simpa using hi)] at h2
        rw [List.getElem?_replicate] at h2
        split at h2 <;> cases h2
    have ha : vs[i]? = some v := by
      unfold start at h2
      rw [List.getElem?_append_left (by simpa using hi), List.getElem?_map] at h2
      cases e : vs[i]? with
      | none => rw [e] at h2; cases h2
      | some a => rw [e] at h2; cases h2; rfl
    obtain ⟨u, hu, rv⟩ := r.get ha
    have hp : ps[i]? = some y := by
      rw [← S.pre, List.getElem?_take_of_lt (by omega)]; exact h1
    have ndP : ps.Nodup := by rw [← S.pre]; exact S.nd.sublist (List.take_sublist _ _)
    refine ⟨u, rv, ?_⟩
    rcases S.par y (List.mem_of_getElem? hp) with k | k
    · exact .inl ⟨k, bindL_get ndP hp hu k⟩
    · obtain ⟨c, e⟩ := cell_has (n := s.heap.objs.size + 1) k
      refine .inr ⟨.inl k, c, e, ?_⟩
      have q := x.cell y c e
      rw [bindC_get ndP hp hu (by show scope.names.lookup y ≠ _; rw [k]; decide)] at q
      exact q
  · exact e0.hok.fresh (Nat.le_of_lt (x.above y c (PySem.mem_of_lookup h)))
  · unfold start
    show _ = N.length
    rw [List.length_append, List.length_map, List.length_replicate]
    omega

/-- THE RULE: a def (or a method) of the text, by its body. The body's reading t is chosen for each entry; it is run at the parameters' values -/
theorem fn_of {CX : CXT} {P : Program} {w : World} {K : PySem.W.Frag} {mg : Str → Option Value} {base : Heap} {k : Nat} {f : Addr} {name qual : Str} {params : Arguments} {body : List Stmt} {scope : Scope} {dV kV doc pm cdv ct oc : Value} {an od : Option Addr}
    {osl : Array (Option Value)} {N ps : List Str} {sp : Sp} (lk : K.lookup f = some ⟨oc, od, .func (PySem.W.fnOf name qual params body scope dV kV doc pm an cdv ct), osl⟩) (hcd : PySem.W.codeIn K cdv qual = true) (S : FnScope N ps scope)
    (len : ∀ vs H Q E, sp vs H Q E → vs.length = ps.length)
    (hbody : ∀ (A : Around) (outer : List Env) (s : Shared) (H : Hp) (vs : List V) (Q : VK) (E : XK), Room k (A.deeper (envOfC qual scope s.heap.objs.size f cdv)) → sp vs H Q E →
      ∃ t, PSs (cxOf CX P w K mg base N qual scope f cdv A outer s H E) body t ∧ t { nx := fun _ H' => Q .non H', rt := Q } (start N vs) H) :
    FnOk P w K mg base CX (k + 1) f (PySem.W.fnOf name qual params body scope dV kV doc pm an cdv ct) ps sp := by
  refine ⟨len, fun A outer s H args us vs Q E hr e0 hb r hsp => ?_⟩
  have hl := len _ _ _ _ hsp
  have KX : K.In s.heap := e0.mod.kin.keeps fun b o e => (e0.bs b o e).1
  have lim : s.heap.NoLimit := e0.mod.nolimit.keeps fun b o e => (e0.bs b o e).1
  have hkind : ∀ y ∈ ps.zip us, scope.names.lookup y.1 = some .local ∨ (scope.names.lookup y.1 = some .cell ∧ ((cellsFrom (s.heap.objs.size + 1) scope.names []).lookup y.1).isSome = true) := fun ⟨n, v⟩ hy => by
    rcases S.par n (List.of_mem_zip hy).1 with q | q
    · exact .inl q
    · exact .inr ⟨q, PySem.W.cellsFrom_some _ _ _ (.inl q)⟩
  refine codeAny_call_function hr.depth (KX _ _ lk) rfl S.co S.gen rfl (PySem.W.codeRec_of KX hcd) (hb _ _ _ _ ?_)
  refine wpAny_newFunctionEnv_cells S.kind hkind fun env he s1 x => ?_
  subst he
  refine ⟨lim.keeps x.toInCall.keep, codeAny_func ?_⟩
  obtain ⟨t, ht, hq⟩ := hbody A outer s H vs Q E (hr.deeper _) hsp
  have I : Inv (cxOf CX P w K mg base N qual scope f cdv A outer s H E) [] (start N vs) H s1 := inv_start S hr.hd e0 hl r x
  refine wpAny_mono (ht [] s1 (start N vs) H _ I hq) (fun fl s' hs => ?_) fun e s' hs => hs
  have fin : ∀ {σ' : St} {H' : Hp} {v : V} {u : Value}, Inv (cxOf CX P w K mg base N qual scope f cdv A outer s H E) [] σ' H' s' → RelV v u → Q v H' → CE outer P w H s Q u s' :=
    fun {σ' H' v u} J rv q => ⟨v, H', J.os, J.bare, J.base, J.hok, rv, q⟩
  cases fl with
  | ret u =>
    obtain ⟨v, σ', H', J, rv, q⟩ := hs
    exact fin J rv q
  | next =>
    obtain ⟨σ', H', J, q⟩ := hs
    exact fin (v := V.non) (u := Value.none) J rfl q
  | brk =>
    obtain ⟨_, _, _, q⟩ := hs
    exact False.elim q
  | cont =>
    obtain ⟨_, _, _, q⟩ := hs
    exact False.elim q
end L2

namespace L2
open PySem PySem.Spec PyProof.Rows
section
variable {X : Cx} {x : Str} {p pos : Pos} {e : Expr} {es : List Expr} {t : TA} {id T : String} {r : List V → Hp → VK → Prop}

def tCB (r : List V → Hp → VK → Prop) (t : TA) : TE := fun σ H Q => t σ H fun vs H1 => r vs H1 Q
/-- f(e, ..), f a built-in function -/
theorem pe_callB (hc : CallR X (.builtin id) r) (hg : Gl X x) (hm : X.mg x = none) (hv : bootBuiltins x = some (.builtin id)) (ha : PA X (e :: es) t) (hn : x ≠ "__name__" := by decide) (hdb : (x == ("__debug__" : Str)) = false := by decide)
    (he : starEach (e :: es) X.env = (false, eval e X.env) :: starEach es X.env := by rfl) (hpl : (backTo pos (starEach es X.env)).any (·.1) = false := by rfl) : PE X (.Call (.Name x p) (e :: es) [] pos) (tCB r t) := by
  intro pins s σ H Q I h
  refine wpAny_Call_Name_kw (ld_blt I hg hm hv ?_ hn hdb)
  exact PyProof.Rows.callWith_builtin1 (thn (ha pos pins s σ H _ I h) fun us s1 ⟨vs, H1, I1, r1, q1⟩ => hc pins s1 σ H1 vs us Q I1 r1 q1) he hpl
/-- T(e, ..), T a built-in type -/
theorem pe_callTy (hc : CallR X (.type T) r) (hg : Gl X x) (hm : X.mg x = none) (hv : bootBuiltins x = some (.type T)) (ha : PA X (e :: es) t) (hn : x ≠ "__name__" := by decide) (hdb : (x == ("__debug__" : Str)) = false := by decide)
    (he : starEach (e :: es) X.env = (false, eval e X.env) :: starEach es X.env := by rfl) (hpl : (backTo pos (starEach es X.env)).any (·.1) = false := by rfl) : PE X (.Call (.Name x p) (e :: es) [] pos) (tCB r t) := by
  intro pins s σ H Q I h
  refine wpAny_Call_Name_kw (ld_blt I hg hm hv ?_ hn hdb)
  exact PyProof.Rows.callWith_type1 (thn (ha pos pins s σ H _ I h) fun us s1 ⟨vs, H1, I1, r1, q1⟩ => hc pins s1 σ H1 vs us Q I1 r1 q1) he hpl
end
end L2

namespace HT
open PySem PyProof.Rows



section
open PySem.SeqAt
open PySem.AutoSeq1 (wpAny_loadPart')
open PySem.MeetsSeq PySem.MeetsSeq2 PySem.MeetsSeq3

end

section
variable {prog : Program} {w : World} {A : Around} {E : Value → Shared → Prop} {s : Shared}



/-! ### t[a:b], not the whole -/
/-- a slice's bound as a place among n (d where it is left out) -/
def sIx (n d : Nat) : Option Int → Nat
  | none => d
  | some v => if v < 0 then (v + (n : Int)).toNat else min v.toNat n
theorem sIx_nat (n d k : Nat) : sIx n d (some (k : Int)) = min k n := by
  show (if (k : Int) < 0 then ((k : Int) + (n : Int)).toNat else min (k : Int).toNat n) = min k n
  rw [if_neg (by omega), Int.toNat_natCast]

end
end HT

namespace L2
open PySem PySem.Spec PyProof.Rows

/-! ### the parts of a slice -/
abbrev TO := St → Hp → (Option Int → Hp → Prop) → Prop
/-- a slice's part (left out, or an int) -/
def PO (X : Cx) (e : Option Expr) (t : TO) : Prop :=
  ∀ (pins : List (Addr × Obj)) (s : Shared) (σ : St) (H : Hp) (Q : Option Int → Hp → Prop), Inv X pins σ H s → t σ H Q →
    wpAny (model X.prog X.w) X.A (evalPart e X.env) (fun u s' => ∃ o H', Inv X pins σ H' s' ∧ IsPart u o ∧ Q o H') X.xe s
def tNoPart : TO := fun _ H Q => Q none H
def tPart (t : TE) : TO := fun σ H Q => t σ H fun x H1 => ∃ i, x = .int i ∧ Q (some i) H1


section
variable {X : Cx} {e : Expr} {te : TE} {lo hi : Option Expr} {tl th : TO} {pos p2 : Pos}

theorem po_none : PO X none tNoPart := by
  intro pins s σ H Q I h
  rw [evalPart_none]
  exact wpAny_pure ⟨none, H, I, .none, h⟩
theorem po_some (h : PE X e te) : PO X (some e) (tPart te) := by
  intro pins s σ H Q I hw
  rw [evalPart_some]
  refine thn (h pins s σ H _ I hw) fun u s1 ⟨x, H1, I1, r1, q1⟩ => ?_
  obtain ⟨i, rfl, q⟩ := q1
  obtain ⟨t, rfl⟩ := r1
  exact ⟨some i, H1, I1, .int i t, q⟩

/-- what a slice of a value is, by values: the slice object stands at sl -/
def SlR (X : Cx) (r : V → Option Int → Option Int → Hp → VK → Prop) : Prop :=
  ∀ (pins : List (Addr × Obj)) (s : Shared) (σ : St) (H : Hp) (x : V) (v vl vu : Value) (lo hi : Option Int) (sl : Addr) (Q : VK), Inv X pins σ H s → RelV x v → s.heap.IsSliceOf sl vl vu .none → IsPart vl lo → IsPart vu hi → r x lo hi H Q →
    ∃ T id, typeLookup (.type T) "__getitem__" = pure (some (.builtin id)) ∧ s.TypeIs v T ∧ wpAny (model X.prog X.w) X.A (getItem v (.ref sl)) (EP X pins σ Q) X.xe s
def tSl (r : V → Option Int → Option Int → Hp → VK → Prop) (te : TE) (tl th : TO) : TE := fun σ H Q => te σ H fun x H1 => tl σ H1 fun l H2 => th σ H2 fun u H3 => r x l u H3 Q
/-- a[lo:hi], any a -/
theorem pe_slice {r : V → Option Int → Option Int → Hp → VK → Prop} (hr : SlR X r) (he : PE X e te) (hl : PO X lo tl) (hu : PO X hi th) : PE X (.Subscript e (.Slice lo hi none p2) pos) (tSl r te tl th) := by
  intro pins s σ H Q I h
  refine Subscript_ (thn (he pins s σ H _ I h) fun v s1 ⟨x, H1, I1, r1, q1⟩ => ?_)
  refine wpAny_Slice (thn (hl pins s1 σ H1 _ I1 q1) fun vl s2 ⟨l, H2, I2, pl, q2⟩ => thn (hu pins s2 σ H2 _ I2 q2) fun vu s3 ⟨u, H3, I3, pu, q3⟩ => ?_)
  rw [evalPart_none]
  refine wpAny_pure ?_
  have I4 : Inv X pins σ H3 { s3 with heap := s3.heap.push { cls := .type "slice", data := .fields #[vl, vu, .none] } } := I3.kept (t' := s3.toks) fun b ob q => Heap.get?_push_of_some _ q
  obtain ⟨T, id, hT, ht, hg⟩ := hr pins { s3 with heap := s3.heap.push { cls := .type "slice", data := .fields #[vl, vu, .none] } } σ H3 x v vl vu l u s3.heap.objs.size Q I4 r1 (Heap.IsSliceOf.new ..) pl pu q3
  show wpAny (model X.prog X.w) X.A (subscriptTail e (.Slice lo hi none p2) v (.ref s3.heap.objs.size)) (EP X pins σ Q) X.xe { s3 with heap := s3.heap.push { cls := .type "slice", data := .fields #[vl, vu, .none] } }
  exact tail_any (ops := [.ref s3.heap.objs.size, v]) ht hT hg (by with_unfolding_all rfl)

/-- the items of xs[lo:hi] -/
def cutV (xs : List V) (lo hi : Option Int) : List V := (xs.drop (HT.sIx xs.length 0 lo)).take (HT.sIx xs.length xs.length hi - HT.sIx xs.length 0 lo)
theorem cutV_length (xs : List V) (lo hi : Option Int) : (cutV xs lo hi).length ≤ xs.length := by
  unfold cutV
  rw [List.length_take, List.length_drop]
  omega

/-! ### t < u, t + u -/
end
end L2

namespace L2
open PySem PySem.Spec PyProof.Rows

/-! ### places -/
/-- the place that an index of any sign means -/
def ixN (n : Nat) (i : Int) : Option Nat := if 0 ≤ i then (if i < n then some i.toNat else none) else if -(n : Int) ≤ i then some (i + n).toNat else none
def atI {α : Type} (xs : List α) (i : Int) : Option α := (ixN xs.length i).bind fun j => xs[j]?
theorem ixN_seq {n : Nat} {i : Int} {j : Nat} (h : ixN n i = some j) : seqIndex? i n = some j ∧ j < n ∧ -(n : Int) ≤ i ∧ i < n := by
  unfold ixN at h
  by_cases h0 : 0 ≤ i
  · rw [if_pos h0] at h
    by_cases h1 : i < n
    · rw [if_pos h1] at h
      have e : i.toNat = j := Option.some.inj h
      exact ⟨by rw [seqIndex_of h0 h1, e], by omega, by omega, h1⟩
    · rw [if_neg h1] at h; cases h
  · rw [if_neg h0] at h
    by_cases h1 : -(n : Int) ≤ i
    · rw [if_pos h1] at h
      have e : (i + n).toNat = j := Option.some.inj h
      exact ⟨by rw [seqIndex_neg (by omega) h1, e], by omega, h1, by omega⟩
    · rw [if_neg h1] at h; cases h
theorem atI_get {α : Type} {xs : List α} {i : Int} {v : α} (h : atI xs i = some v) : ∃ j, seqIndex? i xs.length = some j ∧ xs[j]? = some v ∧ j < xs.length ∧ -(xs.length : Int) ≤ i ∧ i < xs.length := by
  unfold atI at h
  cases e : ixN xs.length i with
  | none => rw [e] at h; cases h
  | some j =>
    rw [e] at h
    obtain ⟨h1, h2, h3, h4⟩ := ixN_seq e
    exact ⟨j, h1, h, h2, h3, h4⟩
theorem atI_nat {α : Type} {xs : List α} {j : Nat} {v : α} (h : xs[j]? = some v) : atI xs (j : Int) = some v := by
  have hj : j < xs.length := (List.getElem?_eq_some_iff.mp h).1
  have e : ixN xs.length (j : Int) = some j := by
    unfold ixN
    rw [if_pos (by omega), if_pos (by omega)]; simp
  unfold atI; rw [e]; exact h
theorem atI_last {α : Type} (xs : List α) (v : α) : atI (xs ++ [v]) (-1) = some v := by
  have hl : (xs ++ [v]).length = xs.length + 1 := by simp
  have e : ixN (xs ++ [v]).length (-1) = some xs.length := by
    unfold ixN
    rw [hl, if_neg (by decide), if_pos (by omega)]
    congr 1
    omega
  unfold atI
  rw [e]
  show (xs ++ [v])[xs.length]? = some v
  simp

/-! ### what may be subscripted -/
/-- what stands as an index of a plain subscript -/
def PlainIx (b : Expr) : Prop := ∀ o i, subscripted b false o i = operate [o, i] (getItem o i)
/-- a subscript by values -/
def IxR (X : Cx) (r : R2) : Prop :=
  ∀ (value slice : Expr) (pins : List (Addr × Obj)) (s : Shared) (σ : St) (H : Hp) (x y : V) (v u : Value) (Q : VK), Inv X pins σ H s → RelV x v → RelV y u → r x y H Q →
    subscripted slice false v u = operate [v, u] (getItem v u) → wpAny (model X.prog X.w) X.A (subscriptTail value slice v u) (EP X pins σ Q) X.xe s
/-- a call of a builtin's method by values: the receiver, the arguments -/
def MtR (X : Cx) (id : String) (r : V → List V → Hp → VK → Prop) : Prop :=
  ∀ (pins : List (Addr × Obj)) (s : Shared) (σ : St) (H : Hp) (x : V) (xs : List V) (v : Value) (us : List Value) (Q : VK), Inv X pins σ H s → RelV x v → Vals xs us → r x xs H Q →
    wpAny (model X.prog X.w) X.A (call (.builtin id) (v :: us)) (EP X pins σ Q) X.xe s
section
variable {X : Cx} {a b : Expr} {ta tb : TE} {pos : Pos}
/-- a[b] -/
theorem pe_ix {r : R2} (hr : IxR X r) (ha : PE X a ta) (hb : PE X b tb) (hs : PlainIx b) : PE X (.Subscript a b pos) (tOp r ta tb) := by
  intro pins s σ H Q I h
  exact Subscript_ (binT ha hb I h fun v u s2 x y H2 I2 rx ry q => hr a b pins s2 σ H2 x y v u Q I2 rx ry q (hs _ _))

def rIxL (K : PySem.W.Frag) : R2 := fun x y H Q => ∃ p xs i v, x = .ref p ∧ y = .int i ∧ SqL K H p xs ∧ atI xs i = some v ∧ Q v H
def rIxT (K : PySem.W.Frag) : R2 := fun x y H Q => ∃ p xs i v, x = .ref p ∧ y = .int i ∧ SqT K H p xs ∧ atI xs i = some v ∧ Q v H
theorem ix_list : IxR X (rIxL X.K) := by
  intro value slice pins s σ H x y v u Q I rx ry h hs
  obtain ⟨p, xs, i, z, rfl, rfl, hq, he, q⟩ := h
  cases rx
  obtain ⟨t, rfl⟩ := ry
  obtain ⟨its, r, pl, hz⟩ := I.list hq
  obtain ⟨j, h1, h2, h3, h4, h5⟩ := atI_get he
  obtain ⟨w, ew, rw'⟩ := r.get h2
  have hl := r.length
  have hn := line63
  have fin : EP X pins σ Q w s := ⟨z, H, I, rw', q⟩
  by_cases h0 : 0 ≤ i
  · have hj : i.toNat = j := by
      rw [seqIndex_of h0 h5] at h1
      exact Option.some.inj h1
    exact item_listR pl.isList h0 (by omega) (by rw [hj]; simpa using ew) fin hs
  · have hj : (i + (its.toArray.size : Int)).toNat = j := by
      rw [seqIndex_neg (by omega) h4] at h1
      rw [List.size_toArray, ← hl]
      exact Option.some.inj h1
    exact subscriptTail_builtinR (x := w) pl.isList.typeIs slot_list_getitem.lookup
      (wpAny_getItem_list_neg (Q := fun r s' => r = w ∧ EP X pins σ Q r s') pl.isList (by omega) (by rw [List.size_toArray] <;> omega) (by omega) (by rw [hj]; simpa using ew) ⟨rfl, fin⟩) hs
theorem ix_tup : IxR X (rIxT X.K) := by
  intro value slice pins s σ H x y v u Q I rx ry h hs
  obtain ⟨p, xs, i, z, rfl, rfl, hq, he, q⟩ := h
  cases rx
  obtain ⟨t, rfl⟩ := ry
  obtain ⟨its, r, pl, hz⟩ := I.tuple hq
  obtain ⟨j, h1, h2, h3, h4, h5⟩ := atI_get he
  obtain ⟨w, ew, rw'⟩ := r.get h2
  have hl := r.length
  have hn := line63
  have fin : EP X pins σ Q w s := ⟨z, H, I, rw', q⟩
  exact subscriptTail_builtinR (x := w) pl.typeIs slot_tuple_getitem.lookup
    (getItem_tuple (j := j) (Q := fun r s' => r = w ∧ EP X pins σ Q r s') pl (by omega) (by omega) (by rw [List.size_toArray, ← hl]; exact h1) (by simpa using ew) ⟨rfl, fin⟩) hs

/-! ### xs[i] = v, any sign -/
/-- the list's object behind a store -/
theorem mapSeq_set (its : List Value) (n j : Nat) (u : Value) : Obj.mapSeq (·.setIfInBounds j u) { cls := .type "list", data := .seq its.toArray n } = { cls := .type "list", data := .seq (its.set j u).toArray n } := by
  simp [Obj.mapSeq]
theorem Inv.lst {pins : List (Addr × Obj)} {σ : St} {H : Hp} {s : Shared} {p : Addr} {xs : List V} (I : Inv X pins σ H s) (h : H p = some (.lst xs)) :
    ∃ (its : List Value) (n : Nat), Vals xs its ∧ s.heap.get? p = some { cls := .type "list", data := .seq its.toArray n } ∧ xs.length ≤ sizeLine := by
  obtain ⟨z, its, n, r, e⟩ := I.hok p _ h
  exact ⟨its, n, r, e, z⟩
/-- the list at p is written by an update of its object -/
theorem Inv.lstUpd {pins : List (Addr × Obj)} {σ : St} {H : Hp} {s : Shared} {p : Addr} {xs ys : List V} {its its' : List Value} {n n' : Nat} {f : Obj → Obj} (I : Inv X pins σ H s) (h : H p = some (.lst xs))
    (ho : s.heap.get? p = some { cls := .type "list", data := .seq its.toArray n }) (hf : f { cls := .type "list", data := .seq its.toArray n } = { cls := .type "list", data := .seq its'.toArray n' }) (r : Vals ys its') (hz : ys.length ≤ sizeLine) (t : Nat) :
    Inv X pins σ (upd H p (.lst ys)) { s with heap := s.heap.update p f, toks := t } := by
  have e : (s.heap.update p f).get? p = some { cls := .type "list", data := .seq its'.toArray n' } := by
    rw [Heap.get?_update_self f ho (by rw [hf] <;> rfl), hf]
  refine I.write (x := p) (e := p) (by rw [h]; trivial) (.inl rfl) (fun b u hb q => (Heap.get?_update_other _ _ (Ne.symm hb)).trans q) ⟨_, e⟩ ?_
  exact ⟨hz, its', n', r, e⟩
def rSetL : V → V → V → Hp → (Hp → Prop) → Prop := fun o i v H Q => ∃ p xs k j, o = .ref p ∧ i = .int k ∧ H p = some (.lst xs) ∧ ixN xs.length k = some j ∧ Q (upd H p (.lst (xs.set j v)))
theorem set_list : PSet X rSetL := by
  intro pins s σ H o i v ov iv u Q I ro ri rv h
  obtain ⟨p, xs, k, j, rfl, rfl, hp, hj, q⟩ := h
  cases ro
  obtain ⟨t, rfl⟩ := ri
  obtain ⟨its, n, r, ho, hz⟩ := I.lst hp
  obtain ⟨h1, h2, h3, h4⟩ := ixN_seq hj
  have hl := r.length
  have hn := line63
  have I' : Inv X pins σ (upd H p (.lst (xs.set j v))) { s with heap := s.heap.update p (Obj.mapSeq (·.setIfInBounds j u)) } :=
    I.lstUpd hp ho (mapSeq_set its n j u) (r.set rv j) (by rw [List.length_set]; exact hz) s.toks
  by_cases h0 : 0 ≤ k
  · have hk : k.toNat = j := by
      rw [seqIndex_of h0 h4] at h1
      exact Option.some.inj h1
    exact PySem.W.ki_setAt ho h0 (by omega) (by rw [List.size_toArray, ← hl]; exact h4) (by rw [hk]; exact ⟨_, I', q⟩)
  · have hk : (k + (its.toArray.size : Int)).toNat = j := by
      rw [seqIndex_neg (by omega) h3] at h1
      rw [List.size_toArray, ← hl]
      exact Option.some.inj h1
    exact PySem.W.ki_setBack ho (by omega) (by rw [List.size_toArray, ← hl]; exact h3) (by omega) (by rw [hk]; exact ⟨_, I', q⟩)

/-! ### slices -/
theorem slice_bounds (lo hi : Option Int) (n : Nat) : (sliceBounds lo hi none n).1 = ((HT.sIx n 0 lo : Nat) : Int) ∧ (sliceBounds lo hi none n).2.1 = ((HT.sIx n n hi : Nat) : Int) ∧ (sliceBounds lo hi none n).2.2 = 1 := by
  refine ⟨?_, ?_, rfl⟩
  · cases lo with
    | none => simp [sliceBounds, HT.sIx]
    | some i =>
      simp only [sliceBounds, HT.sIx, Option.getD_none, show (1 : Int) > 0 by decide, if_true]
      by_cases h : i < 0
      · simp only [h, if_true] <;> omega
      · simp only [h, if_false] <;> omega
  · cases hi with
    | none => simp [sliceBounds, HT.sIx]
    | some i =>
      simp only [sliceBounds, HT.sIx, Option.getD_none, show (1 : Int) > 0 by decide, if_true]
      by_cases h : i < 0
      · simp only [h, if_true] <;> omega
      · simp only [h, if_false] <;> omega
theorem slicePick_cut (its : List Value) (lo hi : Option Int) : slicePick its.toArray lo hi none = ((its.drop (HT.sIx its.length 0 lo)).take (HT.sIx its.length its.length hi - HT.sIx its.length 0 lo)).toArray := by
  obtain ⟨h1, h2, h3⟩ := slice_bounds lo hi its.toArray.size
  unfold slicePick
  rw [h1, h2, h3]
  simp only [sliceRange_one, pick_run, List.size_toArray] <;> rfl
/-- xs[lo:hi] of a list: a new list -/
def rSlL (K : PySem.W.Frag) : V → Option Int → Option Int → Hp → VK → Prop := fun x lo hi H Q => ∃ a xs, x = .ref a ∧ SqL K H a xs ∧ ∀ p, H p = none → Q (.ref p) (upd H p (.lst (cutV xs lo hi)))
theorem sl_list : SlR X (rSlL X.K) := by
  intro pins s σ H x v vl vu lo hi sl Q I rx hs pl pu h
  obtain ⟨a, xs, rfl, hx, q⟩ := h
  cases rx
  obtain ⟨its, r, ht, hz⟩ := I.list hx
  have hlen := r.length
  refine ⟨"list", _, slot_list_getitem.lookup, ht.isList.typeIs, ?_⟩
  refine wpAny_getItem_list_slice ht.isList hs pl pu .none (by simp) ?_ (by rw [List.size_toArray] <;> omega)
  rw [slicePick_cut, ← hlen]
  refine ⟨.ref s.heap.objs.size, _, I.laid (t' := s.toks) (o := .lst (cutV xs lo hi)) (fun b ob q => Heap.get?_push_of_some _ q) (Nat.le_refl _) ?_, rfl, q _ (I.hok.fresh (Nat.le_refl _))⟩
  exact ⟨Nat.le_trans (cutV_length xs lo hi) hz, _, 0, (r.drop (HT.sIx xs.length 0 lo)).take (HT.sIx xs.length xs.length hi - HT.sIx xs.length 0 lo), Heap.get?_push_size _ rfl⟩

/-! ### in, not in: flat items -/
def flatV : V → Bool
  | .non => true
  | .bl _ => true
  | .int _ => true
  | .str _ => true
  | _ => false
/-- == of flat values -/
def eqV : V → V → Bool
  | .non, .non => true
  | .bl a, .bl b => a == b
  | .bl a, .int b => (if a then 1 else 0) == b
  | .int a, .bl b => a == (if b then 1 else 0)
  | .int a, .int b => a == b
  | .str a, .str b => a == b
  | _, _ => false
theorem eqAt_V {A : Around} {s : Shared} {y x : V} {u v : Value} (ry : RelV y u) (rx : RelV x v) (fy : flatV y = true) (fx : flatV x = true) : SeqAt.EqAt A s u v (eqV y x) := by
  cases y with
  | non =>
    cases ry
    cases x with
    | non => cases rx; exact SeqAt.EqAt.same _
    | bl b => cases rx; exact SeqAt.EqAt.none_bool b
    | int b => obtain ⟨t, rfl⟩ := rx; exact SeqAt.EqAt.none_int b t
    | str b => obtain ⟨t, rfl⟩ := rx; exact SeqAt.EqAt.none_str b t
    | _ => exact absurd (show false = true from fx) Bool.false_ne_true
  | bl a =>
    cases ry
    cases x with
    | non => cases rx; exact SeqAt.EqAt.bool_none a
    | bl b => cases rx; exact SeqAt.EqAt.bool_bool a b
    | int b => obtain ⟨t, rfl⟩ := rx; exact SeqAt.EqAt.bool_int a b t
    | str b => obtain ⟨t, rfl⟩ := rx; exact SeqAt.EqAt.bool_str a b t
    | _ => exact absurd (show false = true from fx) Bool.false_ne_true
  | int a =>
    obtain ⟨t', rfl⟩ := ry
    cases x with
    | non => cases rx; exact SeqAt.EqAt.int_none a t'
    | bl b => cases rx; exact SeqAt.EqAt.int_bool a t' b
    | int b => obtain ⟨t, rfl⟩ := rx; exact SeqAt.EqAt.int_int a t' b t
    | str b => obtain ⟨t, rfl⟩ := rx; exact SeqAt.EqAt.int_str a t' b t
    | _ => exact absurd (show false = true from fx) Bool.false_ne_true
  | str a =>
    obtain ⟨t', rfl⟩ := ry
    cases x with
    | non => cases rx; exact SeqAt.EqAt.str_none a t'
    | bl b => cases rx; exact SeqAt.EqAt.str_bool a t' b
    | int b => obtain ⟨t, rfl⟩ := rx; exact SeqAt.EqAt.str_int a t' b t
    | str b => obtain ⟨t, rfl⟩ := rx; exact SeqAt.EqAt.str_str a t' b t
    | _ => exact absurd (show false = true from fx) Bool.false_ne_true
  | _ => exact absurd (show false = true from fy) Bool.false_ne_true
/-- the items' answers, read off the values (a value's own answer does not lean on its token) -/
def eqU (x : V) (u : Value) : Bool := match u with
  | .none => eqV .non x
  | .bool b => eqV (.bl b) x
  | .int i _ => eqV (.int i) x
  | .str z _ => eqV (.str z) x
  | _ => false
theorem eqU_of {x y : V} {u : Value} (r : RelV y u) (f : flatV y = true) : eqU x u = eqV y x := by
  cases y with
  | non => cases r; rfl
  | bl b => cases r; rfl
  | int i => obtain ⟨t, rfl⟩ := r; rfl
  | str z => obtain ⟨t, rfl⟩ := r; rfl
  | _ => exact absurd (show false = true from f) Bool.false_ne_true
theorem any_eqU {x : V} : ∀ {xs : List V} {us : List Value}, Vals xs us → xs.all flatV = true → us.any (eqU x) = xs.any fun y => eqV y x
  | _, _, .nil, _ => rfl
  | y :: xs, u :: us, .cons r t, f => by
    rw [List.all_cons, Bool.and_eq_true] at f
    rw [List.any_cons, List.any_cons, eqU_of r f.1, any_eqU t f.2]
theorem mem_eqAt {A : Around} {s : Shared} {x : V} {v : Value} (rx : RelV x v) (fx : flatV x = true) : ∀ {xs : List V} {us : List Value}, Vals xs us → xs.all flatV = true → ∀ u ∈ us, SeqAt.EqAt A s u v (eqU x u)
  | _, _, .nil, _ => fun u hu => by cases hu
  | y :: xs, u :: us, .cons r t, f => fun u' hu => by
    rw [List.all_cons, Bool.and_eq_true] at f
    rcases List.mem_cons.mp hu with rfl | hu
    · rw [eqU_of r f.1]; exact eqAt_V r rx f.1 fx
    · exact mem_eqAt rx fx t f.2 u' hu
def inV (x : V) (xs : List V) : Bool := xs.any fun y => eqV y x
/-- x in a list or tuple of flat items -/
def rIn (K : PySem.W.Frag) (neg : Bool) : R2 := fun x y H Q => ∃ p xs, y = .ref p ∧ (SqL K H p xs ∨ SqT K H p xs) ∧ flatV x = true ∧ xs.all flatV = true ∧ Q (.bl (if neg then !inV x xs else inV x xs)) H
theorem op_in_seq : OpR X (compareOp .In) (rIn X.K false) := by
  intro pins s σ H x y v u Q I rx ry h
  obtain ⟨p, xs, rfl, hq, fx, fs, q⟩ := h
  cases ry
  rcases hq with hq | hq
  · obtain ⟨its, r, pl, hz⟩ := I.list hq
    refine SeqAt.in_listAt (eqU x) pl.isList (fun w hw => mem_eqAt rx fx r fs w (by simpa using hw)) ⟨.bl _, H, I, rfl, ?_⟩
    rw [show its.toArray.any (eqU x) = its.any (eqU x) by simp, any_eqU r fs]
    exact q
  · obtain ⟨its, r, pl, hz⟩ := I.tuple hq
    refine SeqAt.in_tupleAt (eqU x) pl (fun w hw => mem_eqAt rx fx r fs w (by simpa using hw)) ⟨.bl _, H, I, rfl, ?_⟩
    rw [show its.toArray.any (eqU x) = its.any (eqU x) by simp, any_eqU r fs]
    exact q
theorem op_notIn_seq : OpR X (compareOp .NotIn) (rIn X.K true) := by
  intro pins s σ H x y v u Q I rx ry h
  obtain ⟨p, xs, rfl, hq, fx, fs, q⟩ := h
  cases ry
  rcases hq with hq | hq
  · obtain ⟨its, r, pl, hz⟩ := I.list hq
    refine SeqAt.notIn_listAt (eqU x) pl.isList (fun w hw => mem_eqAt rx fx r fs w (by simpa using hw)) ⟨.bl _, H, I, rfl, ?_⟩
    rw [show its.toArray.any (eqU x) = its.any (eqU x) by simp, any_eqU r fs]
    exact q
  · obtain ⟨its, r, pl, hz⟩ := I.tuple hq
    refine SeqAt.notIn_tupleAt (eqU x) pl (fun w hw => mem_eqAt rx fx r fs w (by simpa using hw)) ⟨.bl _, H, I, rfl, ?_⟩
    rw [show its.toArray.any (eqU x) = its.any (eqU x) by simp, any_eqU r fs]
    exact q

/-! ### len, list(x), tuple(x) of any list or tuple that is read -/
theorem call_len_seq : CallR X (.builtin "len") (fun xs H Q => ∃ p ys, xs = [.ref p] ∧ (SqL X.K H p ys ∨ SqT X.K H p ys) ∧ Q (.int ys.length) H) := by
  intro pins s σ H xs us Q I r h
  obtain ⟨p, ys, rfl, hq, q⟩ := h
  obtain ⟨u, rfl, rx⟩ := vals1 r
  cases rx
  have hn := line63
  rcases hq with hq | hq
  · obtain ⟨its, r', pl, hz⟩ := I.list hq
    have hlen := r'.length
    exact Calls.call_len_list pl.isList (by simp only [List.size_toArray] <;> omega) ⟨.int ys.length, H, I.tok _, ⟨s.toks + 1, by rw [List.size_toArray, hlen]⟩, q⟩
  · obtain ⟨its, r', pl, hz⟩ := I.tuple hq
    have hlen := r'.length
    exact len_tuple pl (by simp only [List.size_toArray] <;> omega) ⟨.int ys.length, H, I.tok _, ⟨s.toks + 1, by rw [List.size_toArray, hlen]⟩, q⟩
theorem call_list_of : CallR X (.type "list") (fun xs H Q => ∃ p ys, xs = [.ref p] ∧ (SqL X.K H p ys ∨ SqT X.K H p ys) ∧ ∀ l, H l = none → Q (.ref l) (upd H l (.lst ys))) := by
  intro pins s σ H xs us Q I r h
  obtain ⟨p, ys, rfl, hq, q⟩ := h
  obtain ⟨u, rfl, rx⟩ := vals1 r
  cases rx
  have fin : ∀ (its : List Value), Vals ys its → ys.length ≤ sizeLine → ∀ (h' : Heap) (c' : Nat), (∀ b o', s.heap.get? b = some o' → h'.get? b = some o') →
      h'.get? s.heap.objs.size = some { cls := .type "list", dict := none, data := .seq its.toArray c', slots := #[] } → EP X pins σ Q (.ref s.heap.objs.size) { s with heap := h' } := fun its r' hz h' c' kp e =>
    ⟨.ref s.heap.objs.size, _, I.laid (t' := s.toks) kp (Nat.le_refl _) (show ObjOk X.prog X.w _ h' _ (.lst ys) from ⟨hz, its, c', r', e⟩), rfl, q _ (I.hok.fresh (Nat.le_refl _))⟩
  rcases hq with hq | hq
  · obtain ⟨its, r', pl, hz⟩ := I.list hq
    have hlen := r'.length
    obtain ⟨o, ho, hc, n, hd⟩ := pl.isList
    exact call_list_seq p (.inl rfl) ho hc hd (fun h' c' kp e => fin its r' hz h' c' kp e) (by simp only [List.size_toArray] <;> omega)
  · obtain ⟨its, r', pl, hz⟩ := I.tuple hq
    have hlen := r'.length
    obtain ⟨o, ho, hc, n, hd⟩ := pl
    exact call_list_seq p (.inr rfl) ho hc hd (fun h' c' kp e => fin its r' hz h' c' kp e) (by simp only [List.size_toArray] <;> omega)

/-! ### the call of a builtin's method: o.m(..) -/
/-- the value is of that builtin type -/
def tyV (K : PySem.W.Frag) (T : String) (x : V) (H : Hp) : Prop := match x with
  | .str _ => T = "str"
  | .int _ => T = "int"
  | .ref p => (T = "list" ∧ ∃ xs, SqL K H p xs) ∨ (T = "tuple" ∧ ∃ o, K.lookup p = some o ∧ o.cls = .type "tuple" ∧ o.dict = none) ∨
      (T = "dict" ∧ ((∃ kvs, H p = some (.dK kvs)) ∨ ∃ kvs, H p = some (.dT kvs))) ∨ (T = "set" ∧ ∃ S n, H p = some (.set S n))
  | _ => False
theorem tyV_is {pins : List (Addr × Obj)} {σ : St} {H : Hp} {s : Shared} {T : String} {x : V} {v : Value} (I : Inv X pins σ H s) (r : RelV x v) (ty : tyV X.K T x H) :
    s.TypeIs v T ∧ ∀ a, v = .ref a → ∃ ob, s.heap.get? a = some ob ∧ ob.dict = none := by
  cases x with
  | str z =>
    obtain ⟨t, rfl⟩ := r
    cases (show T = "str" from ty)
    exact ⟨typeIs_str s z t, fun _ e => nomatch e⟩
  | int i =>
    obtain ⟨t, rfl⟩ := r
    cases (show T = "int" from ty)
    exact ⟨typeIs_int s i t, fun _ e => nomatch e⟩
  | ref p =>
    cases r
    rcases ty with ⟨rfl, xs, hq⟩ | ⟨rfl, o, hk, hc, hd⟩ | ⟨rfl, hk⟩ | ⟨rfl, S, n, hk⟩
    · obtain ⟨its, _, pl, _⟩ := I.list hq
      refine ⟨pl.isList.typeIs, fun a e => ?_⟩
      cases e
      obtain ⟨o, n, e, c, hd, _⟩ := pl
      exact ⟨o, e, hd⟩
    · refine ⟨⟨o, I.kIn p o hk, hc⟩, fun a e => ?_⟩
      cases e
      exact ⟨o, I.kIn _ o hk, hd⟩
    · have z : ∃ o, s.heap.get? p = some o ∧ o.ExactDict := by
        rcases hk with ⟨kvs, hk⟩ | ⟨kvs, hk⟩
        · obtain ⟨_, _, _, _, o, _, _, e, ex, _⟩ := I.hok p _ hk
          exact ⟨o, e, ex⟩
        · obtain ⟨_, _, _, _, o, _, _, e, ex, _⟩ := I.hok p _ hk
          exact ⟨o, e, ex⟩
      obtain ⟨o, e, ex⟩ := z
      refine ⟨⟨o, e, ex.1⟩, fun a e2 => ?_⟩
      cases e2
      exact ⟨o, e, ex.2.1⟩
    · obtain ⟨o, _, _, _, e, ex, _⟩ := I.hok p _ hk
      refine ⟨⟨o, e, ex.1⟩, fun a e2 => ?_⟩
      cases e2
      exact ⟨o, e, ex.2.1⟩
  | _ => exact False.elim ty
def tBM0 (K : PySem.W.Frag) (T : String) (r : V → List V → Hp → VK → Prop) (to : TE) : TE := fun σ H Q => to σ H fun x H1 => tyV K T x H1 ∧ r x [] H1 Q
def tBM (K : PySem.W.Frag) (T : String) (r : V → List V → Hp → VK → Prop) (to : TE) (t : TA) : TE := fun σ H Q => to σ H fun x H1 => tyV K T x H1 ∧ t σ H1 fun xs H2 => r x xs H2 Q
variable {o e : Expr} {es : List Expr} {to : TE} {t : TA} {name : Str} {apos cpos : Pos} {T id : String} {r : V → List V → Hp → VK → Prop}
theorem pe_bm0 (pa : PlainAttrs T) (slot : Slot T name id) (hty : typeOf (.builtin id) = pure (.type "method_descriptor")) (hm : MtR X id r) (ho : PE X o to)
    (hbase : attributeBase o name X.env (eval o X.env) = eval o X.env := by rfl) (hline : (apos.endLine == cpos.line) = true := by rfl) : PE X (.Call (.Attribute o name apos) [] [] cpos) (tBM0 X.K T r to) := by
  intro pins s σ H Q I h
  refine wpAny_Call_method0_late hbase hline (thn (ho pins s σ H _ I h) fun v s1 ⟨x, H1, I1, r1, ty, q1⟩ => ?_)
  obtain ⟨h1, h2⟩ := tyV_is I1 r1 ty
  exact ⟨T, id, pa, slot, hty, h1, h2, Calls.callWith_builtin rfl (PySem.evalArgs_none (hm pins s1 σ H1 x [] v [] Q I1 r1 .nil q1))⟩
theorem pe_bm (pa : PlainAttrs T) (slot : Slot T name id) (hty : typeOf (.builtin id) = pure (.type "method_descriptor")) (hm : MtR X id r) (ho : PE X o to) (ha : PA X (e :: es) t)
    (hbase : attributeBase o name X.env (eval o X.env) = eval o X.env := by rfl)
    (hfew : ((backTo cpos (starEach (e :: es) X.env)).all (fun x => !x.1) && (backToKw cpos (keywordEach [] X.env)).all (fun x => x.1.isSome)
      && decide ((e :: es).length + ([] : List Keyword).length + (if ([] : List Keyword).isEmpty then 0 else 1) < 30)) = true := by rfl)
    (hline : (apos.endLine == cpos.line) = true := by rfl) (hs : starEach (e :: es) X.env = (false, eval e X.env) :: starEach es X.env := by rfl) (hplain : (backTo cpos (starEach es X.env)).any (·.1) = false := by rfl) :
    PE X (.Call (.Attribute o name apos) (e :: es) [] cpos) (tBM X.K T r to t) := by
  intro pins s σ H Q I h
  refine wpAny_Call_method_late hbase hfew hline rfl (thn (ho pins s σ H _ I h) fun v s1 ⟨x, H1, I1, r1, ty, q1⟩ => ?_)
  obtain ⟨h1, h2⟩ := tyV_is I1 r1 ty
  refine ⟨T, id, pa, slot, hty, h1, h2, ?_⟩
  have hA := ha cpos pins s1 σ H1 _ I1 q1
  rw [hs] at hA ⊢
  refine Calls.callWith_builtin (by show (false || (backTo cpos (starEach es X.env)).any (·.1)) = false; rw [hplain] <;> rfl) (Calls.evalArgs_plain ?_)
  exact thn hA fun us s2 ⟨vs, H2, I2, r2, q2⟩ => hm pins s2 σ H2 x vs v us Q I2 r1 r2 q2
/- xs.append(e), list.index on a module's tuple .. are MtR facts of 06m -/
end
end L2

namespace L2
open PySem PySem.Spec PyProof.Rows

def MtM (X : Cx) (id : String) (r : V → List V → Hp → VK → Prop) : Prop :=
  ∀ (pins : List (Addr × Obj)) (s : Shared) (σ : St) (H : Hp) (x : V) (xs : List V) (v : Value) (us : List Value) (Q : VK), Inv X pins σ H s → RelV x v → Vals xs us → r x xs H Q →
    wpAny (model X.prog X.w) X.A (call (.builtin id) (v :: us)) (EP X pins σ Q) X.xe s

/-! ### lists of values -/
theorem Vals.one : ∀ {x : V} {us : List Value}, Vals [x] us → ∃ u, us = [u] ∧ RelV x u
  | _, _, .cons r .nil => ⟨_, rfl, r⟩
theorem Vals.zero : ∀ {us : List Value}, Vals [] us → us = []
  | _, .nil => rfl
theorem Vals.dropLast {xs : List V} {us : List Value} (h : Vals xs us) : Vals xs.dropLast us.dropLast := by
  induction h with
  | nil => exact .nil
  | cons r t ih =>
    cases t with
    | nil => exact .nil
    | cons q t' => exact .cons r ih
theorem erase_last {α : Type} (l : List α) : l.eraseIdx (l.length - 1) = l.dropLast := by
  induction l with
  | nil => rfl
  | cons a r ih =>
    cases r with
    | nil => rfl
    | cons b r =>
      have e : (a :: b :: r).length - 1 = ((b :: r).length - 1) + 1 := by
        have h1 : (a :: b :: r).length = r.length + 2 := rfl
        have h2 : (b :: r).length = r.length + 1 := rfl
        omega
      rw [e, List.eraseIdx_cons_succ, ih]
      all_goals rfl

section
variable {X : Cx} {pins : List (Addr × Obj)} {σ : St} {H : Hp} {s : Shared} {l b : Addr} {xs ys zs : List V}

/-! ### the two steps: a tracked list is rewritten, a new list is laid -/
theorem Inv.lset {its its' : List Value} {n : Nat} {f : Array Value → Array Value} {t' : Nat} (I : Inv X pins σ H s) (hH : H l = some (.lst xs))
    (e : s.heap.get? l = some { cls := .type "list", data := .seq its.toArray n }) (hf : f its.toArray = its'.toArray) (hv : Vals ys its') (hz : ys.length ≤ sizeLine) :
    Inv X pins σ (upd H l (.lst ys)) { s with heap := s.heap.update l (Obj.mapSeq f), toks := t' } := by
  have q := PySem.IsL.update e f
  rw [hf] at q
  refine I.write (x := l) (e := l) (by rw [hH]; exact trivial) (.inl rfl) (fun b' u hb hu => (Heap.get?_update_other s.heap (Obj.mapSeq f) (Ne.symm hb)).trans hu) ⟨_, q⟩ ?_
  exact ⟨hz, its', _, hv, q⟩
theorem Inv.lnew {its : List Value} {t' : Nat} (I : Inv X pins σ H s) (hv : Vals ys its) (hz : ys.length ≤ sizeLine) :
    Inv X pins σ (upd H s.heap.objs.size (.lst ys)) { s with heap := s.heap.push { cls := .type "list", data := .seq its.toArray }, toks := t' } :=
  I.laid (fun _ _ q => Heap.get?_push_of_some _ q) (Nat.le_refl _) ⟨hz, its, 0, hv, Heap.get?_push_size _ rfl⟩
theorem Inv.fresh (I : Inv X pins σ H s) : H s.heap.objs.size = none := I.hok.fresh (Nat.le_refl _)
theorem Inv.lstM (I : Inv X pins σ H s) (hH : H l = some (.lst xs)) : xs.length ≤ sizeLine ∧ ∃ (its : List Value) (n : Nat), Vals xs its ∧ xs.length = its.length ∧ s.heap.get? l = some { cls := .type "list", data := .seq its.toArray n } := by
  obtain ⟨z, its, n, r, e⟩ := I.hok l _ hH
  exact ⟨z, its, n, r, r.length, e⟩

theorem notLongL {n : Nat} (h : n ≤ sizeLine) : Builtin.List.listTooLong n = false := by
  unfold Builtin.List.listTooLong
  exact decide_eq_false (by omega)
end

section
variable {X : Cx}

/-! ### methods -/
def rAppend : V → List V → Hp → VK → Prop := fun x vs H Q => ∃ l xs y, x = .ref l ∧ vs = [y] ∧ H l = some (.lst xs) ∧ xs.length < sizeLine ∧ Q .non (upd H l (.lst (xs ++ [y])))
theorem mt_append : MtM X "list.append" rAppend := by
  intro pins s σ H x vs v us Q I rx rv h
  obtain ⟨l, xs, y, rfl, rfl, hH, hz, q⟩ := h
  cases rx
  obtain ⟨u, rfl, ru⟩ := rv.one
  obtain ⟨z, its, n, r, hl, e⟩ := I.lstM hH
  refine call_meets F.slot_list_append ⟨_, e, rfl⟩ F.entry_list_append (F.args_list_append_2 _ _) (PySem.list_append l its.toArray n u (by rw [List.size_toArray]; omega)) ⟨e, ?_⟩
  refine ⟨.non, _, I.lset (its' := its ++ [u]) hH e (by simp) (r.append (.cons ru .nil)) ?_, rfl, q⟩
  rw [List.length_append, List.length_singleton]
  omega

def rExtend : V → List V → Hp → VK → Prop := fun x vs H Q => ∃ l b xs zs, x = .ref l ∧ vs = [.ref b] ∧ H l = some (.lst xs) ∧ H b = some (.lst zs) ∧ xs.length + zs.length ≤ sizeLine ∧ Q .non (upd H l (.lst (xs ++ zs)))
theorem mt_extend : MtM X "list.extend" rExtend := by
  intro pins s σ H x vs v us Q I rx rv h
  obtain ⟨l, b, xs, zs, rfl, rfl, hH, hB, hz, q⟩ := h
  cases rx
  obtain ⟨u, rfl, ru⟩ := rv.one
  cases ru
  obtain ⟨z, its, n, r, hl, e⟩ := I.lstM hH
  obtain ⟨z2, its2, n2, r2, hl2, e2⟩ := I.lstM hB
  have hsz : its.toArray.size + its2.toArray.size ≤ sizeLine := by rw [List.size_toArray, List.size_toArray]; omega
  have hlong : ¬ (!its.toArray.isEmpty && Builtin.List.listTooLong (its.toArray.size + its2.toArray.size)) = true := by
    rw [notLongL hsz, Bool.and_false]
    exact Bool.false_ne_true
  refine call_meets F.slot_list_extend ⟨_, e, rfl⟩ F.entry_list_extend (F.args_list_extend_2 _ _)
    (AutoSeq1.list_extend_list_list_0 l its.toArray n b its2.toArray n2 hlong (by rw [List.size_toArray]; omega) (by omega)) ⟨e, e2, ?_⟩
  refine ⟨.non, _, I.lset (its' := its ++ its2) hH e (by simp) (r.append r2) ?_, rfl, q⟩
  rw [List.length_append]
  omega

def rPop : V → List V → Hp → VK → Prop := fun x vs H Q => ∃ l xs y, x = .ref l ∧ vs = [] ∧ H l = some (.lst xs) ∧ xs[xs.length - 1]? = some y ∧ Q y (upd H l (.lst xs.dropLast))
theorem mt_pop : MtM X "list.pop" rPop := by
  intro pins s σ H x vs v us Q I rx rv h
  obtain ⟨l, xs, y, rfl, rfl, hH, hy, q⟩ := h
  cases rx
  have hus := rv.zero
  subst hus
  obtain ⟨z, its, n, r, hl, e⟩ := I.lstM hH
  obtain ⟨u, hu, ru⟩ := r.get hy
  have hy' : its.toArray[its.toArray.size - 1]? = some u := by
    show its.toArray[its.length - 1]? = some u
    rw [← Array.getElem?_toList, ← hl]
    exact hu
  refine call_meets F.slot_list_pop ⟨_, e, rfl⟩ F.entry_list_pop (F.args_list_pop_1 _) (MeetsSeq.list_pop_last l its.toArray n u hy' (by rw [List.size_toArray]; omega)) ⟨e, ?_⟩
  refine ⟨y, _, I.lset (its' := its.dropLast) hH e ?_ r.dropLast ?_, ru, q⟩
  · show its.toArray.eraseIdxIfInBounds (its.toArray.size - 1) = its.dropLast.toArray
    rw [List.size_toArray, List.eraseIdxIfInBounds_toArray, erase_last]
  · rw [List.length_dropLast]
    omega




/-! ### list + list, list += list, list * int -/
def rCat : R2 := fun x y H Q => ∃ l b xs zs, x = .ref l ∧ y = .ref b ∧ H l = some (.lst xs) ∧ H b = some (.lst zs) ∧ xs.length + zs.length ≤ sizeLine ∧ ∀ p, H p = none → Q (.ref p) (upd H p (.lst (xs ++ zs)))
theorem op_cat : OpR X (binaryOp .Add) rCat := by
  intro pins s σ H x y v u Q I rx ry h
  obtain ⟨l, b, xs, zs, rfl, rfl, hH, hB, hz, q⟩ := h
  cases rx
  cases ry
  obtain ⟨z, its, n, r, hl, e⟩ := I.lstM hH
  obtain ⟨z2, its2, n2, r2, hl2, e2⟩ := I.lstM hB
  refine PySem.P.add_list e e2 ?_ (by rw [List.size_toArray, List.size_toArray]; omega)
  have ea : its.toArray ++ its2.toArray = (its ++ its2).toArray := by simp
  rw [ea]
  exact ⟨.ref _, _, I.lnew (t' := s.toks) (r.append r2) (by rw [List.length_append]; omega), rfl, q _ I.fresh⟩

/-! ### del xs[i] -/
end

/-! ### xs[a:b] = ys -/
section
variable {prog : Program} {w : World} {A : Around} {E : Value → Shared → Prop} {s : Shared}
set_option maxRecDepth 100000 in
end

section
variable {X : Cx}
end
end L2

namespace Att
open PySem PySem.W PySem.Calls PyProof.Rows

/-! ### the script -/
theorem ints_of_wellAll {P : Params} {h : Heap} : ∀ (ns : List Int) (vs : List Value), WellAll P h vs (ns.map WData.int) → IntsAre vs ns := by
  intro ns
  induction ns with
  | nil =>
    intro vs w
    rw [List.map_nil] at w
    cases w
    exact .nil
  | cons n ns ih =>
    intro vs w
    rw [List.map_cons] at w
    cases w with
    | cons a b =>
      cases a
      exact .cons _ _ (ih _ b)

theorem script_of {l : OpenLaw} {n : Nat} (hn : l.most = some n) {P : Params} {h : Heap} {args : List WData} {vals : List Value}
    (hpre : l.row.toRowW.claim.pre args = true) (hwl : WellAll P h vals args) :
    ∃ a vs ns, vals = [Value.ref a] ∧ args = [WData.list (ns.map WData.int)] ∧ h.get? a = some { cls := .type "list", data := .seq vs.toArray } ∧ IntsAre vs ns ∧ ns.length ≤ n := by
  have hsh : WShape.hasAll [] args [.list .int] = true := (pre_splitW hpre).1
  have hc : l.pre.holds [] { args := args } = true := (pre_splitW hpre).2
  obtain ⟨d, r, rfl, h1, h2⟩ := hasAllW_cons hsh
  obtain rfl := hasAllW_nil h2
  obtain ⟨xs, rfl, h3⟩ := hasW_list h1
  obtain ⟨ns, rfl⟩ := items_int h3
  have hlen : ns.length ≤ n := by
    unfold OpenLaw.pre at hc
    have h4 : (WTm.not (.lt (.lit (.int (n : Int))) (.len (.arg 0)))).holds [] { args := [.list (ns.map .int)] } = true := by
      have h4 := (holds_andW hc).1
      rw [hn] at h4
      exact h4
    have h5 := condW_of h4 (w_not (w_lt w_lit (w_len_list (w_arg rfl))))
    rw [List.length_map] at h5
    refine Nat.le_of_not_lt fun q => ?_
    have q' : (n : Int) < ((ns.length : Nat) : Int) := by omega
    first
      | (rw [decide_eq_true q'] at h5; exact absurd h5 (by decide))
      | (simp at h5; omega)
  cases hwl with
  | cons w1 w2 =>
    cases w2
    cases w1 with
    | list ho hall => exact ⟨_, _, ns, rfl, rfl, ho, ints_of_wellAll ns _ hall, hlen⟩

theorem post_true (l : OpenLaw) (args : List WData) : l.row.toRowW.claim.post args (.bool true) args = true :=
  postW_of (r := l.row.toRowW) (X := (true == true))
    (show WShape.has [] (.bool true) .bool = true by first | rfl | decide | simp [WShape.has, WShape.arms, WShape.armsAll])
    (show (WTm.eq .res (.lit (.bool true))).value [] { args := args, res := some (.bool true), after := args } = some (.bool (true == true)) from w_eq_bool (w_res rfl) w_lit) rfl

/-! ### the attachment: holds_open's last premise (the goal 'hc' behind k_head) from a wpAny of the law's body -/

/-- the same from a codeAny of the CALL (for a layer whose function contracts speak of calls) -/
theorem attach_call {l : OpenLaw} {n : Nat} {q : Program} {loose : List Str} {XP : (Str → Option Value) → Heap → Prop} {YP : World → Heap → Prop} {d : DefRec}
    (hn : l.most = some n) (hdf : d.params.defaults = [])
    (call : ∀ (w : World) (s₀ s₁ : Shared) (mg mb : Str → Option Value) (fa : Addr) (o : Obj) (pm cd doc : Value) (a : Addr) (vs : List Value) (ns : List Int),
      Ground q loose [] XP w s₀ mg mb s₁.heap → YP w s₁.heap →
      s₁.heap.get? fa = some o → o.data = .func (docDef d.name d.params d.body d.scope pm cd doc) → s₁.heap.CodeRec cd d.name → mg d.name = some (.ref fa) →
      s₁.heap.get? a = some { cls := .type "list", data := .seq vs.toArray } → IntsAre vs ns → ns.length ≤ n → s₁.gens = #[] →
      codeAny (model l.prog w) callerA (.call (.ref fa) ⟨[.ref a], []⟩) (fun r s' => r = .ok (.ret (.bool true)) ∧ OldK s₁.heap s'.heap ∧ s'.os = s₁.os ∧ AllBare s'.gens) s₁) :
    WalkO q loose XP YP l.row.toRowW d [] (fun f vs => PySem.call f vs) := by
  intro w s₀ s₁ mg mb G Y fa o pm cd doc dV kV ho hd hcd hD hmg hg args vals as hpre hlay hrd hwl hlo
  obtain rfl : dV = .none := Dflts.none hD hdf
  obtain rfl : kV = .none := Dflts.noKw hD
  obtain ⟨a, vs, ns, rfl, rfl, hobj, hints, hlen⟩ := script_of hn hpre hwl
  refine enter_call (codeAny_mono (call w s₀ s₁ mg mb fa o pm cd doc a vs ns G Y ho (fd_plain hd) hcd hmg hobj hints hlen hg) fun r s' hq => ?_)
  obtain ⟨rfl, h2, h3, h4⟩ := hq
  exact ⟨.inl ⟨.bool true, .bool true, [], rfl, fun _ => rfl, .bool true, post_true l _, fun _ => ⟨List.Pairwise.nil, fun _ hm => (nomatch hm)⟩⟩, h2, h3, h4⟩


/-! ### rules over ANY heap (no ledger) from facts about the written part K: the library's own take a ledger (News) for what they write -/
section
variable {prog : Program} {w : World} {A : Around} {E : Value → Shared → Prop} {s : Shared} {K : Frag}


/-- C(..): dict at size, instance at size + 1, then __init__ -/
theorem make_obj {R : Result → Shared → Prop} {C fI : Addr} {rest : List Value} {kw : List (Str × Value)}
    (X : K.In s.heap) (hm : makesIn K C = true) (hi : findIn K (.ref C) "__init__" = some (some (.ref fI))) (hf : isFn K (.ref fI) = true)
    (h : codeAny (model prog w) (A.under (.builtin "type.__call__" ⟨.ref C :: rest, kw⟩)) (.call (.ref fI) ⟨.ref (s.heap.objs.size + 1) :: rest, kw⟩) (InitBack (s.heap.objs.size + 1) R)
      { s with heap := (s.heap.push emptyDict).push (instObj C s.heap.objs.size) }) : codeAny (model prog w) A (.call (.ref C) ⟨rest, kw⟩) R s := by
  obtain ⟨hh, g, d, t, os⟩ := s
  exact make_core (makes_of X hm) (looks_findIn X hi) (fun self => bind_fn X self (beq_iff_eq.mp hf)) (.inl rfl) h

/-- x.name where the instance's dict holds the name and the class does not -/
theorem get_field {x C : Addr} {ox : Obj} {es : List DictEntry} {n : Nat} {name : Str} {expr : Bool} {v : Value} {Q : Value → Shared → Prop}
    (X : K.In s.heap) (I : PySem.W.InstAt s.heap x ox C (some (dictOf es n))) (hg : plainGet K C name = true) (hh : hasDictIn K C = true) (ha : findIn K (.ref C) name = some none)
    (hl : getL name es = some (some v)) (hv : handedIn v = true) (h : Q v { s with toks := s.toks + 1 }) : wpAny (model prog w) A (getAttr (.ref x) name expr) Q E s :=
  get_value X I (plainGet_of hg).1 (findObj_own hh ha rfl hl) hv h


/-! the whole heap as the ledger: makes every rule that writes through a ledger a rule over any heap -/

end
end Att

namespace L2
open PySem PySem.Spec PyProof.Rows

theorem vals_ints : ∀ {vs : List Value} {ns : List Int}, IntsAre vs ns → Vals (ns.map V.int) vs
  | _, _, .nil => .nil
  | _, _, .cons n t h => .cons ⟨t, rfl⟩ (vals_ints h)

/-- nothing is tracked but the script, known to the object (or it is an object of the module) -/
def Only (H : Hp) : Prop := ∀ b, H b = none ∨ ∃ o xs, H b = some (.frz o (.lst xs))

/-- THE HEAD: the law's promise, at the heap behind the top. F, the promise of the law's def, may use that base is part of the heap (so K.In base, base.Ns mainGlobals mg stand in Mod) -/
theorem law_call {P : Program} {w : World} {K : PySem.W.Frag} {mg mb : Str → Option Value} {CX : CXT} {k : Nat} {fa a : Addr} {fd : FuncData} {x : Str} {sp : Sp} {s₁ : Shared} {vs : List Value} {ns : List Int}
    (KX : K.In s₁.heap) (hns : s₁.heap.Ns mainGlobals mg) (hb : s₁.heap.Ns builtinsNs mb) (hbb : ∀ x : Str, x ≠ "__name__" → mb x = bootBuiltins x) (hlim : s₁.heap.NoLimit) (hg : s₁.gens = #[])
    (ha : s₁.heap.get? a = some { cls := .type "list", data := .seq vs.toArray }) (hi : IntsAre vs ns) (hl : ns.length ≤ sizeLine) (hr : Room k callerA)
    (F : ∀ base : Heap, K.In base → base.Ns mainGlobals mg → FnOk P w K mg base CX k fa fd [x] sp) (hbind : ∀ (s : Shared) (u : Value), BindsTo s fd ⟨[u], []⟩ [(x, u)])
    (hsp : ∀ H : Hp, Only H → SqL K H a (ns.map V.int) → sp [.ref a] H (fun v _ => v = .bl true) fun _ _ _ => False)
    (hCX : ∀ H e s', CX [] H s₁ (fun _ _ _ => False) e s' → False) :
    codeAny (model P w) callerA (.call (.ref fa) ⟨[.ref a], []⟩) (fun r s' => r = .ok (.ret (.bool true)) ∧ OldK s₁.heap s'.heap ∧ s'.os = s₁.os ∧ AllBare s'.gens) s₁ := by
  have rv := vals_ints hi
  have lenV := hi.length
  -- from an abstract heap in which nothing but the script may be tracked
  have core : ∀ H : Hp, Only H → SqL K H a (ns.map V.int) → HOk P w H s₁.heap → (∀ b, H b ≠ none → b = a) → (H a ≠ none → K.lookup a = none) →
      codeAny (model P w) callerA (.call (.ref fa) ⟨[.ref a], []⟩) (fun r s' => r = .ok (.ret (.bool true)) ∧ OldK s₁.heap s'.heap ∧ s'.os = s₁.os ∧ AllBare s'.gens) s₁ := by
    intro H hO hS hok hA hK
    have base_of : ∀ {b : Addr} {o : Obj}, s₁.heap.get? b = some o → H b = none → (hidT s₁.heap H).get? b = some o := fun e n => hidT_get e n
    have noA : ∀ {b : Addr} {o : Obj} {es : Array DictEntry} {ep : Nat}, s₁.heap.get? b = some o → o.data = .dict es ep → H b = none := fun {b o es ep} e d => by
      cases q : H b with
      | none => rfl
      | some u =>
        have e' : b = a := hA b (by rw [q]; simp)
        subst e'
        rw [ha] at e; cases e
        have d' : Data.seq vs.toArray _ = Data.dict es ep := d
        cases d'
    have nsK : ∀ {b : Addr} {m : Str → Option Value}, s₁.heap.Ns b m → (hidT s₁.heap H).Ns b m := fun {b m} ⟨o, es, ep, e, d, r⟩ => ⟨o, es, ep, base_of e (noA e d), d, r⟩
    have hKb : K.In (hidT s₁.heap H) := fun b o e => base_of (KX b o e) (by
      cases q : H b with
      | none => rfl
      | some u =>
        have e' : b = a := hA b (by rw [q]; simp)
        subst e'
        rw [hK (by rw [q]; simp)] at e; cases e)
    have hM : Mod K mg (hidT s₁.heap H) := ⟨hKb, nsK hns, ⟨mb, nsK hb, hbb⟩, let ⟨mc, h1, h2⟩ := hlim; ⟨mc, nsK h1, h2⟩⟩
    have e0 : Env0 P w K mg (hidT s₁.heap H) callerA [] s₁ H := ⟨rfl, hM, fun b o e => of_hidT e, Nat.le_of_eq (hidT_size _ _), trivial, fun b hb => absurd (show b ∈ ([] : List Addr) from hb) (by simp), hok, .of_eq hg⟩
    refine codeAny_mono ((F _ hKb (nsK hns)).run callerA [] s₁ H ⟨[.ref a], []⟩ [.ref a] [.ref a] _ _ hr e0 (hbind s₁ (.ref a)) (.cons rfl .nil) (hsp H hO hS)) fun r s' h => ?_
    cases r with
    | error e => exact (hCX H e s' h).elim
    | ok fl =>
      cases fl with
      | next => exact False.elim h
      | brk => exact False.elim h
      | cont => exact False.elim h
      | ret u =>
        obtain ⟨v, H', os, bare, un, hok', r', q⟩ := h
        have q' : v = .bl true := q
        subst q'
        obtain rfl : u = Value.bool true := r'
        refine ⟨rfl, OldK.of_keep fun b o e => ?_, os, bare⟩
        cases q : H b with
        | none => exact un.keep b o e q (by intro z; exact absurd (show b ∈ ([] : List Addr) from z) (by simp)) (by simp)
        | some u =>
          rcases hO b with z | ⟨ob, xs, z⟩
          · rw [q] at z; cases z
          · have z2 := un.frzs b ob _ z
            obtain ⟨e1, _⟩ := hok b _ z
            obtain ⟨e2, _⟩ := hok' b _ z2
            rw [e] at e1; cases e1
            exact e2
  cases hk : K.lookup a with
  | some o =>
    -- the script is one of the module's own objects
    have e := KX a o hk
    rw [ha] at e
    cases e
    refine core (fun _ => none) (fun _ => .inl rfl) (.inr ⟨_, vs.toArray, _, hk, rfl, rfl, rfl, by rw [List.size_toArray, lenV]; exact hl, by simpa using rv⟩) (fun b u z => by have z' : (none : Option HO) = some u := z; cases z') (fun b z => absurd rfl z) fun z => absurd rfl z
  | none =>
    refine core (fun b => if b = a then some (.frz { cls := .type "list", data := .seq vs.toArray } (.lst (ns.map V.int))) else none) (fun b => ?_) (.inl (.inr ⟨{ cls := .type "list", data := .seq vs.toArray }, if_pos rfl⟩)) (fun b u z => ?_) (fun b z => ?_) fun _ => hk
    · by_cases hb : b = a
      · exact .inr ⟨_, _, if_pos hb⟩
      · exact .inl (if_neg hb)
    · by_cases hb : b = a
      · have z' := (if_pos hb).symm.trans z
        cases z'
        subst hb
        exact ⟨ha, by rw [List.length_map]; exact hl, vs, _, rv, ha⟩
      · have z' := (if_neg hb).symm.trans z
        cases z'
    · by_cases hb : b = a
      · exact hb
      · exact absurd (if_neg hb) z
end L2

namespace L2
open PySem PySem.Spec PyProof.Rows


/-- the goal that k_head leaves (case hc), from the law's promise. F gives the function object fd (K's own) once, then the promise over every base -/
theorem walk_of {l : PySem.W.OpenLaw} {n k : Nat} {q : Program} {loose : List Str} {XP : (Str → Option Value) → Heap → Prop} {YP : World → Heap → Prop} {d : DefRec} {K : Params → PySem.W.Frag} {CX : World → CXT} {sp : World → Sp} {x : Str}
    (hn : l.most = some n) (hn2 : n ≤ sizeLine) (hdf : d.params.defaults = []) (hr : Room k callerA)
    (hY : ∀ (w : World) (h : Heap), YP w h → (K w.params).In h)
    (F : ∀ (w : World) (mg : Str → Option Value) (fa : Addr) (h : Heap), (K w.params).In h → h.Ns mainGlobals mg → mg d.name = some (.ref fa) →
      ∃ fd : FuncData, (∀ (s : Shared) (u : Value), BindsTo s fd ⟨[u], []⟩ [(x, u)]) ∧
        ∀ base : Heap, (K w.params).In base → base.Ns mainGlobals mg → FnOk l.prog w (K w.params) mg base (CX w) k fa fd [x] (sp w))
    (hsp : ∀ (w : World) (H : Hp) (a : Addr) (ns : List Int), ns.length ≤ n → Only H → SqL (K w.params) H a (ns.map V.int) → sp w [.ref a] H (fun v _ => v = .bl true) fun _ _ _ => False)
    (hCX : ∀ (w : World) (H : Hp) (s : Shared) (e : Value) (s' : Shared), CX w [] H s (fun _ _ _ => False) e s' → False) :
    PySem.W.WalkO q loose XP YP l.row.toRowW d [] (fun f vs => PySem.call f vs) := by
  refine Att.attach_call hn hdf fun w s₀ s₁ mg mb fa o pm cd doc a vs ns G Y ho hd hcd hmg hobj hints hlen hg => ?_
  have KX := hY w _ Y
  obtain ⟨fd, hb, hF⟩ := F w mg fa _ KX G.T.g hmg
  exact law_call KX G.T.g G.T.b G.T.builtins G.T.nolimit hg hobj hints (Nat.le_trans hlen hn2) hr hF hb (fun H hO hS => hsp w H a ns hlen hO hS) fun H e s' => hCX w H s₁ e s'
end L2

/- THE LAST THEOREM (shape; LID, My.* are yours):
   My.Adr: a structure of the addresses that your layer names (classes, functions); My.Txt K t: a structure (Prop) of the equations over K;
   My.txt_mk : {K} {implicit addresses ..} (e1 : nsIn K mainGlobals "law" = some (some (.ref f))) (e2 : K.lookup f = some ⟨oc, od, .func (fnOf "law" "law" params body scope dV kV doc pm an cdv ct), sl⟩) (e3 : codeIn K cdv "law" = true) .. : ∃ t, My.Txt K t

set_option maxRecDepth 100000 in
set_option maxHeartbeats 0 in
theorem PySem.Challenge.cw_LID_holds : PySem.Challenge.rw_LID.Holds := by
  w_on; o_law; k_head; (case hw => w_witness2)
  k_fill
  refine L2.walk_of (l := PySem.Challenge.rw_LID) (n := 63) (k := 40) (x := "script") (CX := fun w => ..) (sp := fun _ => My.sp_law) rfl (by decide) rfl ⟨rfl, by decide, by decide⟩ (fun w h Y => PySem.W.kIn_of Y) ?F ?S ?C
  case F =>
    intro w mg fa h KX G hmg
    have T : ∃ t, My.Txt (L2.KOf KX) t := by
      dsimp only [L2.KOf]                          -- K must stand as «<heap const> w.params» for k_is
      refine' My.txt_mk ?e1 ?e2 ?e3 ..
      (case e1 => PySem.W.k_is)                    -- in the order: a name -> its address -> its object -> its parts
      (case e2 => PySem.W.k_is)
      ..
    obtain ⟨t, T⟩ := T
    have e0 := hmg.symm.trans (PySem.W.mg_of KX G T.law)
    cases e0                                       -- fa is the law's own address
    exact ⟨_, fun s u => .of_eq rfl, fun base kb nb => My.law_fn T kb nb⟩     -- if «.of_eq rfl» comes too early: refine' ⟨_, ?b, fun base kb nb => My.law_fn T kb nb⟩; exact fun s u => .of_eq rfl
  case S => exact fun w H a ns hl hO hS => ..
  case C => exact ..
(the tactic k_is has no namespace: write k_is) -/

/-! SHORT WORDS over the layer: a def of the text, its body, what a loop and a test want. -/
namespace L2
open PySem PySem.Spec PyProof.Rows

/-! ### the text by places -/
/-- the j-th statement of a class's body -/
def inClass (s : Stmt) (j : Nat) : Stmt := match s with
  | .ClassDef _ _ _ body _ _ _ _ _ _ _ => body.getD j (.Pass ⟨0, 0, 0, 0⟩)
  | _ => .Pass ⟨0, 0, 0, 0⟩
def defArgs (s : Stmt) : Arguments := match s with
  | .FunctionDef _ a _ _ _ _ _ _ _ _ => a
  | _ => { posonlyargs := [], args := [], vararg := none, kwonlyargs := [], kw_defaults := [], kwarg := none, defaults := [] }
def defBody (s : Stmt) : List Stmt := match s with
  | .FunctionDef _ _ b _ _ _ _ _ _ _ => b
  | _ => []
def defScope (s : Stmt) : Scope := match s with
  | .FunctionDef _ _ _ _ _ _ sc _ _ _ => sc
  | _ => { kind := .function, names := [], isGenerator := false, isCoroutine := false }

/-! ### no exception leaves a def -/
abbrev CX0 : CXT := fun _ _ _ _ _ _ => False
abbrev E0 : XK := fun _ _ _ => False
theorem pass0 {X : Cx} : Passes CX0 X E0 := fun _ _ _ _ _ _ _ h => h.elim

/-! ### a def (or method) of the text as it stands behind the top -/
structure Fun (K : PySem.W.Frag) (x qual : Str) (st : Stmt) (f : Addr) (fd : FuncData) : Prop where
  ex : ∃ (oc : Value) (od : Option Addr) (kV doc pm : Value) (an : Option Addr) (cdv ct : Value) (osl : Array (Option Value)),
    fd = PySem.W.fnOf x qual (defArgs st) (defBody st) (defScope st) .none kV doc pm an cdv ct ∧ K.lookup f = some ⟨oc, od, .func fd, osl⟩ ∧ PySem.W.codeIn K cdv qual = true
  kp : PySem.W.keepIn K (.ref f) = true
section
variable {P : Program} {w : World} {K : PySem.W.Frag} {mg : Str → Option Value} {base : Heap}
/-- THE RULE for a def: its body as a term of rules, and the reading of that term -/
theorem Fun.ok {x qual : Str} {st : Stmt} {f : Addr} {fd : FuncData} {N ps : List Str} {k : Nat} {sp : Sp} (F : Fun K x qual st f fd) (S : FnScope N ps (defScope st)) (len : ∀ vs H Q E, sp vs H Q E → vs.length = ps.length)
    (hbody : ∀ (cdv : Value) (A : Around) (outer : List Env) (s : Shared) (H : Hp) (vs : List V) (Q : VK) (E : XK), Room k (A.deeper (envOfC qual (defScope st) s.heap.objs.size f cdv)) → sp vs H Q E →
      ∃ t, PSs (cxOf CX0 P w K mg base N qual (defScope st) f cdv A outer s H E).nox (defBody st) t ∧ t { nx := fun _ H' => Q .non H', rt := Q } (start N vs) H) : FnOk P w K mg base CX0 (k + 1) f fd ps sp := by
  obtain ⟨oc, od, kV, doc, pm, an, cdv, ct, osl, rfl, lk, hcd⟩ := F.ex
  refine fn_of lk hcd S len fun A outer s H vs Q E hr hsp => ?_
  obtain ⟨t, h, q⟩ := hbody cdv A outer s H vs Q E hr hsp
  exact ⟨t, h.nox, q⟩
/-- how its arguments bind (no defaults): h is «fun _ _ _ _ _ _ us hl => match us, hl with | [_, _], _ => rfl», one _ a parameter -/
theorem Fun.binds {x qual : Str} {st : Stmt} {f : Addr} {fd : FuncData} {ps : List Str} (F : Fun K x qual st f fd)
    (h : ∀ (kV doc pm : Value) (an : Option Addr) (cdv ct : Value) (us : List Value), us.length = ps.length → bindArgs (PySem.W.fnOf x qual (defArgs st) (defBody st) (defScope st) .none kV doc pm an cdv ct) ⟨us, []⟩ = pure (ps.zip us)) : Binds K fd ps [] := by
  obtain ⟨oc, od, kV, doc, pm, an, cdv, ct, osl, rfl, lk, hcd⟩ := F.ex
  exact .all (h kV doc pm an cdv ct)
theorem fun_mk {x qual : Str} {st : Stmt} {f : Addr} {oc : Value} {od an : Option Addr} {osl : Array (Option Value)} {kV doc pm cdv ct : Value} (l : K.lookup f = some ⟨oc, od, .func (PySem.W.fnOf x qual (defArgs st) (defBody st) (defScope st) .none kV doc pm an cdv ct), osl⟩)
    (c : PySem.W.codeIn K cdv qual = true) (k : PySem.W.keepIn K (.ref f) = true) : Fun K x qual st f (PySem.W.fnOf x qual (defArgs st) (defBody st) (defScope st) .none kV doc pm an cdv ct) := ⟨⟨oc, od, kV, doc, pm, an, cdv, ct, osl, rfl, l, c⟩, k⟩
end

/-! ### expressions in short: the name that stands in the i-th slot -/
section
variable {X : Cx}
theorem pv (i : Nat) {x : Str} {pos : Pos} (hN : X.N[i]? = some x := by rfl) (hv : Vis X.env.scope x := by first | exact Or.inl rfl | exact Or.inr (Or.inl rfl) | exact Or.inr (Or.inr rfl)) (hd : (x == ("__debug__" : Str)) = false := by decide)
    (hcd : (x == ("__classdict__" : Str)) = false := by decide) : PE X (.Name x pos) (tVar i) := pe_var hN hv hd hcd
end

/-! ### tests -/
theorem iteF {A B : Prop} (h : B) : if false = true then A else B := by
  rw [if_neg Bool.false_ne_true]
  exact h
theorem iteT {A B : Prop} (h : A) : if true = true then A else B := by
  rw [if_pos rfl]
  exact h
theorem ite2 {c A B : Prop} [Decidable c] (h1 : c → A) (h2 : ¬ c → B) : if c then A else B := by
  by_cases h : c
  · rw [if_pos h]
    exact h1 h
  · rw [if_neg h]
    exact h2 h

/-! ### heaps -/
/-- all that was tracked is as it was -/
def Same (H H' : Hp) : Prop := ∀ b o, H b = some o → H' b = some o
theorem Same.trans {H H1 H2 : Hp} (a : Same H H1) (b : Same H1 H2) : Same H H2 := fun c o h => b c o (a c o h)
theorem Same.free {H H' : Hp} (e : Same H H') {l : Addr} (h : H' l = Option.none) : H l = Option.none := by
  cases q : H l with
  | none => rfl
  | some o =>
    rw [e l o q] at h
    cases h
theorem Same.seq {K : PySem.W.Frag} {H H' : Hp} {a : Addr} {xs : List V} (e : Same H H') (h : SqL K H a xs) : SqL K H' a xs := by
  rcases h with (h | ⟨o, h⟩) | h
  · exact .inl (.inl (e _ _ h))
  · exact .inl (.inr ⟨o, e _ _ h⟩)
  · exact .inr h

end L2

set_option Elab.async false
set_option linter.all false
set_option maxRecDepth 100000
set_option maxHeartbeats 4000000
namespace L2
open PySem PySem.Spec PyProof.Rows

/-! ### comprehensions -/
def closL (cells : List (Str × Addr)) : List (Str × NameKind) → List (Str × Addr) → List (Str × Addr)
  | [], acc => acc
  | (n, k) :: r, acc => closL cells r (if k == .free then (n, (cells.lookup n).getD 0) :: acc else acc)

theorem closureFor_eq {scope : Scope} {env : Env} (h : ∀ y ∈ scope.names, y.2 = .free → ∃ c, env.cells.lookup y.1 = some c) : closureFor scope env = pure (closL env.cells scope.names []) := by
  unfold closureFor
  have go : ∀ (l : List (Str × NameKind)) (acc : List (Str × Addr)), (∀ y ∈ l, y.2 = .free → ∃ c, env.cells.lookup y.1 = some c) →
      (forIn l acc fun (p : Str × NameKind) (cs : List (Str × Addr)) => (if (p.2 == .free) = true then (do let c ← cellOf env p.1; pure (ForInStep.yield ((p.1, c) :: cs))) else pure (ForInStep.yield cs) : Sem _)) = (pure (closL env.cells l acc) : Sem _) := by
    intro l
    induction l with
    | nil => intro acc _; rfl
    | cons p r ih =>
      intro acc hp
      obtain ⟨n, k⟩ := p
      rw [List.forIn_cons]
      have hr := fun a => ih a fun y hy => hp y (List.mem_cons_of_mem _ hy)
      by_cases hk : k = .free
      · subst hk
        obtain ⟨c, hc⟩ := hp (n, .free) List.mem_cons_self rfl
        have e : cellOf env n = pure c := by unfold cellOf; rw [hc]
        simp only [beq_self_eq_true, if_true, e, pure_bind, hr, closL, hc, Option.getD_some]
      · have hb : (k == NameKind.free) = false := by simpa using hk
        simp only [hb, Bool.false_eq_true, if_false, pure_bind, hr, closL]
  have := go scope.names [] h
  exact (congrArg (fun (m : Sem (List (Str × Addr))) => m >>= fun cs => pure cs) this).trans (pure_bind _ _)

theorem closL_lookup {cells : List (Str × Addr)} {y : Str} {c : Addr} : ∀ (l : List (Str × NameKind)) (acc : List (Str × Addr)), (closL cells l acc).lookup y = some c →
    acc.lookup y = some c ∨ ((y, NameKind.free) ∈ l ∧ c = (cells.lookup y).getD 0)
  | [], acc, h => .inl h
  | (n, k) :: r, acc, h => by
    unfold closL at h
    rcases closL_lookup r _ h with h' | ⟨h1, h2⟩
    · by_cases hk : k = .free
      · subst hk
        simp only [beq_self_eq_true, if_true, List.lookup_cons] at h'
        by_cases hy : y = n
        · subst hy
          simp only [beq_self_eq_true] at h'
          cases h'
          exact .inr ⟨List.mem_cons_self, rfl⟩
        · have : (y == n) = false := by simpa using hy
          simp only [this] at h'
          exact .inl h'
      · have hb : (k == NameKind.free) = false := by simpa using hk
        simp only [hb, Bool.false_eq_true, if_false] at h'
        exact .inl h'
    · exact .inr ⟨List.mem_cons_of_mem _ h1, h2⟩
theorem closL_some {cells : List (Str × Addr)} {y : Str} : ∀ (l : List (Str × NameKind)) (acc : List (Str × Addr)), ((y, NameKind.free) ∈ l ∨ ∃ c, acc.lookup y = some c) → ∃ c, (closL cells l acc).lookup y = some c
  | [], acc, h => by
    rcases h with h | h
    · cases h
    · exact h
  | (n, k) :: r, acc, h => by
    unfold closL
    refine closL_some r _ ?_
    by_cases hk : k = .free
    · subst hk
      simp only [beq_self_eq_true, if_true, List.lookup_cons]
      by_cases hy : y = n
      · subst hy; simp
      · have e : (y == n) = false := by simpa using hy
        simp only [e]
        rcases h with h | h
        · rcases List.mem_cons.mp h with h | h
          · cases h; exact absurd rfl hy
          · exact .inl h
        · exact .inr h
    · have hb : (k == NameKind.free) = false := by simpa using hk
      simp only [hb, Bool.false_eq_true, if_false]
      rcases h with h | h
      · rcases List.mem_cons.mp h with h | h
        · cases h; exact absurd rfl hk
        · exact .inl h
      · exact .inr h

/-- the scope of a comprehension over one name x that reads the def's names ys -/
structure CompOk (scope : Scope) (env : Env) (x : Str) (ys : List Str) : Prop where
  kind : scope.kind = .function
  nocell : ∀ y ∈ scope.names, y.2 ≠ .cell
  names : ∀ y ∈ scope.names, y.2 = .local → scope.names.lookup y.1 = some .local
  hx : scope.names.lookup x = some .local
  free : ∀ y ∈ scope.names, y.2 = .free → y.1 ≠ x ∧ env.kindOf y.1 = some .cell
  read : ∀ y ∈ ys, (y, NameKind.free) ∈ scope.names ∧ (relabel scope env).names.lookup y = some .cell

def compB (scope : Scope) (env : Env) (x : Str) (ys : List Str) : Bool :=
  decide (scope.kind = .function) && scope.names.all (fun y => decide (y.2 ≠ .cell)) && scope.names.all (fun y => decide (y.2 ≠ .local) || decide (scope.names.lookup y.1 = some .local)) &&
  decide (scope.names.lookup x = some .local) && scope.names.all (fun y => decide (y.2 ≠ .free) || (decide (y.1 ≠ x) && decide (env.kindOf y.1 = some .cell))) &&
  ys.all (fun y => decide ((y, NameKind.free) ∈ scope.names) && decide ((relabel scope env).names.lookup y = some .cell))
theorem compOk_of {scope : Scope} {env : Env} {x : Str} {ys : List Str} (h : compB scope env x ys = true) : CompOk scope env x ys := by
  unfold compB at h
  simp only [Bool.and_eq_true, decide_eq_true_eq, List.all_eq_true, Bool.or_eq_true] at h
  obtain ⟨⟨⟨⟨⟨h1, h2⟩, h3⟩, h4⟩, h5⟩, h6⟩ := h
  exact ⟨h1, h2, fun y hy e => (h3 y hy).resolve_left (fun z => z e), h4, fun y hy e => (h5 y hy).resolve_left (fun z => z e), h6⟩

def cSt (js : List Nat) (o : Option V) (σ : St) : St := o :: js.map fun j => (σ[j]?).join

def compCx (X : Cx) (scope : Scope) (x : Str) (ys : List Str) (C : Addr) (s₀ : Shared) (H₀ : Hp) (fp : List Addr) : Cx where
  prog := X.prog
  w := X.w
  K := X.K
  mg := X.mg
  base := X.base
  A := X.A
  N := x :: ys
  s₀ := s₀
  H₀ := H₀
  env := compEnvC scope (closL X.env.cells scope.names []) C X.env
  outer := X.stack
  stack := X.stack
  ex := fp
  fn := fun y => decide (y = x)
  calm := true
  pn := []
  xe := fun _ _ => False

section
variable {X : Cx} {pins : List (Addr × Obj)} {σ : St} {H : Hp} {s : Shared} {scope : Scope} {x : Str} {ys : List Str} {js : List Nat}

theorem mem_relabel {scope : Scope} {env : Env} {y : Str} {k : NameKind} (h : (relabel scope env).names.lookup y = some k) : ∃ k0, (y, k0) ∈ scope.names ∧ (k = k0 ∨ (k = .cell ∧ k0 = .free)) := by
  have hm := PySem.mem_of_lookup h
  unfold relabel at hm
  obtain ⟨⟨n, k0⟩, hn, e⟩ := List.mem_map.mp hm
  dsimp only at e
  split at e
  · cases e
    rename_i hc
    simp only [Bool.and_eq_true, beq_iff_eq] at hc
    exact ⟨k0, hn, .inr ⟨rfl, hc.1.1⟩⟩
  · cases e
    exact ⟨k, hn, .inl rfl⟩

theorem clos_cells (ok : X.Ok) (S : CompOk scope X.env x ys) {y : Str} {c : Addr} (h : (closL X.env.cells scope.names []).lookup y = some c) : (y, NameKind.free) ∈ scope.names ∧ X.env.cells.lookup y = some c := by
  rcases closL_lookup _ _ h with h | ⟨h1, h2⟩
  · cases h
  · refine ⟨h1, ?_⟩
    obtain ⟨c', e⟩ := ok.has y (.inl (S.free _ h1 rfl).2)
    rw [e] at h2
    rw [e, h2]
    rfl

/-- the comprehension's block is entered: D its list, C its names -/
theorem comp_in (hc : X.calm = true) (S : CompOk scope X.env x ys) (hjs : js.map (fun j => X.N[j]?) = ys.map some) {fp : List Addr} {h₁ : Heap} {H3 : Hp} {s3 : Shared}
    (I3 : Inv X pins σ H3 s3) (hf : ∀ b ∈ fp, FpOk X pins H3 b ∧ b < s3.heap.objs.size)
    (hn : h₁.Ns s3.heap.objs.size fun _ => none) (k34 : ∀ b o, s3.heap.get? b = some o → h₁.get? b = some o) (tk : Nat) :
    Inv (compCx X scope x ys s3.heap.objs.size s3 H3 fp) [] (cSt js none σ) H3 { s3 with heap := h₁, toks := tk } := by
  have hcells : ∀ y c, (closL X.env.cells scope.names []).lookup y = some c → X.env.cells.lookup y = some c := fun y c h => (clos_cells I3.ok S h).2
  have hcs : ∀ y c, X.env.cells.lookup y = some c → c < s3.heap.objs.size := fun y c h => by
    obtain ⟨v, o, ho, _⟩ := I3.cell y c h
    exact Heap.lt_size ho
  have nofp : ∀ b o, X.base.get? b = some o → b ∉ fp := fun b o e hb => by
    obtain ⟨⟨_, _, _, h4, _, _⟩, _⟩ := hf b hb
    rcases h4 with h4 | h4
    · exact I3.ok.noex b o e h4
    · exact absurd (Nat.lt_of_lt_of_le (Heap.lt_size e) (Nat.le_trans I3.ok.bsz h4)) (Nat.lt_irrefl _)
  refine ⟨⟨I3.ok.mod, S.kind, I3.ok.glob, I3.ok.blt, Nat.le_refl _, fun y z c h1 h2 => I3.ok.inj y z c (hcells y c h1) (hcells z c h2), fun y hy => ?_, fun y c h1 h2 => ?_, fun _ => I3.ok.hd hc, I3.ok.frames, .inl rfl,
      fun b hb => ⟨Nat.ne_of_lt (hf b hb).2, fun y c h => (hf b hb).1.2.2.2.2.1 y c (hcells y c h)⟩, I3.bs, Nat.le_trans I3.ok.bsz I3.sz, nofp, fun b hb z => ?_, I3.stack, I3.stkFree⟩,
    rfl, I3.bare, Un.kept k34, ⟨_, hn, fun i y v e1 e2 e3 => ?_⟩, fun y c h => ?_, I3.hok.fresh (Nat.le_refl _), fun y c h => I3.freeC y c (hcells y c h), fun p hp => absurd (show p ∈ ([] : List (Addr × Obj)) from hp) (by simp), I3.hok.kept k34, ?_⟩
  · have hy : (relabel scope X.env).names.lookup y = some .cell ∨ (relabel scope X.env).names.lookup y = some .free := hy
    have hm : (y, NameKind.free) ∈ scope.names := by
      rcases hy with hy | hy
      · obtain ⟨k0, h1, h2⟩ := mem_relabel hy
        rcases h2 with h2 | ⟨_, h2⟩
        · subst h2; exact absurd rfl (S.nocell _ h1)
        · subst h2; exact h1
      · obtain ⟨k0, h1, h2⟩ := mem_relabel hy
        rcases h2 with h2 | ⟨h2, _⟩
        · subst h2; exact h1
        · cases h2
    exact closL_some _ _ (.inl hm)
  · have e : y = x := of_decide_eq_true h1
    exact absurd e (S.free _ (clos_cells I3.ok S h2).1 rfl).1
  · rcases List.mem_cons.mp (I3.stkSub b z) with e | e
    · exact (hf b hb).1.2.1 e
    · exact (hf b hb).1.2.2.1 e
  · cases i with
    | zero => cases e2
    | succ i =>
      have e1 : ys[i]? = some y := e1
      have e2 : (js.map fun j => (σ[j]?).join)[i]? = some (some v) := e2
      rw [List.getElem?_map] at e2
      cases hj : js[i]? with
      | none => rw [hj] at e2; cases e2
      | some j =>
        rw [hj] at e2
        have e2' : (σ[j]?).join = some v := Option.some.inj e2
        have e4 : σ[j]? = some (some v) := by
          cases q : σ[j]? with
          | none => rw [q] at e2'; cases e2'
          | some o => rw [q] at e2'; rw [show o = some v from e2']
        have e5 : X.N[j]? = some y := by
          have q := congrArg (fun l => l[i]?) hjs
          rw [List.getElem?_map, List.getElem?_map, hj, e1] at q
          exact Option.some.inj q
        have hm := List.mem_of_getElem? e1
        obtain ⟨m1, m2⟩ := S.read y hm
        have hk := (S.free _ m1 rfl).2
        obtain ⟨m, hnm, hl⟩ := I3.loc
        obtain ⟨u, r, l⟩ := hl j y v e5 e4 (.inr (.inl hk))
        refine ⟨u, r, .inr ⟨.inl m2, ?_⟩⟩
        rcases l with ⟨l, _⟩ | ⟨_, c, e, z⟩
        · have : some NameKind.local = some NameKind.cell := l.symm.trans hk
          cases this
        · obtain ⟨c', e'⟩ := closL_some (cells := X.env.cells) scope.names [] (.inl m1)
          have e'' := hcells y c' e'
          rw [e] at e''
          cases e''
          obtain ⟨o, ho, hd⟩ := z
          exact ⟨c, e', o, k34 c o ho, hd⟩
  · obtain ⟨v, o, ho, hd⟩ := I3.cell y c (hcells y c h)
    exact ⟨v, o, k34 c o ho, hd⟩
  · show (cSt js none σ).length = (x :: ys).length
    have q := congrArg List.length hjs
    simp only [List.length_map] at q
    simp [cSt, q]

/-- the comprehension's block is left -/
theorem comp_out {fp : List Addr} {D : Addr} {H2 H3 H' : Hp} {s2 s3 s' : Shared} {σ' : St} {C : Addr} (I2 : Inv X pins σ H2 s2) (hf : ∀ b ∈ fp, FpOk X pins H2 b) (k23 : ∀ b o, s2.heap.get? b = some o → s3.heap.get? b = some o)
    (hos : s3.os = s2.os) (hD : s2.heap.objs.size ≤ D) (h23 : ∀ b, b ≠ D → H3 b = H2 b) (t23 : H2 D = none) (I' : Inv (compCx X scope x ys C s3 H3 fp) [] σ' H' s') : Inv X pins σ H' s' := by
  have neD : ∀ b o, s2.heap.get? b = some o → b ≠ D := fun b o e z => absurd (Nat.lt_of_lt_of_le (Heap.lt_size e) (z ▸ hD)) (Nat.lt_irrefl _)
  have tne : ∀ b o, H2 b = some o → b ≠ D := fun b o e z => by subst z; rw [t23] at e; cases e
  refine I2.call' (ch := fp) (I'.os.trans hos) ⟨fun b o e n hb hx => ?_, fun b o e n hb hx => ?_, fun b o e n hx => ?_, fun b o e hx => ?_, fun b xs e => ?_, fun b o u e => ?_, fun b ps e => ?_⟩ I'.hok I'.bare fun b hb => ?_
  · exact I'.base.keep b o (k23 b o e) ((h23 b (neD b o e)).trans n) hb hx
  · exact I'.base.slot b o (k23 b o e) ((h23 b (neD b o e)).trans n) hb hx
  · exact I'.base.free b o (k23 b o e) ((h23 b (neD b o e)).trans n) hx
  · exact I'.base.there b o (k23 b o e) hx
  · exact I'.base.tups b xs ((h23 b (tne b _ e)).trans e)
  · exact I'.base.frzs b o u ((h23 b (tne b _ e)).trans e)
  · exact I'.base.tbls b ps ((h23 b (tne b _ e)).trans e)
  · obtain ⟨f0, f1, f2, f3, f4, f5⟩ := hf b hb
    exact ⟨f3, f1, f4, f5⟩
end

/-! ### two statements with a word between them -/
def tSeqM (t u : TS) : TS := fun D σ H => ∃ M : St → Hp → Prop, t { D with nx := M } σ H ∧ ∀ σ' H', M σ' H' → u D σ' H'
theorem pss_consM {X : Cx} {st : Stmt} {rest : List Stmt} {t u : TS} (h1 : PS X st t) (h2 : PSs X rest u) : PSs X (st :: rest) (tSeqM t u) := by
  intro pins s σ H D I h
  obtain ⟨M, ht, hu⟩ := h
  have h2' : PSs X rest (fun D' σ' H' => D' = D ∧ M σ' H') := fun pins s σ' H' D' I' ⟨e, m⟩ => by subst e; exact h2 pins s σ' H' D' I' (hu σ' H' m)
  refine pss_cons (u := fun D' σ' H' => D' = D ∧ M σ' H') (t := fun D' σ' H' => ∃ D0, t D0 σ' H' ∧ D0.nx = M ∧ D0.rt = D'.rt ∧ D0.bk = D'.bk ∧ D0.ct = D'.ct ∧ ∀ σ' H', M σ' H' → D'.nx σ' H') (fun pins s σ' H' D' I' ⟨D0, k, e1, e2, e3, e4, e5⟩ => ?_) h2' pins s σ H D I ?_
  · refine thn (h1 pins s σ' H' D0 I' k) fun f s' q => ?_
    cases f with
    | next => obtain ⟨a, b, c, d⟩ := q; exact ⟨a, b, c, e5 _ _ (e1 ▸ d)⟩
    | brk => obtain ⟨a, b, c, d⟩ := q; exact ⟨a, b, c, e3 ▸ d⟩
    | cont => obtain ⟨a, b, c, d⟩ := q; exact ⟨a, b, c, e4 ▸ d⟩
    | ret v => obtain ⟨a, b, c, d, r, e⟩ := q; exact ⟨a, b, c, d, r, e2 ▸ e⟩
  · exact ⟨{ D with nx := M }, ht, rfl, rfl, rfl, rfl, fun σ' H' m => ⟨rfl, m⟩⟩

/-! ### if, with a word for each way -/
def tIfM (c : TT) (t u : TS) : TS := fun D σ H => ∃ Mt Mf : Hp → Prop, (c σ H fun b H1 => if b = true then Mt H1 else Mf H1) ∧ (∀ H1, Mt H1 → t D σ H1) ∧ ∀ H1, Mf H1 → u D σ H1
theorem ps_ifM {X : Cx} {c : Expr} {a b : List Stmt} {pos : Pos} {tc : TT} {t u : TS} (hc : PT X c tc) (ha : PSs X a t) (hb : PSs X b u) : PS X (.If c a b pos) (tIfM tc t u) := by
  intro pins s σ H D I h
  obtain ⟨Mt, Mf, h1, h2, h3⟩ := h
  have ha' : PSs X a (fun D' σ' H' => D' = D ∧ σ' = σ ∧ Mt H') := fun pins s σ' H' D' I' ⟨e1, e2, m⟩ => by subst e1 e2; exact ha pins s σ' H' D' I' (h2 H' m)
  have hb' : PSs X b (fun D' σ' H' => D' = D ∧ σ' = σ ∧ Mf H') := fun pins s σ' H' D' I' ⟨e1, e2, m⟩ => by subst e1 e2; exact hb pins s σ' H' D' I' (h3 H' m)
  have hc' : PT X c (fun σ' H' Q => σ' = σ ∧ H' = H ∧ ∀ b H1, (if b = true then Mt H1 else Mf H1) → Q b H1) := fun pins s σ' H' Q I' ⟨e1, e2, m⟩ => by
    subst e1 e2
    refine thn (hc pins s σ' H' _ I' h1) fun b s1 ⟨H1, I1, q1⟩ => ⟨H1, I1, m b H1 q1⟩
  refine ps_if hc' ha' hb' pins s σ H D I ⟨rfl, rfl, fun b H1 q => ?_⟩
  cases b with
  | true => exact iteT ⟨rfl, rfl, q⟩
  | false => exact iteF ⟨rfl, rfl, q⟩

/-- the tests of a comprehension -/
def PTs (X : Cx) (ifs : List Expr) (t : TT) : Prop :=
  ∀ (pins : List (Addr × Obj)) (s : Shared) (σ : St) (H : Hp) (Q : Bool → Hp → Prop), Inv X pins σ H s → t σ H Q →
    wpAny (model X.prog X.w) X.A (forIn ifs true fun c r => if r = true then do let ok ← isTrue c X.env (eval c X.env); pure (ForInStep.yield ok) else pure (ForInStep.yield r)) (TP X pins σ Q) X.xe s
def tTrue : TT := fun _ H Q => Q true H
theorem pts_nil {X : Cx} : PTs X [] tTrue := fun _ _ _ H _ I h => wpAny_tests_nil ⟨H, I, h⟩

section
variable {prog : Program} {w : World} {A : Around} {R : Result → Shared → Prop} {s : Shared}
theorem compLoop_own {elt target iter : Expr} {ifs : List Expr} {scope : Scope} {pos : Pos} {it acc : Value} {env : Env} (I : Nat → Shared → Prop)
    (turn : ∀ n s, I n s → wpAny (model prog w) A (pyNext it) (fun r s₁ => match r with
      | none => R (.ok .next) s₁
      | some v => wpAny (model prog w) A (letOwnedTupleGo target it v) (fun _ s₁' => wpAny (model prog w) A (assign target env v) (fun _ s₂ =>
          wpAny (model prog w) A (forIn ifs true fun c r => if r = true then do let ok ← isTrue c env (eval c env); pure (ForInStep.yield ok) else pure (ForInStep.yield r)) (fun ok s₃ =>
            if ok = true then wpAny (model prog w) A (eval elt env) (fun x s₄ =>
              wpAny (model prog w) A (call (.builtin "list.append") [acc, x]) (fun _ s₅ => ∃ m, m < n ∧ I m s₅) (fun _ _ => False) s₄) (fun _ _ => False) s₃
            else ∃ m, m < n ∧ I m s₃) (fun _ _ => False) s₂) (fun _ _ => False) s₁') (fun _ _ => False) s₁) (fun _ _ => False) s)
    (n : Nat) (h : I n s) :
    codeAny (model prog w) A (.compLoop (.ListComp elt [⟨target, iter, ifs, 0⟩] scope pos) 0 it acc env) R s := by
  refine codeAny_loop rfl I (fun n s hI => ?_) n h
  show wpAny _ A ((compTurn (.ListComp elt [⟨target, iter, ifs, 0⟩] scope pos) 0 it acc env).onRaise (fun x => do noteFrame x env; theTreesLotGoes x)) _ _ s
  refine wpAny_noted ?_
  rw [compTurn_list]
  refine wpAny_bind (wpAny_standAt (wpAny_bind (wpAny_mono (turn n s hI) (fun r s₁ h₁ => ?_) fun _ _ h' => h'.elim)))
  cases r with
  | none => exact wpAny_pure h₁
  | some v =>
    refine wpAny_bind (wpAny_mono h₁ (fun _ s₁' h₁' => ?_) fun _ _ h' => h'.elim)
    refine wpAny_bind (wpAny_mono h₁' (fun _ s₂ h₂ => wpAny_bind (wpAny_mono h₂ (fun ok s₃ h₃ => ?_) fun _ _ h' => h'.elim)) fun _ _ h' => h'.elim)
    cases ok with
    | false => exact wpAny_pure ⟨rfl, h₃⟩
    | true =>
      exact wpAny_bind (wpAny_bind (wpAny_mono h₃ (fun x s₄ h₄ => wpAny_bind (wpAny_mono h₄ (fun _ s₅ h₅ => wpAny_pure (wpAny_pure ⟨rfl, h₅⟩)) fun _ _ h' => h'.elim)) fun _ _ h' => h'.elim))
end

/-- the reading of a comprehension: W by the turn, a measure and the heap; D its list -/
def CompW (J : It) (js : List Nat) (tc : TT) (te : TE) (σ : St) (R : V → Hp → Prop) (D : Addr) (H1 : Hp) : Prop :=
  ∃ W : Nat → Nat → Hp → Prop, (∃ m, W 0 m (upd H1 D (.lst []))) ∧ ∀ i m H, W i m H →
    (J.stop i H ∧ R (.ref D) H) ∨ (J.go i H ∧ ∃ N : Hp → Prop, (∀ H', N H' → ∃ m', m' < m ∧ W (i + 1) m' H') ∧ ∀ x H', J.yld i H x H' → tc (cSt js (some x) σ) H' fun c H2 => if c = true then te (cSt js (some x) σ) H2 fun y H3 =>
      ∃ ys, H3 D = some (.lst ys) ∧ ys.length < sizeLine ∧ N (upd H3 D (.lst (ys ++ [y]))) else N H2)
def tCompR (wi : TI) (js : List Nat) (tc : TT) (te : TE) (σ : St) (H : Hp) (R : V → Hp → Prop) : Prop :=
  wi σ H fun J H1 => ∀ D, H1 D = none → CompW J js tc te σ R D H1

section
variable {X : Cx} {elt iter : Expr} {x : Str} {px pos : Pos} {ifs : List Expr} {scope : Scope} {wi : TI} {tc : TT} {te : TE} {ys : List Str} {js : List Nat}

theorem comp_core {use : Option (Value → Sem Unit)} {pins : List (Addr × Obj)} {s : Shared} {σ : St} {H : Hp} {R : V → Hp → Prop} {Q : Value → Shared → Prop} {pos' : Pos} (hc : X.calm = true) (hi : PI X (.Name x px) iter wi)
    (S : CompOk scope X.env x ys) (hjs : js.map (fun j => X.N[j]?) = ys.map some) (hnd : (x :: ys).Nodup)
    (ht : ∀ C s₀ H₀ fp, PTs (compCx X scope x ys C s₀ H₀ fp) ifs tc) (he : ∀ C s₀ H₀ fp, PE (compCx X scope x ys C s₀ H₀ fp) elt te)
    (I : Inv X pins σ H s) (h : tCompR wi js tc te σ H R)
    (fin : ∀ (D C : Addr) (H' : Hp) (s' : Shared) (m : Str → Option Value), Inv X pins σ H' s' → s'.heap.Ns C m → H' C = none → C ≠ X.env.locals → X.s₀.heap.objs.size ≤ C → (∀ y c, X.env.cells.lookup y = some c → c ≠ C) → (∀ p ∈ X.pn ++ pins, p.1 ≠ C) →
      R (.ref D) H' → compPost (model X.prog X.w) X.A X.xe use Q (.ref D) C (.ok .next) s')
    (hs : ∀ x, foldedSetIterable iter X.env x = pure x) :
    wpAny (model X.prog X.w) X.A (comprehension (.ListComp elt [⟨.Name x px, iter, ifs, 0⟩] scope pos) scope X.env pos' (newList []) false (eval iter X.env) use) Q X.xe s := by
  refine wpAny_comprehension_free (use := use) rfl hs (closureFor_eq fun y hy e => I.ok.has y.1 (.inl (S.free y hy e).2)) S.kind S.names ?_
  refine thn (hi pins s σ H _ I h) fun v s1 h1 => thn h1 fun itv s2 h2 => ?_
  obtain ⟨it, fp, tn, J, H2, e, I2, T, st2, f2, rd⟩ := h2
  subst e
  refine wpAny_newObj_type (wpAny_newFunctionEnv S.nocell (by intro y hy; simp at hy) (fun h₁ hns₁ hsb₁ => ?_) S.kind)
  have hDn : H2 s2.heap.objs.size = none := I2.hok.fresh (Nat.le_refl _)
  obtain ⟨W, ⟨m0, w0⟩, turn⟩ := rd s2.heap.objs.size hDn
  have I3 : Inv X pins σ (upd H2 s2.heap.objs.size (.lst [])) { s2 with heap := s2.heap.push { cls := .type "list", data := .seq ([] : List Value).toArray }, toks := s2.toks } := I2.lnew (its := []) .nil (Nat.zero_le _)
  have k23 : ∀ b o, s2.heap.get? b = some o → (s2.heap.push { cls := .type "list", dict := none, data := .seq ([] : List Value).toArray }).get? b = some o := fun b o e => Heap.get?_push_of_some _ e
  have hfpo : ∀ b ∈ fp, b < s2.heap.objs.size := fun b hb => by obtain ⟨o, e, _⟩ := T.obj _ _ st2 b hb; exact Heap.lt_size e
  generalize hH3 : s2.heap.push { cls := .type "list", dict := none, data := .seq ([] : List Value).toArray } = hp3 at hns₁ hsb₁ I3 k23 ⊢
  have hC3 : hp3.objs.size = s2.heap.objs.size + 1 := by rw [← hH3, Heap.size_push]
  have k34 : ∀ b o, hp3.get? b = some o → h₁.get? b = some o := fun b o e => hsb₁.extBut b o (Nat.ne_of_lt (Heap.lt_size e)) (Heap.get?_push_of_some _ e)
  have hf3 : ∀ b ∈ fp, FpOk X pins (upd H2 s2.heap.objs.size (.lst [])) b ∧ b < hp3.objs.size := fun b hb => ⟨⟨by rw [upd_ne (Nat.ne_of_lt (hfpo b hb))]; exact (f2 b hb).1, (f2 b hb).2⟩, by rw [hC3]; exact Nat.lt_succ_of_lt (hfpo b hb)⟩
  have I4 := comp_in (x := x) (ys := ys) (js := js) (scope := scope) (fp := fp) (h₁ := h₁) hc S hjs I3 hf3 hns₁ k34 (s2.toks + ([] : List (Str × Value)).length)
  have st4 : tn 0 h₁ := T.keep _ _ _ st2 fun b _ o e => k34 b o (k23 b o e)
  -- what stays true of the iterator's records
  have stat : ∀ {H' : Hp}, (∀ b ∈ fp, H' b = none) → ∀ b ∈ fp, FpOk (compCx X scope x ys hp3.objs.size { s2 with heap := hp3, toks := s2.toks } (upd H2 s2.heap.objs.size (.lst [])) fp) [] H' b := fun hn b hb => by
    refine ⟨hn b hb, ?_⟩
    have q := I4.ok.exf b hb
    exact ⟨q.1, I4.ok.exfs b hb, .inl hb, q.2, fun p hp => absurd (show p ∈ ([] : List (Addr × Obj)) from hp) (by simp)⟩
  have loop : ∀ s₄ : Shared, s₄ = { s2 with heap := h₁, toks := s2.toks + ([] : List (Str × Value)).length } →
      codeAny (model X.prog X.w) X.A (.compLoop (.ListComp elt [⟨.Name x px, iter, ifs, 0⟩] scope pos) 0 (.ref it) (.ref s2.heap.objs.size) (compEnvC scope (closL X.env.cells scope.names []) hp3.objs.size X.env))
        (compPost (model X.prog X.w) X.A X.xe use Q (.ref s2.heap.objs.size) hp3.objs.size) s₄ := by
    rintro s₄ rfl
    refine compLoop_own (fun n s' => ∃ i o H', Inv (compCx X scope x ys hp3.objs.size { s2 with heap := hp3, toks := s2.toks } (upd H2 s2.heap.objs.size (.lst [])) fp) [] (cSt js o σ) H' s' ∧ tn i s'.heap ∧ (∀ b ∈ fp, H' b = none) ∧ W i n H') ?_ m0
      ⟨0, none, _, I4, st4, fun b hb => (hf3 b hb).1.1, w0⟩
    rintro n s5 ⟨i, o, H5, I5, st5, fr5, w5⟩
    rcases turn i n H5 w5 with ⟨stop, qn⟩ | ⟨go, N, hN, step⟩
    · refine thn (T.done (compCx X scope x ys hp3.objs.size { s2 with heap := hp3, toks := s2.toks } (upd H2 s2.heap.objs.size (.lst [])) fp) rfl rfl rfl rfl i [] s5 _ H5 (fun _ _ => False) I5 (stat fr5) st5 stop) fun r s6 ⟨hr, I6⟩ => ?_
      subst hr
      have I7 : Inv X pins σ H5 s6 := comp_out (D := s2.heap.objs.size) (H3 := upd H2 s2.heap.objs.size (.lst [])) (s3 := { s2 with heap := hp3, toks := s2.toks }) I2 f2 k23 rfl (Nat.le_refl _) (fun b hb => upd_ne hb) hDn I6
      obtain ⟨m, hm, _⟩ := I6.loc
      refine fin s2.heap.objs.size hp3.objs.size H5 s6 m I7 hm I6.free ?_ ?_ (fun y c e z => ?_) (fun p hp z => ?_) qn
      · intro z
        have := I2.lt
        rw [← z, hC3] at this
        exact absurd this (Nat.not_lt.mpr (Nat.le_succ _))
      · rw [hC3]; exact Nat.le_succ_of_le I2.sz
      · obtain ⟨v', o', ho', _⟩ := I2.cell y c e
        have := Heap.lt_size ho'
        rw [z, hC3] at this
        exact absurd this (Nat.not_lt.mpr (Nat.le_succ _))
      · have := Heap.lt_size (I2.pin p hp).1
        rw [z, hC3] at this
        exact absurd this (Nat.not_lt.mpr (Nat.le_succ _))
    · refine thn (T.item (compCx X scope x ys hp3.objs.size { s2 with heap := hp3, toks := s2.toks } (upd H2 s2.heap.objs.size (.lst [])) fp) rfl rfl rfl rfl i [] s5 _ H5 (fun _ _ => False) I5 (stat fr5) st5 go) fun r s6 ⟨u, hr, h6⟩ => ?_
      subst hr
      refine thn h6 fun _ s7 ⟨xv, H7, I7, r7, y7, st7, fr7⟩ => ?_
      have I7' := I7.pinned (stat fr7) (T.obj _ _ st7)
      have again : ∀ {s' : Shared} {H' : Hp} {m' : Nat}, Inv (compCx X scope x ys hp3.objs.size { s2 with heap := hp3, toks := s2.toks } (upd H2 s2.heap.objs.size (.lst [])) fp) ([] ++ pinsAt fp s7.heap) (cSt js (some xv) σ) H' s' → m' < n → W (i + 1) m' H' →
          ∃ m, m < n ∧ ∃ i o H', Inv (compCx X scope x ys hp3.objs.size { s2 with heap := hp3, toks := s2.toks } (upd H2 s2.heap.objs.size (.lst [])) fp) [] (cSt js o σ) H' s' ∧ tn i s'.heap ∧ (∀ b ∈ fp, H' b = none) ∧ W i m H' := fun {s' H' m'} J hm hw => by
        refine ⟨m', hm, i + 1, some xv, H', J.unpinned, T.keep _ _ _ st7 fun b hb o e => (J.pin (b, o) (List.mem_append_right _ (List.mem_append_right _ (mem_pinsAt hb e)))).1, fun b hb => ?_, hw⟩
        obtain ⟨o, e, d⟩ := T.obj _ _ st7 b hb
        exact (J.pin (b, o) (List.mem_append_right _ (List.mem_append_right _ (mem_pinsAt hb e)))).2.1
      have hg : PG (compCx X scope x ys hp3.objs.size { s2 with heap := hp3, toks := s2.toks } (upd H2 s2.heap.objs.size (.lst [])) fp) (.Name x px) (gName 0) := pg_name hnd rfl (.inl (lookup_relabel_local S.hx)) (.inr (lookup_relabel_local S.hx))
      refine thn (hg _ s7 _ H7 xv u (fun σ' H' => σ' = cSt js (some xv) σ ∧ H' = H7) I7' r7 ⟨rfl, rfl⟩) fun _ s8 ⟨σ8, H8, I8, e8, e8'⟩ => ?_
      subst e8 e8'
      refine thn (ht _ _ _ _ _ s8 _ _ _ I8 (step xv _ y7)) fun c s9 ⟨H9, I9, q9⟩ => ?_
      cases c with
      | false =>
        obtain ⟨m', hm, hw⟩ := hN H9 q9
        exact again I9 hm hw
      | true =>
        show wpAny _ _ _ _ _ _
        refine thn (he _ _ _ _ _ s9 _ _ _ I9 q9) fun y s10 ⟨yv, H10, I10, r10, q10⟩ => ?_
        obtain ⟨zs, hD10, hz, hw⟩ := q10
        obtain ⟨m', hm, hw⟩ := hN _ hw
        refine thn (mt_append _ s10 _ H10 (.ref s2.heap.objs.size) [yv] _ [y] (fun _ H' => H' = upd H10 s2.heap.objs.size (.lst (zs ++ [yv]))) I10 rfl (.cons r10 .nil) ⟨_, zs, yv, rfl, rfl, hD10, hz, rfl⟩) fun _ s11 ⟨_, H11, I11, _, e11⟩ => ?_
        subst e11
        exact again I11 hm hw
  exact codeAny_compStart_list (loop _ rfl) (T.self _ 0 _ _ _ st4 (loop _ rfl))


/-- name = a comprehension, where the two stores are exchanged -/
def sComp (i : Nat) (wi : TI) (js : List Nat) (tc : TT) (te : TE) : TS := fun D σ H => tCompR wi js tc te σ H fun v H' => D.nx (σ.set i (some v)) H'
theorem ps_setComp {i : Nat} {y : Str} {py spos : Pos} (hN : X.N.Nodup) (hiy : X.N[i]? = some y) (hy : X.env.scope.names.lookup y = some .local) (hc : X.calm = true) (hi : PI X (.Name x px) iter wi) (S : compB scope X.env x ys = true) (hjs : js.map (fun j => X.N[j]?) = ys.map some) (hnd : (x :: ys).Nodup)
    (ht : ∀ C s₀ H₀ fp, PTs (compCx X scope x ys C s₀ H₀ fp) ifs tc) (he : ∀ C s₀ H₀ fp, PE (compCx X scope x ys C s₀ H₀ fp) elt te)
    (hsw : swapsWith (.ListComp elt [⟨.Name x px, iter, ifs, 0⟩] scope pos) (some (.Name y py)) spos.line X.env = pure true := by rfl)
    (hs : ∀ x, foldedSetIterable iter X.env x = pure x := by intro _; rfl) : PS X (.Assign [.Name y py] (.ListComp elt [⟨.Name x px, iter, ifs, 0⟩] scope pos) spos) (sComp i wi js tc te) := by
  intro pins s σ H D I h
  rw [exec_Assign_Name_used _ _ _ _ hsw]
  refine wpAny_bind (wpAny_standAt (wpAny_bind ?_))
  show wpAny _ _ (do let _ ← comprehension (.ListComp elt [⟨.Name x px, iter, ifs, 0⟩] scope pos) scope X.env _ (newList []) false (eval iter X.env) (some (assign (.Name y py) X.env))) _ _ s
  refine wpAny_bind (wpAny_mono (comp_core (use := some (assign (.Name y py) X.env)) (Q := fun _ s' => SP X pins D .next s') hc hi (compOk_of S) hjs hnd ht he I h (fun D' C H' s' m J hn f1 f2 f3 f4 f5 q => ?_) hs)
    (fun _ s' hq => wpAny_pure (wpAny_pure hq)) fun _ _ e => e)
  show wpAny _ _ (assign (.Name y py) X.env (.ref D')) _ _ s'
  refine wpAny_assign_Name (store_ok2 (v := .ref D') J hN hiy (.inl hy) rfl (fun s'' J' ⟨a, sb, ha⟩ => ?_) (.inr hy))
  have ne : C ≠ a := by
    rcases ha with ha | ha
    · rw [ha]; exact f2
    · exact Ne.symm (f4 _ _ ha)
  refine ⟨m, hn.sameBut sb ne, fun h' hs' => ⟨_, _, ?_, q⟩⟩
  exact J'.turned (t' := s''.toks) (fun b o hb e => (hs'.2 b hb).trans e) f1 f2 (.inr f3) f4 f5
end
end L2

set_option Elab.async false
set_option linter.all false
set_option maxRecDepth 100000
set_option maxHeartbeats 4000000
namespace HT
open PySem PySem.AutoSeq1 PyProof.Rows
theorem ext_tup (l : Addr) (items : Array Value) (n : Nat) (b : Addr) (items2 : Array Value) (n2 : Nat) (dd : Option Addr) (sl : Array (Option Value)) (hs0 : ¬(!items.isEmpty && Builtin.List.listTooLong (items.size + items2.size)) = true) (hs1 : items.size ≤ sizeLine) (hs2 : items.size + items2.size ≤ sizeLine + 1) :
    Meets (Builtin.«list.extend» ⟨[.ref l, .ref b], []⟩) (fun _ R s => s.heap.get? l = some { cls := .type "list", dict := none, data := .seq items n, slots := #[] } ∧ s.heap.get? b = some { cls := .type "tuple", dict := dd, data := .seq items2 n2, slots := sl } ∧ R (.ok (.ret Value.none)) { s with heap := s.heap.update l (Obj.mapSeq fun x => x ++ items2), toks := s.toks }) :=
  .of_wp fun prog w A R s h => by
    obtain ⟨hp, g, d, tk, os⟩ := s; obtain ⟨hl, hb, h⟩ := h; have f1 := AutoSeq1.idx_int; have f2 := AutoSeq1.sub_tuple_tuple; have f3 := AutoSeq1.sub_list_list; have f4 := AutoSeq1.sub_tuple_list; have f5 := AutoSeq1.sub_list_tuple;
    have hz' : (items ++ items2).size ≤ sizeLine + 1 := by rw [Array.size_append]; exact hs2
    wp_walk using (wpAny_updateSeq hl rfl (hz := hs1) (_hz' := hz')), wpAny_loadPart' hl, wpAny_loadPart' hb; exact ⟨_, rfl, h⟩
end HT
namespace L2
open PySem PySem.Spec PyProof.Rows

/-! ### products of any size -/
section
variable {X : Cx}
theorem op_mulB : OpR X (binaryOp .Mult) (rI IntMulOk fun i j => .int (i * j)) := opI fun _ _ _ _ _ _ _ hc q => mul_int q hc
end

/-! ### isinstance against built-in types -/
def isT (T c : String) : Option Bool := PySem.W.kitOne { } (.type T) (.type c)
def isAny (T : String) (cs : List String) : Option Bool := PySem.W.kitAny { } (.type T) (cs.map Value.type)
theorem kitOne_type (K : PySem.W.Frag) (T c : String) : PySem.W.kitOne K (.type T) (.type c) = isT T c := rfl
theorem kitAny_type (K : PySem.W.Frag) (T : String) : ∀ cs : List String, PySem.W.kitAny K (.type T) (cs.map Value.type) = isAny T cs
  | [] => rfl
  | c :: r => by
    unfold isAny
    simp only [List.map_cons, PySem.W.kitAny, kitOne_type]
    have ih := kitAny_type K T r
    unfold isAny at ih
    rw [ih]
def rIsi (K : PySem.W.Frag) : List V → Hp → VK → Prop := fun xs H Q => ∃ x T c b, xs = [x, .ty c] ∧ TyOf K H x (.type T) ∧ isT T c = some b ∧ Q (.bl b) H
def rIsiT (K : PySem.W.Frag) : List V → Hp → VK → Prop := fun xs H Q => ∃ x T tp cs b, xs = [x, .ref tp] ∧ TyOf K H x (.type T) ∧ H tp = some (.tup (cs.map V.ty)) ∧ isAny T cs = some b ∧ Q (.bl b) H
theorem vals_types : ∀ {cs : List String} {us : List Value}, Vals (cs.map V.ty) us → us = cs.map Value.type
  | [], _, .nil => rfl
  | c :: r, _, .cons h t => by
    rw [show _ = Value.type c from h, vals_types t]
    rfl
section
variable {X : Cx}
theorem call_isi : CallR X (.builtin "isinstance") (rIsi X.K) := by
  intro pins s σ H xs us Q I r h
  obtain ⟨x, T, c, b, rfl, ty, e, q⟩ := h
  obtain ⟨u, w', rfl, r1, r2⟩ := vals2 r
  cases (show w' = Value.type c from r2)
  exact isinst_ok I r1 ty ((kitOne_type _ _ _).trans e) fun tk => ⟨.bl b, H, I.tok tk, rfl, q⟩
theorem kitx_ty {K : PySem.W.Frag} {H : Hp} {pins : List (Addr × Obj)} {σ : St} {s : Shared} {x : V} {u : Value} {T : String} (I : Inv X pins σ H s) (rx : RelV x u) (ty : TyOf K H x (.type T)) :
    ∃ P : Heap → Prop, PySem.W.KitX X.K u (.type T) P ∧ P s.heap ∧ u ≠ .builtin "__main__.__loader__#opaque" := by
  cases ty with
  | non => cases (show u = Value.none from rx); exact ⟨_, PySem.W.kitx_none, True.intro, fun z => nomatch z⟩
  | bl y => cases (show u = Value.bool y from rx); exact ⟨_, PySem.W.kitx_bool, True.intro, fun z => nomatch z⟩
  | int i => obtain ⟨t, q⟩ := (show ∃ t, u = Value.int i t from rx); cases q; exact ⟨_, PySem.W.kitx_int, True.intro, fun z => nomatch z⟩
  | str y => obtain ⟨t, q⟩ := (show ∃ t, u = Value.str y t from rx); cases q; exact ⟨_, PySem.W.kitx_str, True.intro, fun z => nomatch z⟩
  | flt y => obtain ⟨t, q⟩ := (show ∃ t, u = Value.float y t from rx); cases q; exact ⟨_, PySem.W.kitx_float, True.intro, fun z => nomatch z⟩
  | @lst a xs ea =>
    cases (show u = Value.ref a from rx)
    obtain ⟨_, _, n, _, h1⟩ := (show ObjOk X.prog X.w H s.heap a (.lst xs) from I.hok a _ ea)
    exact ⟨_, PySem.W.kitx_list, ⟨_, h1, rfl⟩, fun z => nomatch z⟩
  | @frz a ob xs ea =>
    cases (show u = Value.ref a from rx)
    obtain ⟨_, _, _, n, _, h1⟩ := (show ObjOk X.prog X.w H s.heap a (.frz ob (.lst xs)) from I.hok a _ ea)
    exact ⟨_, PySem.W.kitx_list, ⟨_, h1, rfl⟩, fun z => nomatch z⟩
  | @tup a xs ea =>
    cases (show u = Value.ref a from rx)
    obtain ⟨_, _, _, p⟩ := (show ObjOk X.prog X.w H s.heap a (.tup xs) from I.hok a _ ea)
    obtain ⟨o, h1, h2, _⟩ := p
    exact ⟨_, PySem.W.kitx_tuple, ⟨o, h1, h2⟩, fun z => nomatch z⟩
  | @dK a kvs ea =>
    cases (show u = Value.ref a from rx)
    obtain ⟨_, _, vs, _, p⟩ := (show ObjOk X.prog X.w H s.heap a (.dK kvs) from I.hok a _ ea)
    obtain ⟨o, es, ep, h1, h2, _⟩ := p
    exact ⟨_, PySem.W.kitx_dict, ⟨o, h1, h2.1⟩, fun z => nomatch z⟩
  | @dT a kvs ea =>
    cases (show u = Value.ref a from rx)
    obtain ⟨_, _, xs, _, o, es, ep, h1, h2, _⟩ := (show ObjOk X.prog X.w H s.heap a (.dT kvs) from I.hok a _ ea)
    exact ⟨_, PySem.W.kitx_dict, ⟨o, h1, h2.1⟩, fun z => nomatch z⟩
theorem call_isiT : CallR X (.builtin "isinstance") (rIsiT X.K) := by
  intro pins s σ H xs us Q I r h
  obtain ⟨x, T, tp, cs, b, rfl, ty, ht, e, q⟩ := h
  obtain ⟨u, w', rfl, r1, r2⟩ := vals2 r
  cases (show w' = Value.ref tp from r2)
  obtain ⟨P, Z, hP, hx⟩ := kitx_ty I r1 ty
  obtain ⟨_, its, rv, o, ho, hc, n, hd⟩ := (show ObjOk X.prog X.w H s.heap tp (.tup (cs.map V.ty)) from I.hok tp _ ht)
  obtain ⟨c0, dd, data, sl⟩ := o
  simp only at hc hd
  subst hc hd
  have hi := vals_types rv
  subst hi
  exact PySem.W.kia_tup Z I.kIn hP ho ((kitAny_type _ _ _).trans e) hx fun tk => ⟨.bl b, H, I.tok tk, rfl, q⟩
end

/-! ### a list against the empty list -/
section
variable {X : Cx}
theorem sqL_obj {pins : List (Addr × Obj)} {σ : St} {H : Hp} {s : Shared} {a : Addr} {xs : List V} (I : Inv X pins σ H s) (h : SqL X.K H a xs) :
    ∃ (its : List Value) (n : Nat) (dd : Option Addr) (sl : Array (Option Value)), Vals xs its ∧ s.heap.get? a = some { cls := .type "list", dict := dd, data := .seq its.toArray n, slots := sl } := by
  obtain ⟨its, r, ⟨o, n, e, c, d, dt⟩, _⟩ := I.list h
  obtain ⟨c0, d0, dt0, sl0⟩ := o
  simp only at c d dt
  subst c dt
  exact ⟨its, n, d0, sl0, r, e⟩
def rNeNil (K : PySem.W.Frag) : R2 := fun x y H Q => ∃ a b xs, x = .ref a ∧ y = .ref b ∧ SqL K H a xs ∧ SqL K H b [] ∧ Q (.bl (!xs.isEmpty)) H
def rEqNil (K : PySem.W.Frag) : R2 := fun x y H Q => ∃ a b xs, x = .ref a ∧ y = .ref b ∧ SqL K H a xs ∧ SqL K H b [] ∧ Q (.bl xs.isEmpty) H
theorem op_neNil (hu : X.A.units < cLine) : OpR X (compareOp .NotEq) (rNeNil X.K) := by
  intro pins s σ H x y v u Q I rx ry h
  obtain ⟨a, b, xs, rfl, rfl, ha, hb, q⟩ := h
  cases rx
  cases ry
  obtain ⟨its, n, dd, sl, r, ho⟩ := sqL_obj I ha
  obtain ⟨its2, n2, dd2, sl2, r2, ho2⟩ := sqL_obj I hb
  cases r2
  cases r with
  | nil =>
    refine richCompare_meets_room (op := .NotEq) ⟨_, ho, rfl⟩ ⟨_, ho2, rfl⟩ PySem.F.slot_list_ne PySem.F.entry_list_ne (PySem.F.args_list_ne_2 _ _) (SeqAt.list_neAt a b _ _ n n2 dd dd2 sl sl2 rfl (fun _ => true)) ⟨ho, ho2, ?_, ?_⟩ hu
    · intro j h1; simp at h1
    · exact ⟨(fun x => nomatch x), ⟨.bl false, H, I, rfl, q⟩⟩
  | cons r1 r2 =>
    refine richCompare_meets_room (op := .NotEq) ⟨_, ho, rfl⟩ ⟨_, ho2, rfl⟩ PySem.F.slot_list_ne PySem.F.entry_list_ne (PySem.F.args_list_ne_2 _ _) (SeqAt.list_ne_lengthsAt a b _ _ n n2 dd dd2 sl sl2 (by simp)) ⟨ho, ho2, ?_⟩ hu
    exact ⟨(fun x => nomatch x), ⟨.bl true, H, I, rfl, q⟩⟩
theorem op_eqNil (hu : X.A.units < cLine) : OpR X (compareOp .Eq) (rEqNil X.K) := by
  intro pins s σ H x y v u Q I rx ry h
  obtain ⟨a, b, xs, rfl, rfl, ha, hb, q⟩ := h
  cases rx
  cases ry
  obtain ⟨its, n, dd, sl, r, ho⟩ := sqL_obj I ha
  obtain ⟨its2, n2, dd2, sl2, r2, ho2⟩ := sqL_obj I hb
  cases r2
  cases r with
  | nil =>
    refine richCompare_meets_room (op := .Eq) ⟨_, ho, rfl⟩ ⟨_, ho2, rfl⟩ PySem.F.slot_list_eq PySem.F.entry_list_eq (PySem.F.args_list_eq_2 _ _) (SeqAt.list_eqAt a b _ _ n n2 dd dd2 sl sl2 rfl (fun _ => true)) ⟨ho, ho2, ?_, ?_⟩ hu
    · intro j h1; simp at h1
    · exact ⟨(fun x => nomatch x), ⟨.bl true, H, I, rfl, q⟩⟩
  | cons r1 r2 =>
    refine richCompare_meets_room (op := .Eq) ⟨_, ho, rfl⟩ ⟨_, ho2, rfl⟩ PySem.F.slot_list_eq PySem.F.entry_list_eq (PySem.F.args_list_eq_2 _ _) (SeqAt.list_eq_lengthsAt a b _ _ n n2 dd dd2 sl sl2 (by simp)) ⟨ho, ho2, ?_⟩ hu
    exact ⟨(fun x => nomatch x), ⟨.bl false, H, I, rfl, q⟩⟩
end

/-! ### xs.extend of a list or a tuple that is read -/
section
variable {X : Cx}
end
/-! ### a slice of a text -/
section
variable {X : Cx} {tg : Expr}

/-! ### the signs of a text, walked -/

/-! ### range(a, b, -1) -/
def Itd (hi : Int) (n : Nat) : It := ⟨fun i _ => i < n, fun i H x H' => H' = H ∧ x = .int (hi - i), fun i _ => n ≤ i⟩
end
/-! ### the same rules, the written part named (for a comprehension's block) -/
section
variable {X : Cx}
theorem call_isiK (K : PySem.W.Frag) (h : X.K = K := by rfl) : CallR X (.builtin "isinstance") (rIsi K) := by subst h; exact call_isi
end
end L2

set_option linter.all false
namespace J
/-! ### the last place of a name -/
section
variable {α : Type} [DecidableEq α]
end

/-! ### sums -/
inductive O3 where | add | sub | mul
  deriving DecidableEq
def O3.f : O3 → Int → Int → Int
  | .add, a, b => a + b
  | .sub, a, b => a - b
  | .mul, a, b => a * b
inductive Sm (α : Type) where
  | num (i : Int)
  | name (x : α)
  | op (o : O3) (a b : Sm α)
section
variable {α : Type} [DecidableEq α]
end
section
variable {α : Type} [DecidableEq α]
end
end J

set_option Elab.async false
set_option linter.all false
set_option maxRecDepth 100000
set_option maxHeartbeats 4000000
namespace J
open PySem L2

/-! ### built-in names -/
theorem bt_list : bootBuiltins "list" = some (.type "list") := by decide +kernel
theorem bt_tuple : bootBuiltins "tuple" = some (.type "tuple") := by decide +kernel
theorem bt_str : bootBuiltins "str" = some (.type "str") := by decide +kernel
theorem bt_int : bootBuiltins "int" = some (.type "int") := by decide +kernel
theorem bt_bool : bootBuiltins "bool" = some (.type "bool") := by decide +kernel
theorem bt_isinstance : bootBuiltins "isinstance" = some (.builtin "isinstance") := by decide +kernel

/-- a def of the text, as a caller wants it -/
structure Def (K : PySem.W.Frag) (mg : Str → Option Value) (x : Str) (st : Stmt) (ps : List Str) (f : Addr) (fd : FuncData) : Prop where
  F : Fun K x x st f fd
  b : Binds K fd ps []
  m : mg x = some (.ref f)

/-! ### heaps that grow -/
theorem same_new {H : Hp} {p : Addr} (h : H p = none) (o : HO) : Same H (upd H p o) := fun b u q => by rw [upd_ne (ne_of_none q h)]; exact q
theorem _root_.L2.Same.at {H H' : Hp} (S : Same H H') {l : Addr} (h : H l = none) (o : HO) : Same H (upd H' l o) := fun b u q => by rw [upd_ne (ne_of_none q h)]; exact S b u q
/-- tuples stay -/
def TupLe (H H' : Hp) : Prop := ∀ a xs, H a = some (.tup xs) → H' a = some (.tup xs)
theorem _root_.L2.Same.tup {H H' : Hp} (S : Same H H') : TupLe H H' := fun a xs h => S a _ h
theorem TupLe.trans {H H1 H2 : Hp} (a : TupLe H H1) (b : TupLe H1 H2) : TupLe H H2 := fun c xs h => b c xs (a c xs h)
/-- all but l stays -/
def But (l : Addr) (H H' : Hp) : Prop := ∀ b o, b ≠ l → H b = some o → H' b = some o
theorem but_upd {H : Hp} {l : Addr} (o : HO) : But l H (upd H l o) := fun b u n h => by rw [upd_ne n]; exact h
theorem But.tup {l : Addr} {H H' : Hp} {ys : List V} (B : But l H H') (hl : H l = some (.lst ys)) : TupLe H H' := fun a xs h => B a _ (ne_of h hl (by intro z; cases z)) h

/-! ### loops downwards -/
theorem for_rangeD {hi : Int} {n : Nat} {g : TG} {tb : TS} {D : Ends} {σ : St} {H : Hp} (Pv : Nat → St → Hp → Prop) (h0 : Pv 0 σ H)
    (hs : ∀ i σ H, i < n → Pv i σ H → g (.int (hi - i)) σ H fun σ2 H2 => tb { D with nx := Pv (i + 1), ct := Pv (i + 1), bk := D.nx } σ2 H2) (hd : ∀ σ H, Pv n σ H → D.nx σ H) :
    ∃ W : Nat → Nat → St → Hp → Prop, (∃ m, W 0 m σ H) ∧ ∀ i m σ H, W i m σ H →
      ((Itd hi n).stop i H ∧ D.nx σ H) ∨ ((Itd hi n).go i H ∧ ∃ N : St → Hp → Prop, (∀ σ' H', N σ' H' → ∃ m', m' < m ∧ W (i + 1) m' σ' H') ∧ ∀ x H', (Itd hi n).yld i H x H' → g x σ H' fun σ2 H2 => tb { D with nx := N, ct := N, bk := D.nx } σ2 H2) := by
  refine ⟨fun i m σ H => m = n - i ∧ i ≤ n ∧ Pv i σ H, ⟨n, by simp, Nat.zero_le _, h0⟩, ?_⟩
  rintro i m σ H ⟨rfl, hi', p⟩
  by_cases hlt : i < n
  · refine .inr ⟨hlt, Pv (i + 1), fun σ' H' p' => ⟨n - (i + 1), by omega, rfl, hlt, p'⟩, fun x H' y => ?_⟩
    obtain ⟨e, y⟩ := y
    subst e y
    exact hs i σ _ hlt p
  · have e : i = n := by omega
    subst e
    exact .inl ⟨Nat.le_refl _, hd σ H p⟩

/-! ### comprehensions: what one uses; Pv i H: i items taken; D: the list's place -/
section
variable {js : List Nat} {tc : TT} {te : TE} {σ : St} {H : Hp} {R : V → Hp → Prop} {D : Addr}
abbrev compBody (js : List Nat) (tc : TT) (te : TE) (σ : St) (D : Addr) (x : V) (H' : Hp) (N : Hp → Prop) : Prop :=
  tc (cSt js (some x) σ) H' fun c H2 => if c = true then te (cSt js (some x) σ) H2 fun y H3 => ∃ ys, H3 D = some (.lst ys) ∧ ys.length < sizeLine ∧ N (upd H3 D (.lst (ys ++ [y]))) else N H2
theorem comp_all {x : V} {H' : Hp} {N : Hp → Prop} (h : te (cSt js (some x) σ) H' fun y H3 => ∃ ys, H3 D = some (.lst ys) ∧ ys.length < sizeLine ∧ N (upd H3 D (.lst (ys ++ [y])))) : compBody js tTrue te σ D x H' N := by
  unfold compBody tTrue
  exact iteT (B := N H') h
theorem comp_by {J : It} {n : Nat} (Pv : Nat → Hp → Prop) (h0 : Pv 0 (upd H D (.lst []))) (hgo : ∀ i H, i < n → Pv i H → J.go i H) (hstop : ∀ H, Pv n H → J.stop n H)
    (hs : ∀ i H x H', i < n → Pv i H → J.yld i H x H' → compBody js tc te σ D x H' (Pv (i + 1))) (hd : ∀ H, Pv n H → R (.ref D) H) :
    CompW J js tc te σ R D H := by
  refine ⟨fun i m H => m = n - i ∧ i ≤ n ∧ Pv i H, ⟨n, by simp, Nat.zero_le _, h0⟩, ?_⟩
  rintro i m H ⟨rfl, hi, p⟩
  by_cases hlt : i < n
  · exact .inr ⟨hgo i H hlt p, Pv (i + 1), fun H' p' => ⟨n - (i + 1), by omega, rfl, hlt, p'⟩, fun x H' y => hs i H x H' hlt p y⟩
  · have e : i = n := by omega
    subst e
    exact .inl ⟨hstop H p, hd H p⟩
theorem comp_range {lo : Int} {n : Nat} (Pv : Nat → Hp → Prop) (h0 : Pv 0 (upd H D (.lst []))) (hs : ∀ i H, i < n → Pv i H → compBody js tc te σ D (.int (lo + i)) H (Pv (i + 1))) (hd : ∀ H, Pv n H → R (.ref D) H) :
    CompW (Itr lo n) js tc te σ R D H :=
  comp_by Pv h0 (fun i H h _ => h) (fun H _ => Nat.le_refl n) (fun i H x H' h p y => by obtain ⟨e, y⟩ := y; subst e y; exact hs i _ h p) hd
end

/-! ### sums as they lie on the heap -/
def O3.w : O3 → Str
  | .add => "add"
  | .sub => "sub"
  | .mul => "mul"
theorem mulOk_bits {a b : Int} {m n : Nat} (ha : a.natAbs < 2 ^ m) (hb : b.natAbs < 2 ^ n) (h : m + n ≤ 134217728) : IntMulOk a b := by
  have f : ∀ {x : Int} {k : Nat}, x.natAbs < 2 ^ k → Builtin.Int.intBits x ≤ k := fun {x k} hx => by
    unfold Builtin.Int.intBits
    split
    · exact Nat.zero_le _
    · rename_i hz
      have hz' : x.natAbs ≠ 0 := by
        intro q
        apply hz
        have : x = 0 := Int.natAbs_eq_zero.mp q
        simp [this]
      exact (Nat.log2_lt hz').mpr hx
  exact IntMulOk.of_le (f ha) (f hb) h

/-! ### two things that are alike, and how many steps it takes to see it -/
end J
namespace J
open PySem L2
theorem len1 {α : Type} {P : List α → Prop} (h : ∀ a, P [a]) : ∀ us : List α, us.length = 1 → P us
  | [a], _ => h a
theorem len2 {α : Type} {P : List α → Prop} (h : ∀ a b, P [a, b]) : ∀ us : List α, us.length = 2 → P us
  | [a, b], _ => h a b
theorem len3 {α : Type} {P : List α → Prop} (h : ∀ a b c, P [a, b, c]) : ∀ us : List α, us.length = 3 → P us
  | [a, b, c], _ => h a b c
theorem len4 {α : Type} {P : List α → Prop} (h : ∀ a b c d, P [a, b, c, d]) : ∀ us : List α, us.length = 4 → P us
  | [a, b, c, d], _ => h a b c d
theorem len5 {α : Type} {P : List α → Prop} (h : ∀ a b c d e, P [a, b, c, d, e]) : ∀ us : List α, us.length = 5 → P us
  | [a, b, c, d, e], _ => h a b c d e
end J

set_option Elab.async false
set_option linter.all false
set_option maxRecDepth 100000
set_option maxHeartbeats 4000000
namespace J
open PySem L2
theorem iteT' {b : Bool} {A B : Prop} (e : b = true) (h : A) : if b = true then A else B := by rw [e]; exact iteT h
theorem iteF' {b : Bool} {A B : Prop} (e : b = false) (h : B) : if b = true then A else B := by rw [e]; exact iteF h
theorem upd_snocI {H : Hp} {D : Addr} {ys : List Int} {y : Int} : upd H D (.lst (ys.map V.int ++ [V.int y])) D = some (.lst ((ys ++ [y]).map V.int)) := by rw [upd_same, List.map_append]; rfl
theorem atI_map_last (zs : List Int) (n : Int) : atI ((zs ++ [n]).map V.int) (-1) = some (V.int n) := by rw [List.map_append]; exact atI_last _ _
theorem last_get {α : Type} (xs : List α) (x : α) : (xs ++ [x])[(xs ++ [x]).length - 1]? = some x := by simp
theorem cdiv {i : Int} {j : Int} (h : decide (0 < j ∧ j < 1073741824) = true) : CDiv i j := show 0 < j ∧ j < 1073741824 from of_decide_eq_true h
theorem mul_small {a b : Int} (h : decide (-(2 ^ 64) < a ∧ a < 2 ^ 64) = true) : IntMulOk a b := CMul.ok (.inl (of_decide_eq_true h))

/-! ### tests -/
end J

set_option linter.all false
namespace J
deriving instance DecidableEq for Sm
section
variable {α : Type} [DecidableEq α]
end
end J

set_option Elab.async false
set_option linter.all false
set_option maxRecDepth 100000
set_option maxHeartbeats 4000000
namespace L2
open PySem PySem.Spec PyProof.Rows

/-! ### a list is unpacked -/
section
variable {prog : Program} {w : World} {A : Around} {E : Value → Shared → Prop} {s : Shared}
end
section
variable {X : Cx} {pos : Pos}
end

/-! ### tuples of the heap, or the module's own -/
def TpK (K : PySem.W.Frag) (H : Hp) (a : Addr) (xs : List V) : Prop :=
  H a = some (.tup xs) ∨ ∃ (o : Obj) (its : Array Value) (n : Nat), K.lookup a = some o ∧ o.cls = .type "tuple" ∧ o.data = .seq its n ∧ its.size ≤ sizeLine ∧ Vals xs its.toList
theorem TpK.sq {K : PySem.W.Frag} {H : Hp} {a : Addr} {xs : List V} (h : TpK K H a xs) : SqT K H a xs := by
  rcases h with h | h
  · exact SqT.of h
  · exact .inr h
def TyT (K : PySem.W.Frag) (H : Hp) (x : V) (T : String) : Prop := TyOf K H x (.type T) ∨ T = "tuple" ∧ ∃ a xs, x = .ref a ∧ TpK K H a xs
section
variable {X : Cx}
theorem kitx_tyT {H : Hp} {pins : List (Addr × Obj)} {σ : St} {s : Shared} {x : V} {u : Value} {T : String} (I : Inv X pins σ H s) (rx : RelV x u) (ty : TyT X.K H x T) :
    ∃ P : Heap → Prop, PySem.W.KitX X.K u (.type T) P ∧ P s.heap ∧ u ≠ .builtin "__main__.__loader__#opaque" := by
  rcases ty with ty | ⟨rfl, a, xs, rfl, h⟩
  · exact kitx_ty I rx ty
  · cases (show u = Value.ref a from rx)
    obtain ⟨its, _, ⟨o, h1, h2, _⟩, _⟩ := I.tuple h.sq
    exact ⟨_, PySem.W.kitx_tuple, ⟨o, h1, h2⟩, fun z => nomatch z⟩
def rIsiP (K : PySem.W.Frag) : List V → Hp → VK → Prop := fun xs H Q => ∃ x T c b, xs = [x, .ty c] ∧ TyT K H x T ∧ isT T c = some b ∧ Q (.bl b) H
def rIsiTP (K : PySem.W.Frag) : List V → Hp → VK → Prop := fun xs H Q => ∃ x T tp cs b, xs = [x, .ref tp] ∧ TyT K H x T ∧ H tp = some (.tup (cs.map V.ty)) ∧ isAny T cs = some b ∧ Q (.bl b) H
theorem call_isiP : CallR X (.builtin "isinstance") (rIsiP X.K) := by
  intro pins s σ H xs us Q I r h
  obtain ⟨x, T, c, b, rfl, ty, e, q⟩ := h
  obtain ⟨u, w', rfl, r1, r2⟩ := vals2 r
  cases (show w' = Value.type c from r2)
  obtain ⟨P, Z, hP, hx⟩ := kitx_tyT I r1 ty
  exact PySem.W.kia_one Z I.kIn hP ((kitOne_type _ _ _).trans e) hx fun tk => ⟨.bl b, H, I.tok tk, rfl, q⟩
theorem call_isiTP : CallR X (.builtin "isinstance") (rIsiTP X.K) := by
  intro pins s σ H xs us Q I r h
  obtain ⟨x, T, tp, cs, b, rfl, ty, ht, e, q⟩ := h
  obtain ⟨u, w', rfl, r1, r2⟩ := vals2 r
  cases (show w' = Value.ref tp from r2)
  obtain ⟨P, Z, hP, hx⟩ := kitx_tyT I r1 ty
  obtain ⟨_, its, rv, o, ho, hc, n, hd⟩ := (show ObjOk X.prog X.w H s.heap tp (.tup (cs.map V.ty)) from I.hok tp _ ht)
  obtain ⟨c0, dd, data, sl⟩ := o
  simp only at hc hd
  subst hc hd
  have hi := vals_types rv
  subst hi
  exact PySem.W.kia_tup Z I.kIn hP ho ((kitAny_type _ _ _).trans e) hx fun tk => ⟨.bl b, H, I.tok tk, rfl, q⟩
def rExtendP (K : PySem.W.Frag) : V → List V → Hp → VK → Prop := fun x vs H Q => ∃ l b xs zs, x = .ref l ∧ vs = [.ref b] ∧ H l = some (.lst xs) ∧ (H b = some (.lst zs) ∨ TpK K H b zs) ∧ xs.length + zs.length ≤ sizeLine ∧ Q .non (upd H l (.lst (xs ++ zs)))
theorem mt_extendP : MtM X "list.extend" (rExtendP X.K) := by
  intro pins s σ H x vs v us Q I rx rv h
  obtain ⟨l, b, xs, zs, rfl, rfl, hH, hB, hz, q⟩ := h
  rcases hB with hB | hB
  · exact mt_extend pins s σ H _ _ v us Q I rx rv ⟨l, b, xs, zs, rfl, rfl, hH, hB, hz, q⟩
  cases rx
  obtain ⟨u, rfl, ru⟩ := rv.one
  cases ru
  obtain ⟨z, its, n, r, hl, e⟩ := I.lstM hH
  obtain ⟨its2, r2, ⟨⟨c0, dd, data, sl⟩, ho, hc, n2, hd⟩, z2⟩ := I.tuple hB.sq
  simp only at hc hd
  subst hc hd
  have hl2 := r2.length
  have hsz : its.toArray.size + its2.toArray.size ≤ sizeLine := by rw [List.size_toArray, List.size_toArray]; omega
  have hlong : ¬ (!its.toArray.isEmpty && Builtin.List.listTooLong (its.toArray.size + its2.toArray.size)) = true := by
    rw [notLongL hsz, Bool.and_false]
    exact Bool.false_ne_true
  refine call_meets F.slot_list_extend ⟨_, e, rfl⟩ F.entry_list_extend (F.args_list_extend_2 _ _)
    (HT.ext_tup l its.toArray n b its2.toArray n2 dd sl hlong (by rw [List.size_toArray]; omega) (by omega)) ⟨e, ho, ?_⟩
  refine ⟨.non, _, I.lset (its' := its ++ its2) hH e (by simp) (r.append r2) ?_, rfl, q⟩
  rw [List.length_append]
  omega
end
end L2

namespace J
open PySem L2
theorem _root_.L2.TpK.mono {K : PySem.W.Frag} {H H' : Hp} (L : TupLe H H') {a : Addr} {xs : List V} (h : TpK K H a xs) : TpK K H' a xs := by
  rcases h with h | h
  · exact .inl (L _ _ h)
  · exact .inr h

/-! ### a sum against ("num", n) -/
section
variable {X : Cx}
end

/-! ### two sums alike -/
end J
namespace L2
end L2
namespace J
open PySem L2
theorem at0 {x : V} {xs : List V} : atI (x :: xs) 0 = some x := atI_nat (j := 0) rfl
end J
namespace J
end J
namespace J
end J

set_option Elab.async false
set_option linter.all false
set_option maxRecDepth 100000
set_option maxHeartbeats 4000000
namespace L2
open PySem PySem.Spec PyProof.Rows
/-! ### two lists of the same numbers -/
section
variable {X : Cx}
end
end L2
namespace J
open PySem L2
/-! ### two things alike: numbers, texts, tuples (also the module's own), lists -/
inductive AlkL (K : PySem.W.Frag) (H : Hp) : List V → List V → Nat → Prop where
  | nil : AlkL K H [] [] 0
  | int {i : Int} {xs ys : List V} {n : Nat} : AlkL K H xs ys n → AlkL K H (.int i :: xs) (.int i :: ys) (n + 1)
  | str {z : Str} {xs ys : List V} {n : Nat} : AlkL K H xs ys n → AlkL K H (.str z :: xs) (.str z :: ys) (n + 1)
  | tup {a b : Addr} {us vs xs ys : List V} {m n : Nat} : TpK K H a us → TpK K H b vs → AlkL K H us vs m → AlkL K H xs ys n → AlkL K H (.ref a :: xs) (.ref b :: ys) (m + n + 1)
  | lst {a b : Addr} {us vs xs ys : List V} {m n : Nat} : H a = some (.lst us) → H b = some (.lst vs) → AlkL K H us vs m → AlkL K H xs ys n → AlkL K H (.ref a :: xs) (.ref b :: ys) (m + n + 1)
theorem AlkL.len {K : PySem.W.Frag} {H : Hp} {xs ys : List V} {n : Nat} (h : AlkL K H xs ys n) : xs.length = ys.length ∧ xs.length ≤ n := by
  induction h with
  | nil => exact ⟨rfl, Nat.le_refl _⟩
  | int _ ih => simp only [List.length_cons]; omega
  | str _ ih => simp only [List.length_cons]; omega
  | tup _ _ _ _ i1 i2 => simp only [List.length_cons]; omega
  | lst _ _ _ _ i1 i2 => simp only [List.length_cons]; omega
theorem AlkL.app {K : PySem.W.Frag} {H : Hp} {xs ys us vs : List V} {m n : Nat} (h : AlkL K H xs ys m) (g : AlkL K H us vs n) : AlkL K H (xs ++ us) (ys ++ vs) (m + n) := by
  induction h with
  | nil => rw [Nat.zero_add]; exact g
  | @int i xs ys k _ ih => rw [show k + 1 + n = (k + n) + 1 by omega]; exact .int ih
  | @str z xs ys k _ ih => rw [show k + 1 + n = (k + n) + 1 by omega]; exact .str ih
  | @tup a b us vs xs ys m' n' e1 e2 h1 _ _ ih => rw [show m' + n' + 1 + n = m' + (n' + n) + 1 by omega]; exact .tup e1 e2 h1 ih
  | @lst a b us vs xs ys m' n' e1 e2 h1 _ _ ih => rw [show m' + n' + 1 + n = m' + (n' + n) + 1 by omega]; exact .lst e1 e2 h1 ih
inductive AlkL1 (K : PySem.W.Frag) (H : Hp) : V → V → Nat → Prop where
  | int (i : Int) : AlkL1 K H (.int i) (.int i) 1
  | str (z : Str) : AlkL1 K H (.str z) (.str z) 1
  | tup {a b : Addr} {us vs : List V} {m : Nat} : TpK K H a us → TpK K H b vs → AlkL K H us vs m → AlkL1 K H (.ref a) (.ref b) (m + 1)
  | lst {a b : Addr} {us vs : List V} {m : Nat} : H a = some (.lst us) → H b = some (.lst vs) → AlkL K H us vs m → AlkL1 K H (.ref a) (.ref b) (m + 1)
theorem AlkL.last {K : PySem.W.Frag} {H : Hp} {xs ys : List V} {n : Nat} (h : AlkL K H xs ys n) : xs = [] ∧ ys = [] ∨ ∃ xs' ys' x y m k, xs = xs' ++ [x] ∧ ys = ys' ++ [y] ∧ AlkL K H xs' ys' m ∧ AlkL1 K H x y k ∧ n = m + k := by
  induction h with
  | nil => exact .inl ⟨rfl, rfl⟩
  | @int i xs ys k h ih =>
    refine .inr ?_
    rcases ih with ⟨rfl, rfl⟩ | ⟨xs', ys', x, y, m, k', rfl, rfl, h1, h2, rfl⟩
    · cases h
      exact ⟨[], [], _, _, 0, 1, rfl, rfl, .nil, .int i, by omega⟩
    · exact ⟨_ :: xs', _ :: ys', x, y, m + 1, k', rfl, rfl, .int h1, h2, by omega⟩
  | @str i xs ys k h ih =>
    refine .inr ?_
    rcases ih with ⟨rfl, rfl⟩ | ⟨xs', ys', x, y, m, k', rfl, rfl, h1, h2, rfl⟩
    · cases h
      exact ⟨[], [], _, _, 0, 1, rfl, rfl, .nil, .str i, by omega⟩
    · exact ⟨_ :: xs', _ :: ys', x, y, m + 1, k', rfl, rfl, .str h1, h2, by omega⟩
  | @tup a b us vs xs ys m n e1 e2 h1 h _ ih =>
    refine .inr ?_
    rcases ih with ⟨rfl, rfl⟩ | ⟨xs', ys', x, y, m', k', rfl, rfl, g1, g2, rfl⟩
    · cases h
      exact ⟨[], [], _, _, 0, m + 1, rfl, rfl, .nil, .tup e1 e2 h1, by omega⟩
    · exact ⟨_ :: xs', _ :: ys', x, y, m + m' + 1, k', rfl, rfl, .tup e1 e2 h1 g1, g2, by omega⟩
  | @lst a b us vs xs ys m n e1 e2 h1 h _ ih =>
    refine .inr ?_
    rcases ih with ⟨rfl, rfl⟩ | ⟨xs', ys', x, y, m', k', rfl, rfl, g1, g2, rfl⟩
    · cases h
      exact ⟨[], [], _, _, 0, m + 1, rfl, rfl, .nil, .lst e1 e2 h1, by omega⟩
    · exact ⟨_ :: xs', _ :: ys', x, y, m + m' + 1, k', rfl, rfl, .lst e1 e2 h1 g1, g2, by omega⟩
theorem AlkL.ints {K : PySem.W.Frag} {H : Hp} : ∀ xs : List Int, AlkL K H (xs.map V.int) (xs.map V.int) xs.length
  | [] => .nil
  | _ :: r => .int (AlkL.ints r)

/-! ### cards -/
inductive Cd where
  | push (i : Int) | load (k : Int) | store (k : Int) | drop | op (o : O3) | less | same | flip | say | skip (k : Int) | fork (k : Int) | burn | back (k : Int)
def Cd.vs : Cd → List V
  | .push i => [.str "push", .int i]
  | .load k => [.str "load", .int k]
  | .store k => [.str "store", .int k]
  | .drop => [.str "drop"]
  | .op o => [.str o.w]
  | .less => [.str "less"]
  | .same => [.str "same"]
  | .flip => [.str "flip"]
  | .say => [.str "say"]
  | .skip k => [.str "skip", .int k]
  | .fork k => [.str "fork", .int k]
  | .burn => [.str "burn"]
  | .back k => [.str "back", .int k]
def IsCd (H : Hp) (v : V) (c : Cd) : Prop := ∃ a, v = .ref a ∧ H a = some (.tup c.vs)
theorem IsCd.mono {H H' : Hp} (L : TupLe H H') {v : V} {c : Cd} (h : IsCd H v c) : IsCd H' v c := by
  obtain ⟨a, e, h⟩ := h
  exact ⟨a, e, L _ _ h⟩
abbrev Cds (H : Hp) : List V → List Cd → Prop := Paired (IsCd H)
theorem Cds.mono {H H' : Hp} (L : TupLe H H') {vs : List V} {cs : List Cd} (h : Cds H vs cs) : Cds H' vs cs := Paired.mapP h fun _ _ z => z.mono L
theorem papp {α β : Type} {F : α → β → Prop} : ∀ {vs ws : List α} {rs ts : List β}, Paired F vs rs → Paired F ws ts → Paired F (vs ++ ws) (rs ++ ts)
  | _, _, _, _, .nil, h => h
  | _, _, _, _, .cons q t, h => .cons q (papp t h)
theorem Cds.len {H : Hp} : ∀ {vs : List V} {cs : List Cd}, Cds H vs cs → vs.length = cs.length
  | _, _, .nil => rfl
  | _, _, .cons _ t => by rw [List.length_cons, List.length_cons, Cds.len t]
theorem Cd.self {K : PySem.W.Frag} {H : Hp} (c : Cd) : ∃ n, n ≤ 2 ∧ AlkL K H c.vs c.vs n := by
  cases c <;> first | exact ⟨2, Nat.le_refl _, .str (.int .nil)⟩ | exact ⟨1, by decide, .str .nil⟩
theorem Cds.alk {K : PySem.W.Frag} {H : Hp} : ∀ {vs ws : List V} {cs : List Cd}, Cds H vs cs → Cds H ws cs → ∃ n, n ≤ 3 * cs.length ∧ AlkL K H vs ws n
  | _, _, _, .nil, .nil => ⟨0, Nat.le_refl _, .nil⟩
  | _, _, _, .cons (b := c) ⟨a, e1, h1⟩ t, .cons ⟨b, e2, h2⟩ u => by
    subst e1 e2
    obtain ⟨n, hn, al⟩ := Cds.alk (K := K) t u
    obtain ⟨m, hm, am⟩ := Cd.self (K := K) (H := H) c
    refine ⟨_, ?_, .tup (.inl h1) (.inl h2) am al⟩
    rw [List.length_cons]
    omega
theorem Cds.get' {H : Hp} : ∀ {vs : List V} {cs : List Cd} {i : Nat} {c : Cd}, Cds H vs cs → cs[i]? = some c → ∃ v, vs[i]? = some v ∧ IsCd H v c
  | _, _, i, v, .nil, h => by simp at h
  | _, _, 0, v, .cons q _, h => by simp at h; subst h; exact ⟨_, rfl, q⟩
  | _, _, i + 1, v, .cons _ t, h => by simpa using Cds.get' t (by simpa using h)

/-! ### the cards of a sum and of a test -/
end J

set_option Elab.async false
set_option linter.all false
set_option maxRecDepth 100000
set_option maxHeartbeats 4000000
namespace J
open PySem L2
def b2n (b : Bool) : Int := if b = true then 1 else 0
end J
namespace J
open PySem L2
theorem psnoc {α β : Type} {F : α → β → Prop} : ∀ {vs : List α} {rs : List β} {v : α} {r : β}, Paired F vs rs → F v r → Paired F (vs ++ [v]) (rs ++ [r])
  | _, _, _, _, .nil, h => .cons h .nil
  | _, _, _, _, .cons q t, h => .cons q (psnoc t h)
theorem plast {α β : Type} {F : α → β → Prop} : ∀ {vs : List α} {rs : List β}, Paired F vs rs → vs = [] ∧ rs = [] ∨ ∃ vs' v rs' r, vs = vs' ++ [v] ∧ rs = rs' ++ [r] ∧ Paired F vs' rs' ∧ F v r
  | _, _, .nil => .inl ⟨rfl, rfl⟩
  | _, _, .cons (a := x) (b := y) q t => by
    rcases plast t with ⟨rfl, rfl⟩ | ⟨vs', v, rs', r, e1, e2, h1, h2⟩
    · exact .inr ⟨[], x, [], y, rfl, rfl, .nil, q⟩
    · exact .inr ⟨x :: vs', v, y :: rs', r, by rw [e1]; rfl, by rw [e2]; rfl, .cons q h1, h2⟩
theorem plen {α β : Type} {F : α → β → Prop} : ∀ {vs : List α} {rs : List β}, Paired F vs rs → vs.length = rs.length
  | _, _, .nil => rfl
  | _, _, .cons _ t => by rw [List.length_cons, List.length_cons, plen t]
/-! ### t[1:] -/
end J
namespace J
open PySem L2
end J
namespace J
open PySem L2
end J

set_option Elab.async false
set_option linter.all false
set_option maxRecDepth 100000
set_option maxHeartbeats 4000000
namespace J
open PySem L2
/-! ### tests made shorter; their tuples may be the module's own -/
end J

set_option Elab.async false
set_option linter.all false
set_option maxRecDepth 100000
set_option maxHeartbeats 4000000
namespace L2
open PySem PySem.Spec PyProof.Rows
/-! ### a text so many times -/
section
variable {X : Cx}
end
end L2

set_option Elab.async false
set_option linter.all false
set_option maxRecDepth 100000
set_option maxHeartbeats 4000000
namespace J
open PySem L2
/-! ### blocks of orders -/
/-- what may change is of M -/
def Out (M : Addr → Prop) (H H' : Hp) : Prop := ∀ a o, ¬ M a → H a = some o → H' a = some o
theorem Out.of {M : Addr → Prop} {H H' : Hp} (S : Same H H') : Out M H H' := fun a o _ h => S a o h
/-- no list may change any more -/
abbrev noM : Addr → Prop := fun _ => False

/-! ### how the law draws its programs -/
end J
namespace J
open PySem L2
end J
namespace J
open PySem L2
end J

set_option Elab.async false
set_option linter.all false
set_option maxRecDepth 100000
set_option maxHeartbeats 4000000
namespace J
open PySem L2
/-! ### what is begun, as it lies on the heap -/
end J
namespace J
open PySem L2
end J

set_option Elab.async false
set_option linter.all false
set_option maxRecDepth 100000
set_option maxHeartbeats 4000000
namespace L2
open PySem PySem.Spec PyProof.Rows
/-! ### list(reversed(xs)) -/
section
variable {pr : Program} {wd : World} {Ar : Around} {z : Shared} {R : Result → Shared → Prop} {it l : Addr} {xs : Array Value}
end
section
variable {X : Cx} {e : Expr} {te : TE} {p1 p2 pos1 pos2 : Pos}
end
end L2

set_option Elab.async false
set_option linter.all false
set_option maxRecDepth 100000
set_option maxHeartbeats 4000000
namespace L2
open PySem PySem.Spec PyProof.Rows
/-! ### sep.join(xs) -/
section
variable {X : Cx}
end
/-! ### sep.join(reversed(xs)) -/
section
variable {pr : Program} {wd : World} {Ar : Around} {z : Shared} {E : Value → Shared → Prop} {it l : Addr} {xs : Array Value}
end
section
variable {X : Cx} {e : Expr} {te : TE} {z : Str} {j : Nat} {p0 p2 pos2 apos cpos : Pos}
end
end L2

set_option Elab.async false
set_option linter.all false
set_option maxRecDepth 100000
set_option maxHeartbeats 4000000
namespace J
open PySem L2
/-! ### words and rows -/
/-! ### texts of a sum or a test fit -/
/-! ### the parts of a sum or a test -/
end J
namespace L2
open PySem
end L2

set_option Elab.async false
set_option linter.all false
set_option maxRecDepth 100000
set_option maxHeartbeats 4000000
namespace J
open PySem L2
end J

set_option Elab.async false
set_option linter.all false
set_option maxRecDepth 100000
set_option maxHeartbeats 4000000
namespace J
open PySem L2
/-! ### all that is begun fits -/
/-! ### how deep and how many -/
end J

set_option Elab.async false
set_option linter.all false
set_option maxRecDepth 100000
set_option maxHeartbeats 4000000
namespace J
open PySem L2
/-! ### blanks ahead -/
/-! ### the rows of what is begun -/
/-! ### things that have words -/
end J
namespace J
open PySem L2
end J
namespace J
open PySem L2
end J

set_option Elab.async false
set_option linter.all false
set_option maxRecDepth 100000
set_option maxHeartbeats 4000000
namespace J
open PySem L2
/-- a def of a class, as a caller wants it -/
structure MDef (K : PySem.W.Frag) (m q : Str) (st : Stmt) (ps : List Str) (f : Addr) (fd : FuncData) : Prop where
  F : Fun K m q st f fd
  b : Binds K fd ps []
/-! ### attributes by name -/
/-- these attributes and no others -/
structure Has (fs m : List (Str × V)) : Prop where
  at_ : ∀ f, fs.lookup f = m.lookup f
  len : fs.length ≤ 50
theorem Has.nil : Has [] [] := ⟨fun _ => rfl, by decide⟩
theorem keysL {f : Str} : ∀ {fs : List (Str × V)} {v w : V}, fs.lookup f = some w → (putF f v fs).length = fs.length
  | [], _, _, h => by simp at h
  | (k, x) :: r, v, w, h => by
    rw [show putF f v ((k, x) :: r) = (if k = f then (k, v) :: r else (k, x) :: putF f v r) from rfl]
    by_cases e : k = f
    · rw [if_pos e]; rfl
    · rw [if_neg e, List.length_cons, List.length_cons]
      have h' : r.lookup f = some w := by
        rw [List.lookup_cons] at h
        have : (f == k) = false := by
          rw [beq_eq_false_iff_ne]; exact fun z => e z.symm
        rw [this] at h
        exact h
      rw [keysL h']
theorem Has.put {fs m m' : List (Str × V)} {f : Str} {v w : V} (h : Has fs m) (hw : m.lookup f = some w) (hm : ∀ g, m'.lookup g = if g = f then some v else m.lookup g) : Has (putF f v fs) m' :=
  ⟨fun g => by rw [lookup_putF, hm, h.at_], by rw [keysL ((h.at_ f).trans hw)]; exact h.len⟩
theorem Has.new {fs m m' : List (Str × V)} {f : Str} {v : V} (h : Has fs m) (hl : fs.length ≤ 49) (hm : ∀ g, m'.lookup g = if g = f then some v else m.lookup g) : Has (putF f v fs) m' ∧ (putF f v fs).length ≤ fs.length + 1 :=
  ⟨⟨fun g => by rw [lookup_putF, hm, h.at_], by have := length_putF f v fs; omega⟩, length_putF f v fs⟩
/-! ### the machine's object -/
def mfl (lc lp : Addr) (left place : Int) (ld : Addr) : List (Str × V) := [("cards", .ref lc), ("pile", .ref lp), ("left", .int left), ("place", .int place), ("said", .ref ld)]
theorem lk_cons (f g : Str) (v : V) (r : List (Str × V)) : List.lookup f ((g, v) :: r) = if f = g then some v else List.lookup f r := by
  rw [List.lookup_cons]
  by_cases h : f = g
  · subst h; simp
  · have : (f == g) = false := by rw [beq_eq_false_iff_ne]; exact h
    rw [this, if_neg h]
structure MachAt (C : Addr) (H : Hp) (p lc lp ld : Addr) (ws : List V) (pile : List Int) (left place : Int) (said : List Int) : Prop where
  ob : ∃ dx fs, H p = some (.ins C dx fs) ∧ Has fs (mfl lc lp left place ld)
  ec : H lc = some (.lst ws)
  ep : H lp = some (.lst (pile.map V.int))
  es : H ld = some (.lst (said.map V.int))
  n1 : lp ≠ lc
  n2 : lp ≠ ld
  n3 : ld ≠ lc
/-- all but the machine's own things stays -/
def MOut (p lp ld : Addr) (H H' : Hp) : Prop := ∀ b o, b ≠ p → b ≠ lp → b ≠ ld → H b = some o → H' b = some o
theorem MOut.refl (p lp ld : Addr) (H : Hp) : MOut p lp ld H H := fun _ _ _ _ _ h => h
theorem MOut.trans {p lp ld : Addr} {H H1 H2 : Hp} (a : MOut p lp ld H H1) (b : MOut p lp ld H1 H2) : MOut p lp ld H H2 := fun c o n1 n2 n3 h => b c o n1 n2 n3 (a c o n1 n2 n3 h)
theorem MachAt.np {C : Addr} {H : Hp} {p lc lp ld : Addr} {ws : List V} {pile : List Int} {left place : Int} {said : List Int} (h : MachAt C H p lc lp ld ws pile left place said) : p ≠ lc ∧ p ≠ lp ∧ p ≠ ld := by
  obtain ⟨dx, fs, e, _⟩ := h.ob
  exact ⟨ne_of e h.ec (fun z => by cases z), ne_of e h.ep (fun z => by cases z), ne_of e h.es (fun z => by cases z)⟩
/-- a number attribute is stored -/
theorem MachAt.fld {C : Addr} {H : Hp} {p lc lp ld dx : Addr} {ws : List V} {pile : List Int} {left place left' place' : Int} {said : List Int} {fs' : List (Str × V)} (h : MachAt C H p lc lp ld ws pile left place said) (hf : Has fs' (mfl lc lp left' place' ld)) : MachAt C (upd H p (.ins C dx fs')) p lc lp ld ws pile left' place' said ∧ MOut p lp ld H (upd H p (.ins C dx fs')) := by
  obtain ⟨q1, q2, q3⟩ := h.np
  exact ⟨⟨⟨dx, fs', upd_same, hf⟩, by rw [upd_ne q1.symm]; exact h.ec, by rw [upd_ne q2.symm]; exact h.ep, by rw [upd_ne q3.symm]; exact h.es, h.n1, h.n2, h.n3⟩, fun b o n1 _ _ e => by rw [upd_ne n1]; exact e⟩
theorem MachAt.pileTo {C : Addr} {H : Hp} {p lc lp ld : Addr} {ws : List V} {pile : List Int} {left place : Int} {said : List Int} (h : MachAt C H p lc lp ld ws pile left place said) (pile' : List Int) : MachAt C (upd H lp (.lst (pile'.map V.int))) p lc lp ld ws pile' left place said ∧ MOut p lp ld H (upd H lp (.lst (pile'.map V.int))) := by
  obtain ⟨q1, q2, q3⟩ := h.np
  obtain ⟨dx, fs, e, hf⟩ := h.ob
  exact ⟨⟨⟨dx, fs, by rw [upd_ne q2]; exact e, hf⟩, by rw [upd_ne h.n1.symm]; exact h.ec, upd_same, by rw [upd_ne h.n2.symm]; exact h.es, h.n1, h.n2, h.n3⟩, fun b o _ n2 _ e => by rw [upd_ne n2]; exact e⟩
theorem MachAt.saidTo {C : Addr} {H : Hp} {p lc lp ld : Addr} {ws : List V} {pile : List Int} {left place : Int} {said : List Int} (h : MachAt C H p lc lp ld ws pile left place said) (said' : List Int) : MachAt C (upd H ld (.lst (said'.map V.int))) p lc lp ld ws pile left place said' ∧ MOut p lp ld H (upd H ld (.lst (said'.map V.int))) := by
  obtain ⟨q1, q2, q3⟩ := h.np
  obtain ⟨dx, fs, e, hf⟩ := h.ob
  exact ⟨⟨⟨dx, fs, by rw [upd_ne q3]; exact e, hf⟩, by rw [upd_ne h.n3.symm]; exact h.ec, by rw [upd_ne h.n2]; exact h.ep, upd_same, h.n1, h.n2, h.n3⟩, fun b o _ _ n3 e => by rw [upd_ne n3]; exact e⟩
theorem mfl_cards (lc lp : Addr) (l k : Int) (ld : Addr) : (mfl lc lp l k ld).lookup ("cards" : Str) = some (.ref lc) := by
  unfold mfl; rw [lk_cons, if_pos rfl]
theorem mfl_pile (lc lp : Addr) (l k : Int) (ld : Addr) : (mfl lc lp l k ld).lookup ("pile" : Str) = some (.ref lp) := by
  unfold mfl; rw [lk_cons, if_neg (by decide +kernel), lk_cons, if_pos rfl]
theorem mfl_left (lc lp : Addr) (l k : Int) (ld : Addr) : (mfl lc lp l k ld).lookup ("left" : Str) = some (.int l) := by
  unfold mfl; rw [lk_cons, if_neg (by decide +kernel), lk_cons, if_neg (by decide +kernel), lk_cons, if_pos rfl]
theorem mfl_place (lc lp : Addr) (l k : Int) (ld : Addr) : (mfl lc lp l k ld).lookup ("place" : Str) = some (.int k) := by
  unfold mfl; rw [lk_cons, if_neg (by decide +kernel), lk_cons, if_neg (by decide +kernel), lk_cons, if_neg (by decide +kernel), lk_cons, if_pos rfl]
theorem mfl_said (lc lp : Addr) (l k : Int) (ld : Addr) : (mfl lc lp l k ld).lookup ("said" : Str) = some (.ref ld) := by
  unfold mfl; rw [lk_cons, if_neg (by decide +kernel), lk_cons, if_neg (by decide +kernel), lk_cons, if_neg (by decide +kernel), lk_cons, if_neg (by decide +kernel), lk_cons, if_pos rfl]
theorem mfl_no {lc lp : Addr} {l k : Int} {ld : Addr} {m : Str} (h : ¬ m = "cards" ∧ ¬ m = "pile" ∧ ¬ m = "left" ∧ ¬ m = "place" ∧ ¬ m = "said") : (mfl lc lp l k ld).lookup m = none := by
  unfold mfl; rw [lk_cons, if_neg h.1, lk_cons, if_neg h.2.1, lk_cons, if_neg h.2.2.1, lk_cons, if_neg h.2.2.2.1, lk_cons, if_neg h.2.2.2.2]; rfl
theorem mfl_putPlace (lc lp : Addr) (l k k' : Int) (ld : Addr) (g : Str) : (mfl lc lp l k' ld).lookup g = if g = "place" then some (.int k') else (mfl lc lp l k ld).lookup g := by
  by_cases h : g = "place"
  · subst h; rw [if_pos rfl]; exact mfl_place ..
  · rw [if_neg h]; unfold mfl; simp only [lk_cons, if_neg h]
theorem mfl_putLeft (lc lp : Addr) (l l' k : Int) (ld : Addr) (g : Str) : (mfl lc lp l' k ld).lookup g = if g = "left" then some (.int l') else (mfl lc lp l k ld).lookup g := by
  by_cases h : g = "left"
  · subst h; rw [if_pos rfl]; exact mfl_left ..
  · rw [if_neg h]; unfold mfl; simp only [lk_cons, if_neg h]
/-! ### a run of the machine, in n cards, to its end -/
structure Fin where
  word : Bool
  said : List Int
  pile : List Int
  left : Nat
/-- a card that works on the pile alone -/
inductive Onp : Cd → List Int → List Int → List Int → List Int → Prop where
  | push {i : Int} {p s : List Int} : Onp (.push i) p s (p ++ [i]) s
  | load {j : Nat} {i : Int} {p s : List Int} : p[j]? = some i → Onp (.load (j : Int)) p s (p ++ [i]) s
  | store {j : Nat} {i : Int} {p s : List Int} : j < p.length → Onp (.store (j : Int)) (p ++ [i]) s (p.set j i) s
  | drop {i : Int} {p s : List Int} : Onp .drop (p ++ [i]) s p s
  | say {i : Int} {p s : List Int} : Onp .say (p ++ [i]) s p (s ++ [i])
  | flip {i : Int} {p s : List Int} : Onp .flip (p ++ [i]) s (p ++ [b2n (decide (i = 0))]) s
  | op {o : O3} {i j : Int} {p s : List Int} : (o = .mul → IntMulOk i j) → Onp (.op o) (p ++ [i] ++ [j]) s (p ++ [o.f i j]) s
  | less {i j : Int} {p s : List Int} : Onp .less (p ++ [i] ++ [j]) s (p ++ [b2n (decide (i < j))]) s
  | same {i j : Int} {p s : List Int} : Onp .same (p ++ [i] ++ [j]) s (p ++ [b2n (decide (i = j))]) s
/-- one card is done -/
inductive MStp (cs : List Cd) : Nat → List Int → Nat → List Int → Nat → List Int → Nat → List Int → Prop where
  | pile {k : Nat} {c : Cd} {p p' : List Int} {l : Nat} {s s' : List Int} : cs[k]? = some c → Onp c p s p' s' → MStp cs k p l s (k + 1) p' l s'
  | burn {k : Nat} {p : List Int} {l : Nat} {s : List Int} : cs[k]? = some .burn → MStp cs k p (l + 1) s (k + 1) p l s
  | back {k n : Nat} {p : List Int} {l : Nat} {s : List Int} : cs[k]? = some (.back (n : Int)) → n ≤ k → MStp cs k p (l + 1) s (k - n) p l s
  | skip {k n : Nat} {p : List Int} {l : Nat} {s : List Int} : cs[k]? = some (.skip (n : Int)) → k + 1 + n ≤ cs.length → MStp cs k p l s (k + 1 + n) p l s
  | fork0 {k n : Nat} {p : List Int} {l : Nat} {s : List Int} : cs[k]? = some (.fork (n : Int)) → k + 1 + n ≤ cs.length → MStp cs k (p ++ [0]) l s (k + 1 + n) p l s
  | fork1 {k : Nat} {n i : Int} {p : List Int} {l : Nat} {s : List Int} : cs[k]? = some (.fork n) → i ≠ 0 → MStp cs k (p ++ [i]) l s (k + 1) p l s
def Cd.oil : Cd → Bool
  | .burn => true
  | .back _ => true
  | _ => false
inductive MRun (cs : List Cd) : Nat → Nat → List Int → Nat → List Int → Fin → Prop where
  | done {p : List Int} {l : Nat} {s : List Int} : MRun cs 0 cs.length p l s ⟨true, s, p, l⟩
  | dry {k : Nat} {c : Cd} {p s : List Int} : cs[k]? = some c → c.oil = true → MRun cs 0 k p 0 s ⟨false, s, p, 0⟩
  | step {m k k' : Nat} {p p' : List Int} {l l' : Nat} {s s' : List Int} {f : Fin} : MStp cs k p l s k' p' l' s' → p.length ≤ 1000000 → s.length ≤ 1000000 → MRun cs m k' p' l' s' f → MRun cs (m + 1) k p l s f
theorem Onp.len {c : Cd} {p s p' s' : List Int} (h : Onp c p s p' s') : p'.length ≤ p.length + 1 ∧ s'.length ≤ s.length + 1 := by
  cases h <;> simp <;> omega
theorem MStp.len {cs : List Cd} {k k' l l' : Nat} {p s p' s' : List Int} (h : MStp cs k p l s k' p' l' s') : p'.length ≤ p.length + 1 ∧ s'.length ≤ s.length + 1 := by
  cases h with
  | pile _ h => exact h.len
  | burn _ => omega
  | back _ _ => omega
  | skip _ _ => omega
  | fork0 _ _ => simp; omega
  | fork1 _ _ => simp; omega
theorem MStp.lt {cs : List Cd} {k k' l l' : Nat} {p s p' s' : List Int} (h : MStp cs k p l s k' p' l' s') : ∃ c, cs[k]? = some c ∧ (l = 0 → c.oil = false) := by
  cases h with
  | pile e h => exact ⟨_, e, fun _ => by cases h <;> rfl⟩
  | burn e => exact ⟨_, e, fun z => by cases z⟩
  | back e _ => exact ⟨_, e, fun z => by cases z⟩
  | skip e _ => exact ⟨_, e, fun _ => rfl⟩
  | fork0 e _ => exact ⟨_, e, fun _ => rfl⟩
  | fork1 e _ => exact ⟨_, e, fun _ => rfl⟩
def Cd.wd : Cd → Str
  | .push _ => "push" | .load _ => "load" | .store _ => "store" | .drop => "drop" | .op o => o.w | .less => "less" | .same => "same" | .flip => "flip" | .say => "say" | .skip _ => "skip" | .fork _ => "fork" | .burn => "burn" | .back _ => "back"
theorem Cd.hd (c : Cd) : ∃ r, c.vs = .str c.wd :: r := by cases c <;> exact ⟨_, rfl⟩
theorem Cd.oil_in (c : Cd) : inV (.str c.wd) [.str "burn", .str "back"] = c.oil := by
  cases c with
  | op o => cases o <;> decide +kernel
  | push _ => exact (by decide +kernel : inV (.str "push") [.str "burn", .str "back"] = false)
  | load _ => exact (by decide +kernel : inV (.str "load") [.str "burn", .str "back"] = false)
  | store _ => exact (by decide +kernel : inV (.str "store") [.str "burn", .str "back"] = false)
  | drop => decide +kernel
  | less => decide +kernel
  | same => decide +kernel
  | flip => decide +kernel
  | say => decide +kernel
  | skip _ => exact (by decide +kernel : inV (.str "skip") [.str "burn", .str "back"] = false)
  | fork _ => exact (by decide +kernel : inV (.str "fork") [.str "burn", .str "back"] = false)
  | burn => decide +kernel
  | back _ => exact (by decide +kernel : inV (.str "back") [.str "burn", .str "back"] = true)
/-- a card that is none of the four hops -/
theorem Onp.hops {c : Cd} {p s p' s' : List Int} (h : Onp c p s p' s') : decide (V.str c.wd = V.str "fork") = false ∧ decide (V.str c.wd = V.str "skip") = false ∧ decide (V.str c.wd = V.str "burn") = false ∧ decide (V.str c.wd = V.str "back") = false := by
  cases h with
  | @op o i j p s hm => cases o <;> exact ⟨by decide +kernel, by decide +kernel, by decide +kernel, by decide +kernel⟩
  | push => exact ⟨(by decide +kernel : decide (V.str "push" = V.str "fork") = false), (by decide +kernel : decide (V.str "push" = V.str "skip") = false), (by decide +kernel : decide (V.str "push" = V.str "burn") = false), (by decide +kernel : decide (V.str "push" = V.str "back") = false)⟩
  | load _ => exact ⟨(by decide +kernel : decide (V.str "load" = V.str "fork") = false), (by decide +kernel : decide (V.str "load" = V.str "skip") = false), (by decide +kernel : decide (V.str "load" = V.str "burn") = false), (by decide +kernel : decide (V.str "load" = V.str "back") = false)⟩
  | store _ => exact ⟨(by decide +kernel : decide (V.str "store" = V.str "fork") = false), (by decide +kernel : decide (V.str "store" = V.str "skip") = false), (by decide +kernel : decide (V.str "store" = V.str "burn") = false), (by decide +kernel : decide (V.str "store" = V.str "back") = false)⟩
  | drop => exact ⟨by decide +kernel, by decide +kernel, by decide +kernel, by decide +kernel⟩
  | say => exact ⟨by decide +kernel, by decide +kernel, by decide +kernel, by decide +kernel⟩
  | flip => exact ⟨by decide +kernel, by decide +kernel, by decide +kernel, by decide +kernel⟩
  | less => exact ⟨by decide +kernel, by decide +kernel, by decide +kernel, by decide +kernel⟩
  | same => exact ⟨by decide +kernel, by decide +kernel, by decide +kernel, by decide +kernel⟩
theorem MachAt.cdsOut {C : Addr} {H H' : Hp} {p lc lp ld : Addr} {ws ws' : List V} {pile : List Int} {left place : Int} {said : List Int} {cs : List Cd} (h : MachAt C H p lc lp ld ws pile left place said) (M : MOut p lp ld H H') (hc : Cds H ws' cs) : Cds H' ws' cs := by
  obtain ⟨dx, fs, e, _⟩ := h.ob
  exact Paired.mapP hc fun v c ⟨a, ea, ht⟩ => ⟨a, ea, M a _ (ne_of ht e (fun z => by cases z)) (ne_of ht h.ep (fun z => by cases z)) (ne_of ht h.es (fun z => by cases z)) ht⟩
end J
namespace J
open PySem L2
theorem lk_snoc {m : List (Str × V)} {f : Str} {v : V} (h : m.lookup f = none) (g : Str) : (m ++ [(f, v)]).lookup g = if g = f then some v else m.lookup g := by
  induction m with
  | nil => rw [List.nil_append, lk_cons]
  | cons x m ih =>
    obtain ⟨k, y⟩ := x
    rw [lk_cons] at h
    rw [List.cons_append, lk_cons, lk_cons]
    by_cases e : f = k
    · rw [if_pos e] at h; cases h
    · rw [if_neg e] at h
      by_cases e1 : g = k
      · rw [if_pos e1, if_pos e1]
        rw [if_neg]
        intro z
        exact e (z.symm.trans e1)
      · rw [if_neg e1, if_neg e1]
        exact ih h
theorem Has.snoc {fs m : List (Str × V)} {f : Str} {v : V} (h : Has fs m) (hl : fs.length ≤ 49) (hn : m.lookup f = none) : Has (putF f v fs) (m ++ [(f, v)]) ∧ (putF f v fs).length ≤ fs.length + 1 := h.new hl (lk_snoc hn)
end J

set_option Elab.async false
set_option linter.all false
set_option maxRecDepth 100000
set_option maxHeartbeats 4000000
namespace L2
open PySem PySem.Spec PyProof.Rows PySem.W

theorem ObjOk.there {P : Program} {w : World} {H : Hp} {h : Heap} {a : Addr} {o : HO} (x : ObjOk P w H h a o) : ∃ ob, h.get? a = some ob := by
  cases o with
  | lst xs => obtain ⟨_, _, _, _, e⟩ := x; exact ⟨_, e⟩
  | tup xs => obtain ⟨_, _, _, ob, e, _⟩ := x; exact ⟨_, e⟩
  | dK kvs => obtain ⟨_, _, _, _, o, _, _, e, _⟩ := x; exact ⟨_, e⟩
  | dT kvs => obtain ⟨_, _, _, _, o, _, _, e, _⟩ := x; exact ⟨_, e⟩
  | set S n => obtain ⟨o, _, _, _, e, _⟩ := x; exact ⟨_, e⟩
  | ins C dx fs => obtain ⟨_, _, _, e, _⟩ := x; exact ⟨_, e⟩
  | own y => exact x
  | xd fs => obtain ⟨_, ⟨_, _, _, e, _⟩, _⟩ := x; exact ⟨_, e⟩
  | rng lo hi => obtain ⟨_, _, _, e⟩ := x; exact ⟨_, e⟩
  | frz ob u => exact ⟨_, x.1⟩
  | tbl ps => exact ⟨_, (show h.get? a = some _ from x)⟩
  | met f y => exact ⟨_, (show h.get? a = some _ from x)⟩
  | ext φ => exact x.2.1

/-! ### the callers' frames and a few records change, the rest stays -/
section
variable {h h' base : Heap} {l : List Env} {ch : List Addr} {H : Hp} {P : Program} {w : World}
theorem un_of_stays (st : (hideAll h (frs l ++ ch)).StaysIn h') (up : h.UpToSlots h') (ff : h.FunFrames base l) : Un (frs l) ch H H h h' where
  keep := fun b o e _ hb hc => st b o (hideAll_get _ e fun z => (List.mem_append.mp z).elim hb hc)
  slot := fun b o e _ hb _ => by
    obtain ⟨_, o', ho, hn⟩ := ff.mem hb
    rw [e] at ho
    cases ho
    exact up b o e hn
  free := fun _ _ _ n _ => n
  there := fun b o e hc => by
    by_cases hb : b ∈ frs l
    · obtain ⟨_, o', ho, hn⟩ := ff.mem hb
      rw [e] at ho
      cases ho
      obtain ⟨sl, q⟩ := up b o e hn
      exact ⟨_, q⟩
    · exact ⟨o, st b o (hideAll_get _ e fun z => (List.mem_append.mp z).elim hb hc)⟩
  tups := fun _ _ q => q
  frzs := fun _ _ _ q => q
  tbls := fun b ps q => ⟨#[], by simpa using q⟩
theorem hok_of_stays (ok : HOk P w H h) (st : (hideAll h (frs l ++ ch)).StaysIn h') (fr : ∀ b ∈ frs l, H b = none) (hc : ∀ b ∈ ch, H b = none) : HOk P w H h' := fun a o e =>
  (ok a o e).stay (fun b u hb q => st b u (hideAll_get _ q fun z => by
    have n : H b = none := (List.mem_append.mp z).elim (fr b) (hc b)
    rcases hb with rfl | hb
    · rw [n] at e; cases e
    · rw [n] at hb; cases hb)) (fun _ q => q) fun _ _ q => q
/-- two steps; what the second changes besides was not there before the first -/
theorem Un.up {fs fs' ex ch : List Addr} {H H1 H2 : Hp} {h h1 h2 : Heap} (a : Un fs ex H H1 h h1) (b : Un fs' ch H1 H2 h1 h2) (hf : ∀ c ∈ fs', c ∈ fs ∨ h.get? c = none) (hs : ∀ c ∈ fs, c ∈ fs') (hc : ∀ c ∈ ch, h.get? c = none) : Un fs ex H H2 h h2 where
  keep := fun c ob q n hcf hx => b.keep c ob (a.keep c ob q n hcf hx) (a.free c ob q n hx) (fun z => (hf c z).elim hcf fun z => by rw [q] at z; cases z) fun z => by have := hc c z; rw [q] at this; cases this
  slot := fun c ob q n hcf hx => by
    obtain ⟨sl, e1⟩ := a.slot c ob q n hcf hx
    obtain ⟨sl', e2⟩ := b.slot c _ e1 (a.free c ob q n hx) (hs c hcf) fun z => by have := hc c z; rw [q] at this; cases this
    exact ⟨sl', e2⟩
  free := fun c ob q n hx => by
    obtain ⟨o', e1⟩ := a.there c ob q hx
    exact b.free c o' e1 (a.free c ob q n hx) fun z => by have := hc c z; rw [q] at this; cases this
  there := fun c ob q hx => by
    obtain ⟨o', e1⟩ := a.there c ob q hx
    exact b.there c o' e1 fun z => by have := hc c z; rw [q] at this; cases this
  tups := fun c xs q => b.tups c xs (a.tups c xs q)
  frzs := fun c o u q => b.frzs c o u (a.frzs c o u q)
  tbls := fun c ps q => by
    obtain ⟨m1, e1⟩ := a.tbls c ps q
    obtain ⟨m2, e2⟩ := b.tbls c _ e1
    exact ⟨m1 ++ m2, by rw [e2, Array.append_assoc]⟩
end

/-! ### an exception in flight -/
def Exc (h : Heap) (x T : Addr) (cls : Value) : Prop :=
  ∃ oe vs oT ts a0, h.get? x = some oe ∧ (oe.cls = cls ∧ vs[0]? = some a0) ∧ oe.data = .fields vs ∧ vs[1]? = some (.ref T) ∧ T ≠ x ∧ h.get? T = some oT ∧ oT.data = .fields ts ∧ ts[3]? = some .none
theorem Exc.fly {h base : Heap} {l : List Env} {x T : Addr} {cls : Value} (e : Exc h x T cls) (ff : h.FunFrames base l) : ∃ a0, Heap.FlyingW (hideAll h (frs l ++ [x, T])) l x cls a0 h := by
  obtain ⟨oe, vs, oT, ts, a0, e1, e2, e3, e4, e5, e6, e7, e8⟩ := e
  refine ⟨a0, fun b o q => of_hideAll _ q, hideAll_none _ (by simp), funFrames_hide ff fun env he a ha => List.mem_append_left _ (List.mem_filterMap.mpr ⟨env, he, ha⟩), oe, vs, T, oT, ts, e1, e2, e3, e4, hideAll_none _ (by simp), e5, e6, e7, e8⟩
theorem exc_of {B h : Heap} {l : List Env} {x : Addr} {cls a0 : Value} (f : Heap.FlyingW B l x cls a0 h) : ∃ T, Exc h x T cls ∧ B.get? T = none := by
  obtain ⟨_, _, _, oe, vs, T, oT, ts, e1, e2, e3, e4, e5, e6, e7, e8, e9⟩ := f
  exact ⟨T, ⟨oe, vs, oT, ts, a0, e1, e2, e3, e4, e6, e7, e8, e9⟩, e5⟩
/-- the traceback is no caller's frame -/
theorem Exc.nofr {h h' base : Heap} {l : List Env} {x T : Addr} {cls : Value} (e : Exc h' x T cls) (up : h.UpToSlots h') (ff : h.FunFrames base l) : T ∉ frs l := fun z => by
  obtain ⟨oe, vs, oT, ts, a0, e1, e2, e3, e4, e5, e6, e7, e8⟩ := e
  obtain ⟨_, o', ho, hn⟩ := ff.mem z
  obtain ⟨sl, q⟩ := up T o' ho hn
  rw [e6] at q
  cases q
  exact hn ts e7

def CX1 (P : Program) (w : World) : CXT := fun outer H s E e s' => ∃ x T cls H', e = .ref x ∧ s'.os = s.os ∧ AllBare s'.gens ∧ Un (frs outer) [] H H' s.heap s'.heap ∧ HOk P w H' s'.heap ∧ Exc s'.heap x T cls ∧
  s.heap.get? x = none ∧ s.heap.get? T = none ∧ H' x = none ∧ H' T = none ∧ E cls none H'
theorem untracked {P : Program} {w : World} {H : Hp} {h : Heap} {a : Addr} (ok : HOk P w H h) (e : h.get? a = none) : H a = none := by
  cases q : H a with
  | none => rfl
  | some o => obtain ⟨ob, z⟩ := (ok a o q).there; rw [e] at z; cases z
theorem unseen {fs ex : List Addr} {H H' : Hp} {h h' : Heap} {a : Addr} (u : Un fs ex H H' h h') (hx : a ∉ ex) (e : h'.get? a = none) : h.get? a = none := by
  cases q : h.get? a with
  | none => rfl
  | some o => obtain ⟨o', z⟩ := u.there a o q hx; rw [e] at z; cases z
theorem hidden {h : Heap} {as : List Addr} {a : Addr} (e : (hideAll h as).get? a = none) (ha : a ∉ as) : h.get? a = none := by
  cases q : h.get? a with
  | none => rfl
  | some o => rw [hideAll_get _ q ha] at e; cases e

section
variable {P : Program} {w : World} {K : PySem.W.Frag} {mg : Str → Option Value} {base : Heap} {N : List Str} {qual : Str} {scope : Scope} {f : Addr} {cd : Value} {A : Around} {outer : List Env} {s : Shared} {H : Hp} {E : XK} {pins : List (Addr × Obj)} {σ : St} {H1 : Hp} {s2 : Shared}
/-- raised in a def's body: it leaves -/
theorem cx_made (I : Inv (cxOf (CX1 P w) P w K mg base N qual scope f cd A outer s H E) pins σ H1 s2) {h' : Heap} {e : Addr} {cls : Value} {vs : List Value} (hx : Heap.MadeExcOf s2.heap h' e cls vs) (hE : E cls none H1) :
    (cxOf (CX1 P w) P w K mg base N qual scope f cd A outer s H E).xe (.ref e) { s2 with heap := h' } := by
  have hst := I.stack
  have hfree := I.stkFree
  have hL : s.heap.get? s.heap.objs.size = none := by
    cases q : s.heap.get? s.heap.objs.size with
    | none => rfl
    | some o => exact absurd (Heap.lt_size q) (Nat.lt_irrefl _)
  refine wpAny_leaves_madeW (base := hideAll s2.heap (frs (envOfC qual scope s.heap.objs.size f cd :: outer) ++ [])) (h := s2.heap) I.ok.frames rfl (fun b o q => of_hideAll _ q) (funFrames_hide hst fun env he a ha => List.mem_append_left _ (List.mem_filterMap.mpr ⟨env, he, ha⟩)) hx fun h'' t fl _ _ up => ?_
  have up2 : s2.heap.UpToSlots h'' := (Heap.UpToSlots.of_keeps hx.keeps).trans up
  obtain ⟨T, ex, hT⟩ := exc_of fl
  have hT2 : s2.heap.get? T = none := hidden hT fun z => ex.nofr up2 hst (by rw [List.append_nil] at z; exact z)
  have U : Un (frs (envOfC qual scope s.heap.objs.size f cd :: outer)) [] H1 H1 s2.heap h'' := un_of_stays fl.1 up2 hst
  have UU : Un (frs outer) [] H H1 s.heap h'' := Un.up I.base U (fun c hc => by
    have hc' : c ∈ s.heap.objs.size :: frs outer := hc
    rcases List.mem_cons.mp hc' with z | z
    · exact .inr (by rw [z]; exact hL)
    · exact .inl z) (fun c hc => List.mem_cons_of_mem _ hc) (fun c hc => absurd hc (by simp))
  refine ⟨e, T, cls, H1, rfl, I.os, I.bare, UU, hok_of_stays I.hok fl.1 hfree (fun b hb => absurd hb (by simp)), ex, unseen I.base (by show e ∉ ([] : List Addr); simp) hx.new, unseen I.base (by show T ∉ ([] : List Addr); simp) hT2, untracked I.hok hx.new, untracked I.hok hT2, hE⟩
end

/-- an exception of a callee leaves this body too -/
theorem cx_pass {P : Program} {w : World} {K : PySem.W.Frag} {mg : Str → Option Value} {base : Heap} {N : List Str} {qual : Str} {scope : Scope} {f : Addr} {cd : Value} {A : Around} {outer : List Env} {s : Shared} {H : Hp} {E : XK} :
    Passes (CX1 P w) (cxOf (CX1 P w) P w K mg base N qual scope f cd A outer s H E) E := by
  intro pins σ H1 s1 e s' I h
  obtain ⟨x, T, cls, H', rfl, os, bare, U, ok, ex, nx, nT, hx, hT, hE⟩ := h
  have J : Inv (cxOf (CX1 P w) P w K mg base N qual scope f cd A outer s H E) pins σ H' s' := I.call' os U ok bare fun b z => absurd z (by simp)
  have hL : s.heap.get? s.heap.objs.size = none := by
    cases q : s.heap.get? s.heap.objs.size with
    | none => rfl
    | some o => exact absurd (Heap.lt_size q) (Nat.lt_irrefl _)
  obtain ⟨a0, fl⟩ := ex.fly J.stack
  refine wpAny_leaves_onW (L := s.heap.objs.size) J.ok.frames rfl fl fun h'' fl' up => ?_
  obtain ⟨T', ex', hT'⟩ := exc_of fl'
  have nofr := ex'.nofr up J.stack
  have bx : s.heap.get? x = none := unseen I.base (by show x ∉ ([] : List Addr); simp) nx
  have bT : s.heap.get? T = none := unseen I.base (by show T ∉ ([] : List Addr); simp) nT
  have hTT : s.heap.get? T' = none ∧ H' T' = none := by
    by_cases z : T' ∈ [x, T]
    · rcases List.mem_cons.mp z with rfl | z
      · exact ⟨bx, hx⟩
      · rw [List.mem_singleton.mp z]; exact ⟨bT, hT⟩
    · have q := hidden hT' fun y => (List.mem_append.mp y).elim nofr z
      exact ⟨unseen J.base (by show T' ∉ ([] : List Addr); simp) q, untracked J.hok q⟩
  have U2 := un_of_stays (H := H') fl'.1 up J.stack
  have UU : Un (frs outer) [] H H' s.heap h'' := Un.up J.base U2 (fun c hc => by
    have hc' : c ∈ s.heap.objs.size :: frs outer := hc
    rcases List.mem_cons.mp hc' with z | z
    · exact .inr (by rw [z]; exact hL)
    · exact .inl z) (fun c hc => List.mem_cons_of_mem _ hc) (fun c hc => by
      rcases List.mem_cons.mp hc with rfl | z
      · exact bx
      · rw [List.mem_singleton.mp z]; exact bT)
  refine ⟨x, T', cls, H', rfl, J.os, J.bare, UU, hok_of_stays J.hok fl'.1 J.stkFree (fun b hb => ?_), ex', bx, hTT.1, hx, hTT.2, hE⟩
  rcases List.mem_cons.mp hb with rfl | z
  · exact hx
  · rw [List.mem_singleton.mp z]; exact hT

/-! ### f'..{x}' of a text -/
section
variable {X : Cx}
end

/-! ### raise C(..) -/
section
variable {X : Cx}
def Lands (X : Cx) (E : XK) : Prop := ∀ (pins : List (Addr × Obj)) (σ : St) (H : Hp) (s : Shared) (h' : Heap) (e : Addr) (cls : Value) (vs : List Value), Inv X pins σ H s → Heap.MadeExcOf s.heap h' e cls vs → E cls none H → X.xe (.ref e) { s with heap := h' }
theorem cx_lands {P : Program} {w : World} {K : PySem.W.Frag} {mg : Str → Option Value} {base : Heap} {N : List Str} {qual : Str} {scope : Scope} {f : Addr} {cd : Value} {A : Around} {outer : List Env} {s : Shared} {H : Hp} {E : XK} :
    Lands (cxOf (CX1 P w) P w K mg base N qual scope f cd A outer s H E) E := fun _ _ _ _ _ _ _ _ I hx hE => cx_made I hx hE
/-- an own exception's class, out of the written part -/
theorem exc_cls {K : PySem.W.Frag} {h : Heap} {C : Addr} {bmB : List Value} {newId : String} (Y : K.In h) (q : excIn K C bmB newId = true) :
    ∃ bm N nm qn bs hdct sn sub ab col dd k0 k1 k2 k3 k5 mN, K.lookup C = some (excClassObj nm qn C N bs bm hdct sn sub ab col dd k0 k1 k2 k3 k5 newId) ∧ h.get? C = some (excClassObj nm qn C N bs bm hdct sn sub ab col dd k0 k1 k2 k3 k5 newId) ∧ h.Ns N mN ∧ mN "__init__" = none ∧ OwnTail h bmB bm := by
  unfold excIn at q
  split at q
  case h_2 => cases q
  case h_1 dd cd sl ho =>
    split at q
    case h_2 => cases q
    case h_1 C' bm k0 k1 k2 k3 n k5 hm hs =>
      rw [Bool.and_eq_true, Bool.and_eq_true, Bool.and_eq_true, Bool.and_eq_true, Bool.and_eq_true] at q
      simp only [beq_iff_eq, Bool.not_eq_true'] at q
      obtain ⟨nm, bs, mr, ns, qn, hd, sn, sub, ab, col, dl⟩ := cd
      obtain ⟨l⟩ := sl
      dsimp only at hm hs q
      obtain ⟨⟨⟨⟨⟨q1, q2⟩, q3⟩, q4⟩, q5⟩, q6⟩ := q
      subst q1 q2 q3 hm hs
      exact ⟨bm, ns, nm, qn, bs, hd, sn, sub, ab, col, dd, k0, k1, k2, k3, k5, _, ho, Y _ _ ho, .of_isNs (isNs_of_in Y q5), nsMap_none_of_in Y q5 q6, tail_of_in Y q4⟩
def tRaise (C : Addr) (E : XK) (ta : TA) : TS := fun _ σ H => ta σ H fun vs H1 => vs.length ≤ sizeLine ∧ E (.ref C) none H1
theorem ps_raise {E : XK} {x : Str} {C : Addr} {np cpos pos : Pos} {e₀ : Expr} {rest : List Expr} {ta : TA} {B Bn newId nid initId inN : String} {bm bmN : List Value} (L : Lands X E) (hc : X.calm = true) (hg : Gl X x) (hm : X.mg x = some (.ref C)) (q : excIn X.K C bm newId = true)
    (Fn : ExcBaseFacts Bn newId inN bmN) (hBn : bm.contains (.type Bn) = true) (FB : ExcBaseFacts B nid initId bm) (ha : PA X (e₀ :: rest) ta)
    (he : starEach (e₀ :: rest) X.env = (false, eval e₀ X.env) :: starEach rest X.env := by rfl) (hpl : (backTo cpos (starEach rest X.env)).any (·.1) = false := by rfl) (hdb : (x == ("__debug__" : Str)) = false := by decide) :
    PS X (.Raise (some (.Call (.Name x np) (e₀ :: rest) [] cpos)) none pos) (tRaise C E ta) := by
  intro pins s σ H D I h
  obtain ⟨tl, N, nm, qn, bs, hdct, sn, sub, ab, col, dd, k0, k1, k2, k3, k5, mN, hK, _, hN, hni, T⟩ := exc_cls I.mod.kin q
  refine wpAny_Raise_call_subU (C := C) (nm := nm) (q := qn) (N := N) (bs := bs) (bm := tl) (hdct := hdct) (sn := sn) (sub := sub) (ab := ab) (col := col) (dd := dd) (k0 := k0) (k1 := k1) (k2 := k2) (k3 := k3) (k5 := k5)
    Fn hBn FB (mN := mN) (T.hasType FB.hasBase) (I.ok.hd hc) (by rw [he]; show (false || (backTo cpos (starEach rest X.env)).any (·.1)) = false; rw [hpl]; rfl) hni (ld_glob I hg hm ⟨rfl, ?_⟩ hdb)
  have hA := ha cpos pins s σ H _ I h
  rw [he] at hA ⊢
  refine Calls.evalArgs_plain (thn hA fun us s1 ⟨vs, H1, I1, r1, q1⟩ => ?_)
  refine ⟨rfl, by show us.length ≤ sizeLine; rw [← r1.length]; exact q1.1, I1.kIn _ _ hK, hN.keeps I1.bk, T.keeps I1.bk, fun h' e hx => L pins σ H1 s1 h' e _ _ I1 hx q1.2⟩
end

theorem Fun.okX {P : Program} {w : World} {K : PySem.W.Frag} {mg : Str → Option Value} {base : Heap} {x qual : Str} {st : Stmt} {f : Addr} {fd : FuncData} {N ps : List Str} {k : Nat} {sp : Sp} (F : Fun K x qual st f fd) (S : FnScope N ps (defScope st)) (len : ∀ vs H Q E, sp vs H Q E → vs.length = ps.length)
    (hbody : ∀ (cdv : Value) (A : Around) (outer : List Env) (s : Shared) (H : Hp) (vs : List V) (Q : VK) (E : XK), Room k (A.deeper (envOfC qual (defScope st) s.heap.objs.size f cdv)) → sp vs H Q E →
      ∃ t, PSs (cxOf (CX1 P w) P w K mg base N qual (defScope st) f cdv A outer s H E) (defBody st) t ∧ t { nx := fun _ H' => Q .non H', rt := Q } (start N vs) H) : FnOk P w K mg base (CX1 P w) (k + 1) f fd ps sp := by
  obtain ⟨oc, od, kV, doc, pm, an, cdv, ct, osl, rfl, lk, hcd⟩ := F.ex
  exact fn_of lk hcd S len fun A outer s H vs Q E hr hsp => hbody cdv A outer s H vs Q E hr hsp

/-! ### expressions and bodies that may raise -/
def XPost (X : Cx) (pins : List (Addr × Obj)) (σ : St) (EX : Value → Hp → Prop) (e : Value) (s' : Shared) : Prop := ∃ H1 s1, Inv X pins σ H1 s1 ∧ CX1 X.prog X.w X.stack H1 s1 (fun cls _ H' => EX cls H') e s'
def PEx (X : Cx) (e : Expr) (t : St → Hp → VK → (Value → Hp → Prop) → Prop) : Prop :=
  ∀ (pins : List (Addr × Obj)) (s : Shared) (σ : St) (H : Hp) (Q : VK) (EX : Value → Hp → Prop), Inv X pins σ H s → t σ H Q EX → wpAny (model X.prog X.w) X.A (eval e X.env) (EP X pins σ Q) (XPost X pins σ EX) s
def PSx (X : Cx) (body : List Stmt) (t : Ends → St → Hp → (Value → Hp → Prop) → Prop) : Prop :=
  ∀ (pins : List (Addr × Obj)) (s : Shared) (σ : St) (H : Hp) (D : Ends) (EX : Value → Hp → Prop), Inv X pins σ H s → t D σ H EX → wpAny (model X.prog X.w) X.A (execs body X.env) (SP X pins D) (XPost X pins σ EX) s
section
variable {X : Cx} {k : Nat} {f : Addr} {fd : FuncData} {ps : List Str} {sp : Sp} {x : Str} {p pos apos : Pos} {e : Expr} {es : List Expr} {ta : TA} {t : St → Hp → VK → (Value → Hp → Prop) → Prop}
theorem pex_call (F : FnOk X.prog X.w X.K X.mg X.base (CX1 X.prog X.w) k f fd ps sp) (hr : Room k X.A) (hno : ∀ e s, ¬ X.xe e s) (hg : Gl X x) (hm : X.mg x = some (.ref f)) (hk : PySem.W.keepIn X.K (.ref f) = true) (hb : Binds X.K fd ps [])
    (ha : PA X (e :: es) ta) (hdb : (x == ("__debug__" : Str)) = false := by decide) (he : starEach (e :: es) X.env = (false, eval e X.env) :: starEach es X.env := by rfl) (hpl : (backTo pos (starEach es X.env)).any (·.1) = false := by rfl) :
    PEx X (.Call (.Name x p) (e :: es) [] pos) (fun σ H Q EX => ta σ H fun vs H1 => sp vs H1 Q fun cls _ H' => EX cls H') := by
  intro pins s σ H Q EX I h
  refine wpAny_Call_Name_kw (ld_glob I hg hm ?_ hdb)
  refine PySem.W.callWith_K (h₀ := X.base) I.ok.mod.kin hk (wpAny_mono (ha pos pins s σ H _ I h) (fun us s1 ⟨vs, H1, I1, r, q⟩ => ⟨I1.kIn, ?_⟩) (fun e s z => (hno e s z).elim)) he hpl
  have hl : us.length = ps.length := by rw [← r.length]; exact F.len _ _ _ _ q
  have hB := hb s1 us I1.kIn (by rw [List.append_nil]; exact hl)
  rw [List.append_nil] at hB
  refine wpAny_call (codeAny_mono (F.run X.A X.stack s1 H1 ⟨us, []⟩ us vs Q _ hr I1.env0 hB r q) fun rr s' hq => ?_)
  cases rr with
  | error e => exact ⟨H1, s1, I1, hq⟩
  | ok fl =>
    cases fl with
    | ret u => exact I1.after hq
    | next => exact False.elim hq
    | brk => exact False.elim hq
    | cont => exact False.elim hq
end

/-! ### within a handler -/
abbrev Cx.caught (X : Cx) (e : Addr) : Cx := { X with A := X.A.mark (some (.ref e)), calm := false }
theorem Cx.Ok.caught {X : Cx} (ok : X.Ok) (e : Addr) : (X.caught e).Ok :=
  ⟨ok.mod, ok.kind, ok.glob, ok.blt, ok.above, ok.inj, ok.has, ok.cab, (fun z => nomatch z), ok.frames, ok.stk, ok.exf, ok.bs, ok.bsz, ok.noex, ok.exfs, ok.funs, ok.frf⟩
theorem Inv.caught {X : Cx} {pins : List (Addr × Obj)} {σ : St} {H : Hp} {s : Shared} (I : Inv X pins σ H s) (e : Addr) : Inv (X.caught e) pins σ H s := ⟨I.ok.caught e, I.os, I.bare, I.base, I.loc, I.cell, I.free, I.freeC, I.pin, I.hok, I.len⟩
theorem Inv.uncaught {X : Cx} {pins : List (Addr × Obj)} {σ : St} {H : Hp} {s : Shared} {e : Addr} (ok : X.Ok) (I : Inv (X.caught e) pins σ H s) : Inv X pins σ H s := ⟨ok, I.os, I.bare, I.base, I.loc, I.cell, I.free, I.freeC, I.pin, I.hok, I.len⟩

/-- the class in the handler takes this exception -/
def Takes (P : Program) (w : World) (K : PySem.W.Frag) (D : Addr) (cls : Value) : Prop := ∀ (s : Shared) (x : Addr) (oe : Obj) (A : Around) (Q : Bool → Shared → Prop) (E : Value → Shared → Prop), K.In s.heap → s.heap.get? x = some oe → oe.cls = cls → Q true s → wpAny (model P w) A (excMatches (.ref x) (.ref D)) Q E s
theorem takes_self {P : Program} {w : World} {K : PySem.W.Frag} {C : Addr} {bmB : List Value} {newId : String} (q : excIn K C bmB newId = true) (hb : bmB.contains (.type "BaseException") = true) : Takes P w K C (.ref C) := by
  intro s x oe A Q E Y ho hc h
  obtain ⟨bm, N, nm, qn, bs, hdct, sn, sub, ab, col, dd, k0, k1, k2, k3, k5, mN, _, hC, hN, hni, T⟩ := exc_cls Y q
  obtain ⟨hh, g, d, tk, os⟩ := s
  exact wpAny_excMatches_sub_self hC ho hc (T.hasType hb) h

section
variable {X : Cx} {body : List Stmt} {t : Ends → St → Hp → (Value → Hp → Prop) → Prop} {z : Str} {zp hp pos : Pos} {D0 : Addr} {b₀ : Stmt} {suite : List Stmt} {tb : TS}
/-- at the handler's door -/
theorem inv_door {pins : List (Addr × Obj)} {σ : St} {H H' : Hp} {s s' : Shared} {x T : Addr} {h'' : Heap} (I : Inv X pins σ H s) (os : s'.os = s.os) (bare : AllBare s'.gens) (U : Un (frs X.stack) [] H H' s.heap s'.heap) (ok : HOk X.prog X.w H' s'.heap)
    (nx : s.heap.get? x = none) (nT : s.heap.get? T = none) (hx : H' x = none) (hT : H' T = none) (st : (hideAll s'.heap (frs X.stack ++ [x, T])).StaysIn h'') (up : s'.heap.UpToSlots h'') : Inv X pins σ H' { s' with heap := h'' } := by
  have J : Inv X pins σ H' s' := I.call' os U ok bare fun b z => absurd z (by simp)
  have two : ∀ (Pp : Addr → Prop), Pp x → Pp T → ∀ b ∈ [x, T], Pp b := fun Pp h1 h2 b hb => by
    rcases List.mem_cons.mp hb with rfl | z
    · exact h1
    · rw [List.mem_singleton.mp z]; exact h2
  exact I.call' (s' := { s' with heap := h'' }) (ch := []) os (Un.up U (un_of_stays st up J.stack) (fun c hc => .inl hc) (fun c hc => hc) (two (fun c => s.heap.get? c = none) nx nT)) (hok_of_stays ok st J.stkFree (two (fun c => H' c = none) hx hT)) bare fun b z => absurd z (by simp)
def tTry (X : Cx) (hit : Value → Prop) (t : Ends → St → Hp → (Value → Hp → Prop) → Prop) (tb : TS) : TS := fun D σ H => t D σ H fun cls H' => hit cls ∧ tb D σ H'
theorem ps_try {hit : Value → Prop} (hS : X.stack = X.env :: X.outer) (hF : X.env.frame = some X.env.locals) (hb : PSx X body t) (hg : Gl X z) (hm : X.mg z = some (.ref D0)) (hhit : ∀ cls, hit cls → Takes X.prog X.w X.K D0 cls)
    (hs : ∀ x, PSs (X.caught x).nox (b₀ :: suite) tb) (hd : (z == ("__debug__" : Str)) = false := by decide) : PS X (.Try body [.ExceptHandler (some (.Name z zp)) none (b₀ :: suite) hp] [] [] pos) (tTry X hit t tb) := by
  intro pins s σ H D I h
  refine wpAny_Try_except (wpAny_mono (hb pins s σ H D _ I h) (fun f s1 q => ?_) fun e s' q => ?_)
  · cases f with
    | next => exact wpAny_execs_nil q
    | brk => exact q
    | cont => exact q
    | ret v => exact q
  obtain ⟨H1, s1, I1, x, T, cls, H', rfl, os, bare, U, ok, ex, nx, nT, hx, hT, hE⟩ := q
  have J : Inv X pins σ H' s' := I1.call' os U ok bare fun b z => absurd z (by simp)
  obtain ⟨a0, fl⟩ := ex.fly J.stack
  have fl2 := fl
  rw [hS] at fl2
  refine wpAny_looks_onW (by rw [I.ok.frames, hS]) hF fl2 fun h4 held up4 => ?_
  refine wpAny_landsW held fun h5 fl5 up5 => ?_
  have st5 := fl5.1
  rw [← hS] at st5
  have J5 : Inv X pins σ H' { s' with heap := h5 } := inv_door I1 os bare U ok nx nT hx hT st5 (up4.trans up5)
  refine wpAny_handleBy_cons (codeAny_handlers_test (ld_glob (J5.caught x) hg hm ?_ hd)) (by intro q; cases q)
  obtain ⟨ob, hob, hobc⟩ := fl5.there
  refine hhit cls hE.1 _ x ob _ _ _ J5.kIn hob hobc ?_
  refine codeAny_handlers_suite (lands_againW fl5 fun h6 fl6 up6 => ?_)
  have st6 := fl6.1
  rw [← hS] at st6
  have J6 : Inv X pins σ H' { s' with heap := h6 } := inv_door I1 os bare U ok nx nT hx hT st6 ((up4.trans up5).trans up6)
  refine wpAny_mono (hs x pins _ σ H' D ((J6.caught x).wish _) hE.2) (fun f s7 q => ?_) fun _ _ z => z.elim
  cases f with
  | next => obtain ⟨a, b, c, d⟩ := q; exact ⟨a, b, Inv.uncaught I.ok c.unwish, d⟩
  | brk => obtain ⟨a, b, c, d⟩ := q; exact ⟨a, b, Inv.uncaught I.ok c.unwish, d⟩
  | cont => obtain ⟨a, b, c, d⟩ := q; exact ⟨a, b, Inv.uncaught I.ok c.unwish, d⟩
  | ret v => obtain ⟨a, b, c, d, r, e⟩ := q; exact ⟨a, b, c, Inv.uncaught I.ok d.unwish, r, e⟩
end
end L2

set_option Elab.async false
set_option linter.all false
set_option maxRecDepth 100000
set_option maxHeartbeats 4000000
namespace L2
open PySem PySem.Spec PyProof.Rows PySem.W

/-- what the written part says of an own exception's class, as far as isinstance asks -/
structure ExcAsk (K : PySem.W.Frag) (D : Addr) : Prop where
  ga : findIn K (.ref D) "__getattribute__" = some (some (.builtin "BaseException.__getattribute__"))
  gt : findIn K (.ref D) "__getattr__" = some none
  cl : findIn K (.ref D) "__class__" = some (some (.builtin "object.__class__"))
  hn : specialIn K (.builtin "object.__class__") "__get__" = some (some (.builtin "getset_descriptor.__get__"))
  tk : takesIn K (.builtin "object.__class__") = some true
  mo : mroIn K D (.type "object") = some true
  mb : mroIn K D (.type "BaseException") = some true
  cd : (clsIn K D).isSome = true

section
variable {prog : Program} {w : World} {A : Around} {E : Value → Shared → Prop} {K : PySem.W.Frag} {x D : Addr}
def IsA (h : Heap) (x D : Addr) : Prop := ∃ ox, h.get? x = some ox ∧ ox.cls = .ref D
theorem IsA.type {M : Model} {h : Heap} (I : IsA h x D) : Looks M h (typeOf (.ref x)) (.ref D) := by
  obtain ⟨ox, e, c⟩ := I
  exact c ▸ (Looks.ld e).andThen .now
theorem exc_class_get {s : Shared} {tp : Value} {R : Result → Shared → Prop} (Y : K.In s.heap) (I : IsA s.heap x D) (mo : mroIn K D (.type "object") = some true) (hq : R (.ok (.ret (.ref D))) s) :
    codeAny (model prog w) A (.call (.builtin "getset_descriptor.__get__") ⟨[.builtin "object.__class__", .ref x, tp], []⟩) R s := by
  obtain ⟨p1, p2, p3, p4, p5⟩ := s
  have T0 := I.type (M := model prog w)
  have T1 := looks_mroIn (M := model prog w) Y mo
  refine codeAny_call_builtin KF.slot_gs.plain
    KF.entry_gs (KF.slot_gs.check _ _ _ _ _ _ _ _
      KF.type_class (KF.args_gs _ _ _) ?_)
  unfold Builtin.«getset_descriptor.__get__»
  unfold Builtin.Getset_descriptor.descrGet
  rw [dga_obj]
  refine wpAny_bind (wpAny_pure ?_)
  unfold Builtin.Getset_descriptor.descrGetter Builtin.Getset_descriptor.descrCheckInstance
  unfold Builtin.Getset_descriptor.descrNameAndClass isInstance
  simp only [KF.owner_class]
  repeat lk
  refine ⟨Code.quiet_builtin _ (by decide +kernel),
    codeAny_builtin KF.entry_class ?_⟩
  unfold Builtin.«object.__class__»
  unfold shownTypeOf
  repeat lk
  exact hq
theorem exc_class_entry {h : Heap} {g : Array GenState} {d : Drawn} {t : Nat} {os : OsState} {tk : Tok} {Q : Fin → Shared → Prop} (a : ExcAsk K D) (Y : K.In h) (I : IsA h x D) (hq : Q (.done (.ret (.ref D))) ⟨h, g, d, t, os⟩) :
    wpAny (model prog w) A (Builtin.«object.__getattribute__» ⟨[.ref x, .str "__class__" tk], []⟩) Q E ⟨h, g, d, t, os⟩ := by
  have L0 := I.type (M := model prog w)
  have L1 := looks_findIn (M := model prog w) Y a.cl
  have L2 := looks_specialIn (M := model prog w) Y a.hn
  have L3 := looks_takesIn (M := model prog w) Y a.tk
  unfold Builtin.«object.__getattribute__»
  repeat lk
  refine wpAny_run (exc_class_get (s := ⟨h, g, d, t, os⟩) Y I a.mo ?_)
  exact wpAny_pure (wpAny_pure hq)
theorem exc_check {M : Model} {h : Heap} {g : Array GenState} {d : Drawn} {t : Nat} {os : OsState} {v : Value} {Q : Unit → Shared → Prop} (a : ExcAsk K D) (Y : K.In h) (I : IsA h x D) (hq : Q () ⟨h, g, d, t, os⟩) :
    wpAny M A (checkBuiltinCall "BaseException.__getattribute__" ⟨[.ref x, v], []⟩) Q E ⟨h, g, d, t, os⟩ := by
  have L0 := I.type (M := M)
  have L1 := looks_mroIn (M := M) Y a.mb
  have u1 : builtinKind "BaseException.__getattribute__" = some .slot := by decide +kernel
  have u2 : splitId "BaseException.__getattribute__" = some ("BaseException", "__getattribute__") := by decide +kernel
  have u3 := F.args_bexc_ga (.ref x) v
  simp only [checkBuiltinCall, u1, u2]
  refine wpAny_bind ?_
  · unfold isInstance
    repeat (first | (with_reducible refine L0.at ?_) | (with_reducible refine L1.at ?_) | wp_step)
    exact hq
theorem exc_class_call {h : Heap} {g : Array GenState} {d : Drawn} {t : Nat} {os : OsState} {tk : Tok} {R : Result → Shared → Prop} (a : ExcAsk K D) (Y : K.In h) (I : IsA h x D) (hq : R (.ok (.ret (.ref D))) ⟨h, g, d, t, os⟩) :
    codeAny (model prog w) A (.call (.builtin "BaseException.__getattribute__") ⟨[.ref x, .str "__class__" tk], []⟩) R ⟨h, g, d, t, os⟩ :=
  codeAny_call_builtin F.attrBase_ValueError.ga.plain F.entry_bexc_ga (exc_check a Y I (exc_class_entry a Y I hq))
theorem exc_class_by {h : Heap} {g : Array GenState} {d : Drawn} {t : Nat} {os : OsState} {tk : Tok} {fill expr : Bool} {Q : Value → Shared → Prop} (a : ExcAsk K D) (Y : K.In h) (I : IsA h x D) (hq : Q (.ref D) ⟨h, g, d, t, os⟩) :
    wpAny (model prog w) A (getAttrBy (.ref x) (.str "__class__" tk) fill expr) Q E ⟨h, g, d, t, os⟩ := by
  have f3 := F.attrBase_ValueError.ga.bind (.ref x)
  have u0 : (expr && onTheHeap (Value.builtin "BaseException.__getattribute__")) = false := by cases expr <;> rfl
  have u2 : (Value.builtin "BaseException.__getattribute__" == Value.builtin "object.__getattribute__") = false := by decide +kernel
  have u1 : (onTheHeap (Value.ref D) && Value.builtin "BaseException.__getattribute__" == Value.builtin "object.__getattribute__") = false := by rw [u2]; rfl
  have L0 := I.type (M := model prog w)
  have L1 := looks_findIn (M := model prog w) Y a.ga
  have L2 := looks_findIn (M := model prog w) Y a.gt
  repeat (any_goals (first | assumption | (with_reducible refine L0.at ?_) | (with_reducible refine L1.at ?_) | (with_reducible refine L2.at ?_) | wp_step))
  refine exc_class_call a Y I ?_
  repeat (any_goals (first | assumption | wp_step))
theorem exc_class_attr {s : Shared} {Q : Option Value → Shared → Prop} (a : ExcAsk K D) (Y : K.In s.heap) (I : IsA s.heap x D) (hq : Q (some (.ref D)) { s with toks := s.toks + 1 }) :
    wpAny (model prog w) A (getAttr? (.ref x) "__class__") Q E s := by
  obtain ⟨h, g, d, t, os⟩ := s
  unfold getAttr? getAttrBy?
  repeat (any_goals (first | assumption | with_reducible apply exc_class_by a Y I | wp_step))
/-- the kit that isinstance asks for -/
theorem kitx_exc (a : ExcAsk K D) : KitX K (.ref x) (.ref D) (fun h => IsA h x D) where
  ty := fun _ _ _ I => I.type
  it := fun _ h Y _ => by
    have q := a.cd
    unfold clsIn at q
    split at q
    · rename_i ho
      intro A' Q' E' s' k z
      unfold isType loadHead
      exact wpAny_bind (wpAny_loadPart (k _ _ (Y _ _ ho)) (wpAny_pure z))
    · cases q
  ne := fun h tp dd its n sl Y htp => by
    have q := a.cd
    refine Bool.eq_false_iff.mpr fun z => ?_
    have e : D = tp := Value.ref.inj (beq_iff_eq.mp z)
    subst e
    unfold clsIn at q
    split at q
    · rename_i ho
      cases (Y _ _ ho).symm.trans htp
    · cases q
  ca := fun Y I k => exc_class_attr a Y I k
end

/-! ### isinstance of a caught exception -/
section
variable {X : Cx}
def rIsiX (X : Cx) : List V → Hp → VK → Prop := fun xs H Q => ∃ x ox D v c b, xs = [.ref x, v] ∧ (x, ox) ∈ X.pn ∧ ox.cls = .ref D ∧ ((∃ C, v = .ref C ∧ c = Value.ref C) ∨ ∃ n, v = .ty n ∧ c = Value.type n) ∧ ExcAsk X.K D ∧ kitOne X.K (.ref D) c = some b ∧ Q (.bl b) H
theorem call_isiX : CallR X (.builtin "isinstance") (rIsiX X) := by
  intro pins s σ H xs us Q I r h
  obtain ⟨x, ox, D, v, c, b, rfl, hp, hc, hv, a, e, q⟩ := h
  obtain ⟨u, w', rfl, r1, r2⟩ := vals2 r
  cases (show u = Value.ref x from r1)
  have hw : w' = c := by
    rcases hv with ⟨C, rfl, rfl⟩ | ⟨n, rfl, rfl⟩
    · exact r2
    · exact r2
  subst hw
  exact kia_one (kitx_exc a) I.kIn ⟨ox, (I.pin _ (List.mem_append_left _ hp)).1, hc⟩ e (fun z => nomatch z) fun tk => ⟨.bl b, H, I.tok tk, rfl, q⟩
end

end L2

set_option Elab.async false
set_option linter.all false
set_option maxRecDepth 100000
set_option maxHeartbeats 400000
namespace L2
open PySem PySem.Spec PyProof.Rows PySem.W
/-! ### except D as e -/
theorem takes_base {P : Program} {w : World} {K : PySem.W.Frag} {C D : Addr} {bmB bmD : List Value} {newId newD : String} (q : excIn K C bmB newId = true) (qD : excIn K D bmD newD = true) (hb : bmD.contains (.type "BaseException") = true) (hm : mroIn K C (.ref D) = some true) : Takes P w K D (.ref C) := by
  intro s x oe A Q E Y ho hc h
  obtain ⟨bm, N, nm, qn, bs, hdct, sn, sub, ab, col, dd, k0, k1, k2, k3, k5, mN, hK, hC, hN, hni, T⟩ := exc_cls Y q
  obtain ⟨bm', N', nm', qn', bs', hdct', sn', sub', ab', col', dd', l0, l1, l2, l3, l5, mN', _, hD, hN', hni', T'⟩ := exc_cls Y qD
  have L1 := looks_mroIn (M := model P w) Y hm
  have hcB : (Value.ref D :: bm').contains (.type "BaseException") = true := by rw [List.contains_cons, T'.hasType hb, Bool.or_true]
  obtain ⟨hh, g, d, tk, os⟩ := s
  have u := tc_notTuple
  unfold excMatches
  repeat (first | (with_reducible refine wpAny_loadPart_at ho ?_; rw [hc]) | with_reducible refine wpAny_loadPart_at hD ?_ | (with_reducible refine wpAny_isSubtype_exc hD ?_; rw [hcB]) | with_reducible refine L1.at ?_ | wp_step)
  exact h


section
variable {X : Cx} {body : List Stmt} {t : Ends → St → Hp → (Value → Hp → Prop) → Prop} {z n : Str} {zp hp pos : Pos} {D0 : Addr} {b₀ : Stmt} {suite : List Stmt} {tb : Addr → Obj → TS} {i : Nat}
end
end L2

set_option linter.all false
namespace J
open PySem L2
def veB : List Value := [.type "ValueError", .type "Exception", .type "BaseException", .type "object"]
end J

set_option Elab.async false
set_option linter.all false
set_option maxRecDepth 100000
set_option maxHeartbeats 4000000
namespace L2
open PySem PySem.Spec PyProof.Rows PySem.W
/-- either promise -/
theorem FnOk.or {P : Program} {w : World} {K : PySem.W.Frag} {mg : Str → Option Value} {base : Heap} {k : Nat} {f : Addr} {fd : FuncData} {ps : List Str} {sp1 sp2 : Sp} (F : FnOk P w K mg base CX0 k f fd ps sp1) (G : FnOk P w K mg base (CX1 P w) k f fd ps sp2) :
    FnOk P w K mg base (CX1 P w) k f fd ps (fun vs H Q E => sp1 vs H Q E ∨ sp2 vs H Q E) :=
  ⟨fun vs H Q E q => q.elim (F.len vs H Q E) (G.len vs H Q E), fun A outer s H args us vs Q E hr he hb hv hs => by
    rcases hs with hs | hs
    · refine codeAny_mono (F.run A outer s H args us vs Q E hr he hb hv hs) fun r s' hq => ?_
      cases r with
      | error e => exact False.elim hq
      | ok fl => cases fl <;> exact hq
    · exact G.run A outer s H args us vs Q E hr he hb hv hs⟩
section
variable {X : Cx}
/-- xs.index(i) of a list of numbers -/
def rIndexI : V → List V → Hp → VK → Prop := fun x vs H Q => ∃ l ns i j, x = .ref l ∧ vs = [.int i] ∧ H l = some (.lst (List.map V.int ns)) ∧ ns[j]? = some i ∧ (∀ m : Nat, m < j → ns[m]? ≠ some i) ∧ Q (.int (j : Int)) H
theorem vals_int_at' : ∀ {ns : List Int} {its : List Value}, Vals (ns.map V.int) its → ∀ {j : Nat} {v : Value}, its[j]? = some v → ∃ i t, ns[j]? = some i ∧ v = .int i t
  | [], _, r, j, v, e => by cases r; simp at e
  | n :: ns, _, r, j, v, e => by
    cases r with
    | cons h t =>
      obtain ⟨tk, rfl⟩ := h
      cases j with
      | zero => simp at e; exact ⟨n, tk, rfl, e.symm⟩
      | succ j => simpa using vals_int_at' t (by simpa using e)
theorem mt_indexI : MtM X "list.index" rIndexI := by
  intro pins s σ H x vs v us Q I rx rv h
  obtain ⟨l, ns, i, j, rfl, rfl, hH, hj, hno, q⟩ := h
  cases rx
  obtain ⟨u, rfl, ru⟩ := rv.one
  obtain ⟨tk, rfl⟩ := ru
  obtain ⟨z, its, n, r, hl, e⟩ := I.lstM hH
  have hlen := r.length
  rw [List.length_map] at hlen
  have hjl := (List.getElem?_eq_some_iff.mp hj).1
  have hsz : its.toArray.size = its.length := List.size_toArray
  refine call_meets F.slot_list_index ⟨_, e, rfl⟩ F.entry_list_index (F.args_list_index_2 _ _)
    (SeqAt.list_indexAt l its.toArray n _ _ (.int i tk) (fun y => match y with | .int a _ => a == i | _ => false) j (by rw [hsz]; omega) (by have := line63; have h9 : (List.map V.int ns).length = ns.length := List.length_map _; omega) ?_ ?_) ⟨e, ?_, ?_⟩
  · have g : its[j]? = some its[j] := List.getElem?_eq_getElem (by omega)
    obtain ⟨a, t, e1, e2⟩ := vals_int_at' r g
    rw [hj] at e1; cases e1
    simp [e2]
  · intro m hm hlt
    have hm' : m < its.length := by rw [hsz] at hm; exact hm
    have g : its[m]? = some its[m] := List.getElem?_eq_getElem hm'
    obtain ⟨a, t, e1, e2⟩ := vals_int_at' r g
    have := hno m hlt
    rw [e1] at this
    have hne : a ≠ i := fun z => this (by rw [z])
    simp [e2, hne]
  · intro y hy
    have hy' : y ∈ its := by simpa using hy
    obtain ⟨m, hm⟩ := List.getElem?_of_mem hy'
    obtain ⟨a, t, e1, rfl⟩ := vals_int_at' r hm
    exact SeqAt.EqAt.int_int a t i tk
  · exact ⟨.int (j : Int), H, I.tok _, ⟨_, rfl⟩, q⟩
end
end L2
namespace J
open PySem L2
/-! ### what jams -/
inductive Jm : Cd → List Int → Prop where
  | load {k : Int} {p : List Int} : ¬ (0 ≤ k ∧ k < (p.length : Int)) → Jm (.load k) p
  | store0 {k : Int} : Jm (.store k) []
  | store {k i : Int} {p : List Int} : ¬ (0 ≤ k ∧ k < (p.length : Int)) → Jm (.store k) (p ++ [i])
  | drop : Jm .drop []
  | say : Jm .say []
  | flip : Jm .flip []
  | op0 {o : O3} : Jm (.op o) []
  | op1 {o : O3} {i : Int} : Jm (.op o) [i]
  | less0 : Jm .less []
  | less1 {i : Int} : Jm .less [i]
  | same0 : Jm .same []
  | same1 {i : Int} : Jm .same [i]
theorem Jm.hops {c : Cd} {p : List Int} (h : Jm c p) : decide (V.str c.wd = V.str "fork") = false ∧ decide (V.str c.wd = V.str "skip") = false ∧ decide (V.str c.wd = V.str "burn") = false ∧ decide (V.str c.wd = V.str "back") = false := by
  cases h with
  | @op0 o => cases o <;> exact ⟨by decide +kernel, by decide +kernel, by decide +kernel, by decide +kernel⟩
  | @op1 o i => cases o <;> exact ⟨by decide +kernel, by decide +kernel, by decide +kernel, by decide +kernel⟩
  | load _ => exact ⟨(by decide +kernel : decide (V.str "load" = V.str "fork") = false), (by decide +kernel : decide (V.str "load" = V.str "skip") = false), (by decide +kernel : decide (V.str "load" = V.str "burn") = false), (by decide +kernel : decide (V.str "load" = V.str "back") = false)⟩
  | store0 => exact ⟨(by decide +kernel : decide (V.str "store" = V.str "fork") = false), (by decide +kernel : decide (V.str "store" = V.str "skip") = false), (by decide +kernel : decide (V.str "store" = V.str "burn") = false), (by decide +kernel : decide (V.str "store" = V.str "back") = false)⟩
  | store _ => exact ⟨(by decide +kernel : decide (V.str "store" = V.str "fork") = false), (by decide +kernel : decide (V.str "store" = V.str "skip") = false), (by decide +kernel : decide (V.str "store" = V.str "burn") = false), (by decide +kernel : decide (V.str "store" = V.str "back") = false)⟩
  | drop => exact ⟨by decide +kernel, by decide +kernel, by decide +kernel, by decide +kernel⟩
  | say => exact ⟨by decide +kernel, by decide +kernel, by decide +kernel, by decide +kernel⟩
  | flip => exact ⟨by decide +kernel, by decide +kernel, by decide +kernel, by decide +kernel⟩
  | less0 => exact ⟨by decide +kernel, by decide +kernel, by decide +kernel, by decide +kernel⟩
  | less1 => exact ⟨by decide +kernel, by decide +kernel, by decide +kernel, by decide +kernel⟩
  | same0 => exact ⟨by decide +kernel, by decide +kernel, by decide +kernel, by decide +kernel⟩
  | same1 => exact ⟨by decide +kernel, by decide +kernel, by decide +kernel, by decide +kernel⟩
inductive JStp (cs : List Cd) : Nat → List Int → Nat → Prop where
  | pile {k : Nat} {c : Cd} {p : List Int} {l : Nat} : cs[k]? = some c → Jm c p → JStp cs k p l
  | back {k : Nat} {n : Int} {p : List Int} {l : Nat} : cs[k]? = some (.back n) → ¬ (0 ≤ n ∧ n ≤ (k : Int)) → JStp cs k p (l + 1)
  | skip {k : Nat} {n : Int} {p : List Int} {l : Nat} : cs[k]? = some (.skip n) → ¬ (0 ≤ n ∧ (k : Int) + 1 + n ≤ (cs.length : Int)) → JStp cs k p l
  | fork0 {k : Nat} {n : Int} {l : Nat} : cs[k]? = some (.fork n) → JStp cs k [] l
  | fork {k : Nat} {n : Int} {p : List Int} {l : Nat} : cs[k]? = some (.fork n) → ¬ (0 ≤ n ∧ (k : Int) + 1 + n ≤ (cs.length : Int)) → JStp cs k (p ++ [0]) l
theorem JStp.lt {cs : List Cd} {k l : Nat} {p : List Int} (h : JStp cs k p l) : ∃ c, cs[k]? = some c ∧ (l = 0 → c.oil = false) := by
  cases h with
  | pile e h => exact ⟨_, e, fun _ => by cases h <;> rfl⟩
  | back e _ => exact ⟨_, e, fun z => by cases z⟩
  | skip e _ => exact ⟨_, e, fun _ => rfl⟩
  | fork0 e => exact ⟨_, e, fun _ => rfl⟩
  | fork e _ => exact ⟨_, e, fun _ => rfl⟩
/-! ### a run with all its states -/
structure S8 where
  k : Nat
  p : List Int
  l : Nat
  s : List Int
inductive Tr (cs : List Cd) : Nat → S8 → List S8 → Option Bool → Prop where
  | done {p : List Int} {l : Nat} {s : List Int} : Tr cs 0 ⟨cs.length, p, l, s⟩ [] (some true)
  | dry {k : Nat} {c : Cd} {p s : List Int} : cs[k]? = some c → c.oil = true → Tr cs 0 ⟨k, p, 0, s⟩ [] (some false)
  | jam {k : Nat} {p : List Int} {l : Nat} {s : List Int} : JStp cs k p l → p.length ≤ 1000000 → Tr cs 0 ⟨k, p, l, s⟩ [] none
  | step {m k k' : Nat} {p p' : List Int} {l l' : Nat} {s s' : List Int} {r : List S8} {o : Option Bool} : MStp cs k p l s k' p' l' s' → p.length ≤ 1000000 → s.length ≤ 1000000 → Tr cs m ⟨k', p', l', s'⟩ r o → Tr cs (m + 1) ⟨k, p, l, s⟩ (⟨k', p', l', s'⟩ :: r) o
def lastS (s : S8) (r : List S8) : S8 := (r.getLast?).getD s
theorem lastS_nil (s : S8) : lastS s [] = s := rfl
theorem lastS_cons (s t : S8) (r : List S8) : lastS s (t :: r) = lastS t r := by
  unfold lastS
  cases r with
  | nil => rfl
  | cons x r => simp [List.getLast?_cons]
theorem Tr.run {cs : List Cd} {m : Nat} {s : S8} {r : List S8} {o : Option Bool} (h : Tr cs m s r o) : ∀ {b : Bool}, o = some b → MRun cs m s.k s.p s.l s.s ⟨b, (lastS s r).s, (lastS s r).p, (lastS s r).l⟩ := by
  induction h with
  | done => intro b e; cases e; exact .done
  | dry e ho => intro b e'; cases e'; exact .dry e ho
  | jam _ _ => intro b e; cases e
  | step st h1 h2 _ ih =>
    intro b e
    rw [lastS_cons]
    exact .step st h1 h2 (ih e)
theorem Tr.last {cs : List Cd} {m : Nat} {s : S8} {r : List S8} {o : Option Bool} (h : Tr cs m s r o) : (o = some true ↔ o ≠ none ∧ (lastS s r).k = cs.length) ∧ s.k ≤ cs.length := by
  induction h with
  | done => exact ⟨⟨fun _ => ⟨(fun z => nomatch z), rfl⟩, fun _ => rfl⟩, Nat.le_refl _⟩
  | @dry k c p s e ho =>
    have := (List.getElem?_eq_some_iff.mp e).1
    refine ⟨⟨(fun z => nomatch z), fun z => ?_⟩, Nat.le_of_lt this⟩
    have z2 : k = cs.length := z.2
    omega
  | jam h _ =>
    obtain ⟨c, e, _⟩ := h.lt
    exact ⟨⟨(fun z => nomatch z), fun z => absurd rfl z.1⟩, Nat.le_of_lt (List.getElem?_eq_some_iff.mp e).1⟩
  | step st h1 h2 _ ih =>
    obtain ⟨c, e, _⟩ := st.lt
    rw [lastS_cons]
    exact ⟨ih.1, Nat.le_of_lt (List.getElem?_eq_some_iff.mp e).1⟩
/-! ### each run ends -/
def Cd.ok8 (k : Nat) : Cd → Prop
  | .push i => i.natAbs < 2 ^ 110
  | .op .mul => k = 7
  | _ => True
def Big (B : Nat) (p : List Int) : Prop := ∀ x ∈ p, x.natAbs < 2 ^ B
theorem Big.up {B B' : Nat} {p : List Int} (h : Big B p) (hB : B ≤ B') : Big B' p := fun x hx => Nat.lt_of_lt_of_le (h x hx) (Nat.pow_le_pow_right (by decide) hB)
theorem Big.app {B : Nat} {p q : List Int} (h : Big B p) (g : Big B q) : Big B (p ++ q) := fun x hx => (List.mem_append.mp hx).elim (h x) (g x)
theorem Big.one {B : Nat} {i : Int} (h : i.natAbs < 2 ^ B) : Big B [i] := fun x hx => by rw [List.mem_singleton.mp hx]; exact h
theorem Big.left {B : Nat} {p q : List Int} (h : Big B (p ++ q)) : Big B p := fun x hx => h x (List.mem_append_left _ hx)
theorem Big.last {B : Nat} {p : List Int} {i : Int} (h : Big B (p ++ [i])) : i.natAbs < 2 ^ B := h i (by simp)
theorem Big.bit {B : Nat} (h : 1 ≤ B) (b : Bool) : (b2n b).natAbs < 2 ^ B := by
  have : (2 : Nat) ^ 1 ≤ 2 ^ B := Nat.pow_le_pow_right (by decide) h
  cases b <;> simp [b2n] <;> omega
theorem Big.set {B : Nat} {p : List Int} {j : Nat} {i : Int} (h : Big B p) (g : i.natAbs < 2 ^ B) : Big B (p.set j i) := fun x hx => by
  rcases List.mem_or_eq_of_mem_set hx with hx | rfl
  · exact h x hx
  · exact g
theorem add_big {B : Nat} {i j : Int} (h : i.natAbs < 2 ^ B) (g : j.natAbs < 2 ^ B) : (i + j).natAbs < 2 ^ (B + 1) := by
  rw [Nat.pow_succ]; omega
theorem sub_big {B : Nat} {i j : Int} (h : i.natAbs < 2 ^ B) (g : j.natAbs < 2 ^ B) : (i - j).natAbs < 2 ^ (B + 1) := by
  rw [Nat.pow_succ]; omega
theorem mul_big {B : Nat} {i j : Int} (h : i.natAbs < 2 ^ B) (g : j.natAbs < 2 ^ B) : (i * j).natAbs < 2 ^ (2 * B) := by
  rw [Int.natAbs_mul, show 2 * B = B + B by omega, Nat.pow_add]
  exact Nat.mul_lt_mul'' h g
/-- what a card on the pile comes to, and how big -/
theorem onp8 {c : Cd} {k : Nat} {p s : List Int} {B : Nat} (hok : c.ok8 k) (hB : Big B p) (h110 : 110 ≤ B) (hbig : 2 * B ≤ 134217728)
    (hh : decide (V.str c.wd = V.str "fork") = false ∧ decide (V.str c.wd = V.str "skip") = false ∧ decide (V.str c.wd = V.str "burn") = false ∧ decide (V.str c.wd = V.str "back") = false) :
    Jm c p ∨ ∃ p' s', Onp c p s p' s' ∧ (Big (B + 1) p' ∨ (k = 7 ∧ Big (2 * B) p')) := by
  have up : ∀ {q : List Int}, Big B q → Big (B + 1) q := fun h => h.up (Nat.le_succ _)
  have bit : ∀ b, (b2n b).natAbs < 2 ^ (B + 1) := Big.bit (by omega)
  cases c with
  | push i => exact .inr ⟨_, _, .push, .inl ((up hB).app (.one (Nat.lt_of_lt_of_le (show i.natAbs < 2 ^ 110 from hok) (Nat.pow_le_pow_right (by decide) (by omega)))))⟩
  | load n =>
    by_cases h : 0 ≤ n ∧ n < (p.length : Int)
    · obtain ⟨j, rfl⟩ := Int.eq_ofNat_of_zero_le h.1
      have hj : j < p.length := by omega
      exact .inr ⟨_, _, .load (List.getElem?_eq_getElem hj), .inl ((up hB).app (.one (up hB _ (List.getElem_mem _))))⟩
    · exact .inl (.load h)
  | store n =>
    rcases List.eq_nil_or_concat p with rfl | ⟨p0, i, rfl⟩
    · exact .inl .store0
    rw [List.concat_eq_append] at hB ⊢
    by_cases h : 0 ≤ n ∧ n < (p0.length : Int)
    · obtain ⟨j, rfl⟩ := Int.eq_ofNat_of_zero_le h.1
      exact .inr ⟨_, _, .store (by omega), .inl ((up hB.left).set (up hB).last)⟩
    · exact .inl (.store h)
  | drop =>
    rcases List.eq_nil_or_concat p with rfl | ⟨p0, i, rfl⟩
    · exact .inl .drop
    rw [List.concat_eq_append] at hB ⊢
    exact .inr ⟨_, _, .drop, .inl (up hB.left)⟩
  | say =>
    rcases List.eq_nil_or_concat p with rfl | ⟨p0, i, rfl⟩
    · exact .inl .say
    rw [List.concat_eq_append] at hB ⊢
    exact .inr ⟨_, _, .say, .inl (up hB.left)⟩
  | flip =>
    rcases List.eq_nil_or_concat p with rfl | ⟨p0, i, rfl⟩
    · exact .inl .flip
    rw [List.concat_eq_append] at hB ⊢
    exact .inr ⟨_, _, .flip, .inl ((up hB.left).app (.one (bit _)))⟩
  | op o =>
    rcases List.eq_nil_or_concat p with rfl | ⟨p0, j, rfl⟩
    · exact .inl .op0
    rw [List.concat_eq_append] at hB ⊢
    rcases List.eq_nil_or_concat p0 with rfl | ⟨p1, i, rfl⟩
    · exact .inl .op1
    rw [List.concat_eq_append] at hB ⊢
    have hi := hB.left.last
    have hj := hB.last
    cases o with
    | add => exact .inr ⟨_, _, .op (o := .add) (fun z => nomatch z), .inl ((up hB.left.left).app (.one (add_big hi hj)))⟩
    | sub => exact .inr ⟨_, _, .op (o := .sub) (fun z => nomatch z), .inl ((up hB.left.left).app (.one (sub_big hi hj)))⟩
    | mul => exact .inr ⟨_, _, .op (o := .mul) (fun _ => mulOk_bits hi hj (by omega)), .inr ⟨hok, (hB.left.left.up (by omega)).app (.one (mul_big hi hj))⟩⟩
  | less =>
    rcases List.eq_nil_or_concat p with rfl | ⟨p0, j, rfl⟩
    · exact .inl .less0
    rw [List.concat_eq_append] at hB ⊢
    rcases List.eq_nil_or_concat p0 with rfl | ⟨p1, i, rfl⟩
    · exact .inl .less1
    rw [List.concat_eq_append] at hB ⊢
    exact .inr ⟨_, _, .less, .inl ((up hB.left.left).app (.one (bit _)))⟩
  | same =>
    rcases List.eq_nil_or_concat p with rfl | ⟨p0, j, rfl⟩
    · exact .inl .same0
    rw [List.concat_eq_append] at hB ⊢
    rcases List.eq_nil_or_concat p0 with rfl | ⟨p1, i, rfl⟩
    · exact .inl .same1
    rw [List.concat_eq_append] at hB ⊢
    exact .inr ⟨_, _, .same, .inl ((up hB.left.left).app (.one (bit _)))⟩
  | skip n => exact absurd hh.2.1 (by show ¬ decide (V.str "skip" = V.str "skip") = false; decide)
  | fork n => exact absurd hh.1 (by show ¬ decide (V.str "fork" = V.str "fork") = false; decide)
  | burn => exact absurd hh.2.2.1 (by decide)
  | back n => exact absurd hh.2.2.2 (by show ¬ decide (V.str "back" = V.str "back") = false; decide)
def q8 (k l : Nat) : Nat := l + (if k ≤ 7 then 1 else 0)
theorem step8 {cs : List Cd} {k : Nat} {c : Cd} {p s : List Int} {l B : Nat} (hcl : cs.length ≤ 61) (e : cs[k]? = some c) (hok : c.ok8 k) (hnd : l = 0 → c.oil = false) (hB : Big B p) (h110 : 110 ≤ B) (hbig : 2 * B ≤ 134217728) :
    JStp cs k p l ∨ ∃ k' p' l' s', MStp cs k p l s k' p' l' s' ∧ 62 * l' + (cs.length - k') + 1 ≤ 62 * l + (cs.length - k) ∧ k' ≤ cs.length ∧ l' ≤ l ∧ ((Big (B + 1) p' ∧ q8 k' l' ≤ q8 k l) ∨ (Big (2 * B) p' ∧ q8 k' l' + 1 ≤ q8 k l)) := by
  have hk := (List.getElem?_eq_some_iff.mp e).1
  have qm : ∀ {k' : Nat}, k < k' → q8 k' l ≤ q8 k l := fun {k'} h => by
    unfold q8
    split <;> split <;> omega
  by_cases hh : decide (V.str c.wd = V.str "fork") = false ∧ decide (V.str c.wd = V.str "skip") = false ∧ decide (V.str c.wd = V.str "burn") = false ∧ decide (V.str c.wd = V.str "back") = false
  · rcases onp8 (k := k) (s := s) hok hB h110 hbig hh with j | ⟨p', s', ho, hb⟩
    · exact .inl (.pile e j)
    · refine .inr ⟨k + 1, p', l, s', .pile e ho, by omega, by omega, Nat.le_refl _, ?_⟩
      rcases hb with hb | ⟨h7, hb⟩
      · exact .inl ⟨hb, qm (Nat.lt_succ_self _)⟩
      · refine .inr ⟨hb, ?_⟩
        subst h7
        unfold q8
        rw [if_neg (by omega), if_pos (by omega)]
        omega
  · have up : Big (B + 1) p := hB.up (Nat.le_succ _)
    cases c with
    | burn =>
      cases l with
      | zero => exact absurd (hnd rfl) (by decide)
      | succ l =>
        refine .inr ⟨k + 1, p, l, s, .burn e, by omega, by omega, Nat.le_succ _, .inl ⟨up, ?_⟩⟩
        unfold q8
        split <;> split <;> omega
    | back n =>
      cases l with
      | zero => exact absurd (hnd rfl) (by show ¬ true = false; decide)
      | succ l =>
        by_cases h : 0 ≤ n ∧ n ≤ (k : Int)
        · obtain ⟨j, rfl⟩ := Int.eq_ofNat_of_zero_le h.1
          refine .inr ⟨k - j, p, l, s, .back e (by omega), by omega, by omega, Nat.le_succ _, .inl ⟨up, ?_⟩⟩
          unfold q8
          split <;> split <;> omega
        · exact .inl (.back e h)
    | skip n =>
      by_cases h : 0 ≤ n ∧ (k : Int) + 1 + n ≤ (cs.length : Int)
      · obtain ⟨j, rfl⟩ := Int.eq_ofNat_of_zero_le h.1
        exact .inr ⟨k + 1 + j, p, l, s, .skip e (by omega), by omega, by omega, Nat.le_refl _, .inl ⟨up, qm (by omega)⟩⟩
      · exact .inl (.skip e h)
    | fork n =>
      rcases List.eq_nil_or_concat p with rfl | ⟨p0, i, rfl⟩
      · exact .inl (.fork0 e)
      rw [List.concat_eq_append] at hB up ⊢
      by_cases hi : i = 0
      · subst hi
        by_cases h : 0 ≤ n ∧ (k : Int) + 1 + n ≤ (cs.length : Int)
        · obtain ⟨j, rfl⟩ := Int.eq_ofNat_of_zero_le h.1
          exact .inr ⟨k + 1 + j, p0, l, s, .fork0 e (by omega), by omega, by omega, Nat.le_refl _, .inl ⟨up.left, qm (by omega)⟩⟩
        · exact .inl (.fork e h)
      · exact .inr ⟨k + 1, p0, l, s, .fork1 e hi, by omega, by omega, Nat.le_refl _, .inl ⟨up.left, qm (by omega)⟩⟩
    | op o => exact absurd (by cases o <;> exact ⟨by decide +kernel, by decide +kernel, by decide +kernel, by decide +kernel⟩) hh
    | push i => exact absurd ⟨(by decide +kernel : decide (V.str "push" = V.str "fork") = false), (by decide +kernel : decide (V.str "push" = V.str "skip") = false), (by decide +kernel : decide (V.str "push" = V.str "burn") = false), (by decide +kernel : decide (V.str "push" = V.str "back") = false)⟩ hh
    | load i => exact absurd ⟨(by decide +kernel : decide (V.str "load" = V.str "fork") = false), (by decide +kernel : decide (V.str "load" = V.str "skip") = false), (by decide +kernel : decide (V.str "load" = V.str "burn") = false), (by decide +kernel : decide (V.str "load" = V.str "back") = false)⟩ hh
    | store i => exact absurd ⟨(by decide +kernel : decide (V.str "store" = V.str "fork") = false), (by decide +kernel : decide (V.str "store" = V.str "skip") = false), (by decide +kernel : decide (V.str "store" = V.str "burn") = false), (by decide +kernel : decide (V.str "store" = V.str "back") = false)⟩ hh
    | drop => exact absurd ⟨by decide +kernel, by decide +kernel, by decide +kernel, by decide +kernel⟩ hh
    | say => exact absurd ⟨by decide +kernel, by decide +kernel, by decide +kernel, by decide +kernel⟩ hh
    | flip => exact absurd ⟨by decide +kernel, by decide +kernel, by decide +kernel, by decide +kernel⟩ hh
    | less => exact absurd ⟨by decide +kernel, by decide +kernel, by decide +kernel, by decide +kernel⟩ hh
    | same => exact absurd ⟨by decide +kernel, by decide +kernel, by decide +kernel, by decide +kernel⟩ hh
theorem trs {cs : List Cd} (hcl : cs.length ≤ 61) (hok : ∀ (k : Nat) (c : Cd), cs[k]? = some c → c.ok8 k) : ∀ (μ : Nat) {k : Nat} {p : List Int} {l : Nat} {s : List Int} {B : Nat}, 62 * l + (cs.length - k) ≤ μ → k ≤ cs.length → Big B p → 110 ≤ B → (B + μ) * 2 ^ (q8 k l) ≤ 67108864 → p.length + μ ≤ 1000000 → s.length + μ ≤ 1000000 →
    ∃ m r o, Tr cs m ⟨k, p, l, s⟩ r o ∧ r.length ≤ μ
  | μ, k, p, l, s, B, hμ, hk, hB, h110, hq, hp, hs => by
    by_cases he : k = cs.length
    · subst he
      exact ⟨0, [], _, .done, Nat.zero_le _⟩
    have hlt : k < cs.length := by omega
    have e : cs[k]? = some cs[k] := List.getElem?_eq_getElem hlt
    by_cases hd : l = 0 ∧ cs[k].oil = true
    · obtain ⟨rfl, ho⟩ := hd
      exact ⟨0, [], _, .dry e ho, Nat.zero_le _⟩
    have hnd : l = 0 → cs[k].oil = false := fun h => by
      cases q : cs[k].oil with
      | false => rfl
      | true => exact absurd ⟨h, q⟩ hd
    have h1 : 1 ≤ 2 ^ (q8 k l) := Nat.one_le_two_pow
    have hBs : B + μ ≤ 67108864 := Nat.le_trans (Nat.le_mul_of_pos_right _ h1) hq
    rcases step8 (s := s) hcl e (hok k _ e) hnd hB h110 (by omega) with j | ⟨k', p', l', s', st, hm, hk', hl', hb⟩
    · exact ⟨0, [], _, .jam j (by omega), Nat.zero_le _⟩
    have hlen := st.len
    match μ with
    | 0 => omega
    | μ' + 1 =>
      have rec8 : ∃ B', Big B' p' ∧ 110 ≤ B' ∧ (B' + μ') * 2 ^ (q8 k' l') ≤ 67108864 := by
        rcases hb with ⟨hb, hqq⟩ | ⟨hb, hqq⟩
        · refine ⟨B + 1, hb, by omega, Nat.le_trans ?_ hq⟩
          have : B + 1 + μ' = B + (μ' + 1) := by omega
          rw [this]
          exact Nat.mul_le_mul_left _ (Nat.pow_le_pow_right (by decide) hqq)
        · refine ⟨2 * B, hb, by omega, Nat.le_trans ?_ hq⟩
          have h2 : 2 ^ (q8 k' l' + 1) ≤ 2 ^ (q8 k l) := Nat.pow_le_pow_right (by decide) hqq
          rw [Nat.pow_succ] at h2
          have h3 : (2 * B + μ') * 2 ^ (q8 k' l') ≤ (2 * (B + (μ' + 1))) * 2 ^ (q8 k' l') := Nat.mul_le_mul_right _ (by omega)
          refine Nat.le_trans h3 ?_
          rw [Nat.mul_comm 2, Nat.mul_assoc, Nat.mul_comm 2]
          exact Nat.mul_le_mul_left _ h2
      obtain ⟨B', hB', h110', hq'⟩ := rec8
      obtain ⟨m, r, o, ht, hr⟩ := trs hcl hok μ' (k := k') (p := p') (l := l') (s := s') (B := B') (by omega) hk' hB' h110' hq' (by omega) (by omega)
      exact ⟨m + 1, _ :: r, o, .step st (by omega) (by omega) ht, by rw [List.length_cons]; omega⟩
end J
namespace J
open PySem L2
theorem MachAt.same8 {C : Addr} {H H' : Hp} {p lc lp ld : Addr} {ws : List V} {pile : List Int} {left place : Int} {said : List Int} (h : MachAt C H p lc lp ld ws pile left place said) (S : Same H H') : MachAt C H' p lc lp ld ws pile left place said := by
  obtain ⟨dx, fs, e, hf⟩ := h.ob
  exact ⟨⟨dx, fs, S _ _ e, hf⟩, S _ _ h.ec, S _ _ h.ep, S _ _ h.es, h.n1, h.n2, h.n3⟩
theorem MachAt.but8 {C : Addr} {H : Hp} {p lc lp ld D : Addr} {ws : List V} {pile : List Int} {left place : Int} {said : List Int} (h : MachAt C H p lc lp ld ws pile left place said) (d1 : D ≠ p) (d2 : D ≠ lp) (d3 : D ≠ ld) (d4 : D ≠ lc) (o : HO) : MachAt C (upd H D o) p lc lp ld ws pile left place said := by
  obtain ⟨dx, fs, e, hf⟩ := h.ob
  exact ⟨⟨dx, fs, by rw [upd_ne d1.symm]; exact e, hf⟩, by rw [upd_ne d4.symm]; exact h.ec, by rw [upd_ne d2.symm]; exact h.ep, by rw [upd_ne d3.symm]; exact h.es, h.n1, h.n2, h.n3⟩
end J

set_option Elab.async false
set_option linter.all false
set_option maxRecDepth 100000
set_option maxHeartbeats 4000000
namespace W08
open PySem L2 J
def top (i : Nat) : Stmt := PySem.Challenge.pw_jarcards_k08_whole_diary.main.body.getD i (.Pass ⟨0, 0, 0, 0⟩)
abbrev s_reckoned : Stmt := top 4
theorem sc_reckoned : FnScope ["word", "first", "second"] ["word", "first", "second"] (defScope s_reckoned) := ⟨rfl, rfl, rfl, by decide +kernel, rfl, by decide +kernel, by decide +kernel⟩
abbrev s_one_where : Stmt := top 7
theorem sc_one_where : FnScope ["held"] ["held"] (defScope s_one_where) := ⟨rfl, rfl, rfl, by decide +kernel, rfl, by decide +kernel, by decide +kernel⟩
abbrev s_made_of_two : Stmt := top 8
theorem sc_made_of_two : FnScope ["word", "first", "second"] ["word", "first", "second"] (defScope s_made_of_two) := ⟨rfl, rfl, rfl, by decide +kernel, rfl, by decide +kernel, by decide +kernel⟩
abbrev s_Machine_init : Stmt := inClass (top 9) 0
theorem sc_Machine_init : FnScope ["self", "cards", "pile", "oil"] ["self", "cards", "pile", "oil"] (defScope s_Machine_init) := ⟨rfl, rfl, rfl, by decide +kernel, rfl, by decide +kernel, by decide +kernel⟩
abbrev s_Machine_ending : Stmt := inClass (top 9) 1
theorem sc_Machine_ending : FnScope ["self"] ["self"] (defScope s_Machine_ending) := ⟨rfl, rfl, rfl, by decide +kernel, rfl, by decide +kernel, by decide +kernel⟩
abbrev s_Machine_state : Stmt := inClass (top 9) 2
theorem sc_Machine_state : FnScope ["self"] ["self"] (defScope s_Machine_state) := ⟨rfl, rfl, rfl, by decide +kernel, rfl, by decide +kernel, by decide +kernel⟩
abbrev s_Machine_do_card : Stmt := inClass (top 9) 3
theorem sc_Machine_do_card : FnScope ["self", "card", "word"] ["self"] (defScope s_Machine_do_card) := ⟨rfl, rfl, rfl, by decide +kernel, rfl, by decide +kernel, by decide +kernel⟩
abbrev s_Machine_do_on_pile : Stmt := inClass (top 9) 4
theorem sc_Machine_do_on_pile : FnScope ["self", "card", "word", "number", "second", "first"] ["self", "card"] (defScope s_Machine_do_on_pile) := ⟨rfl, rfl, rfl, by decide +kernel, rfl, by decide +kernel, by decide +kernel⟩
abbrev s_Machine_taken_off : Stmt := inClass (top 9) 5
theorem sc_Machine_taken_off : FnScope ["self"] ["self"] (defScope s_Machine_taken_off) := ⟨rfl, rfl, rfl, by decide +kernel, rfl, by decide +kernel, by decide +kernel⟩
abbrev s_Machine_place_on_pile : Stmt := inClass (top 9) 6
theorem sc_Machine_place_on_pile : FnScope ["self", "place"] ["self", "place"] (defScope s_Machine_place_on_pile) := ⟨rfl, rfl, rfl, by decide +kernel, rfl, by decide +kernel, by decide +kernel⟩
abbrev s_Machine_leave_out : Stmt := inClass (top 9) 7
theorem sc_Machine_leave_out : FnScope ["self", "count"] ["self", "count"] (defScope s_Machine_leave_out) := ⟨rfl, rfl, rfl, by decide +kernel, rfl, by decide +kernel, by decide +kernel⟩
abbrev s_Machine_go_back : Stmt := inClass (top 9) 8
theorem sc_Machine_go_back : FnScope ["self", "count"] ["self", "count"] (defScope s_Machine_go_back) := ⟨rfl, rfl, rfl, by decide +kernel, rfl, by decide +kernel, by decide +kernel⟩
abbrev s_ran : Stmt := top 10
theorem sc_ran : FnScope ["cards", "pile", "oil", "machine"] ["cards", "pile", "oil"] (defScope s_ran) := ⟨rfl, rfl, rfl, by decide +kernel, rfl, by decide +kernel, by decide +kernel⟩
abbrev s_diary : Stmt := top 11
theorem sc_diary : FnScope ["cards", "pile", "oil", "machine", "states"] ["cards", "pile", "oil"] (defScope s_diary) := ⟨rfl, rfl, rfl, by decide +kernel, rfl, by decide +kernel, by decide +kernel⟩
abbrev s_law_whole : Stmt := top 13
theorem sc_law_whole : FnScope ["_law_found"] ["_law_found"] (defScope s_law_whole) := ⟨rfl, rfl, rfl, by decide +kernel, rfl, by decide +kernel, by decide +kernel⟩
abbrev s_law_at : Stmt := top 14
theorem sc_law_at : FnScope ["_law_script", "_law_k"] ["_law_script", "_law_k"] (defScope s_law_at) := ⟨rfl, rfl, rfl, by decide +kernel, rfl, by decide +kernel, by decide +kernel⟩
abbrev s_law_alike : Stmt := top 15
theorem sc_law_alike : FnScope ["_law_found", "_law_due", "_law_left", "_law_right", "_law_one", "_law_two"] ["_law_found", "_law_due"] (defScope s_law_alike) := ⟨rfl, rfl, rfl, by decide +kernel, rfl, by decide +kernel, by decide +kernel⟩
abbrev s_law_odd_card : Stmt := top 16
theorem sc_law_odd_card : FnScope ["_law_salt", "_law_high", "_law_k", "_law_size", "_law_odd"] ["_law_salt", "_law_high", "_law_k", "_law_size"] (defScope s_law_odd_card) := ⟨rfl, rfl, rfl, by decide +kernel, rfl, by decide +kernel, by decide +kernel⟩
abbrev s_law_card_of : Stmt := top 17
theorem sc_law_card_of : FnScope ["_law_way", "_law_salt", "_law_high", "_law_k", "_law_size", "_law_far"] ["_law_way", "_law_salt", "_law_high", "_law_k", "_law_size"] (defScope s_law_card_of) := ⟨rfl, rfl, rfl, by decide +kernel, rfl, by decide +kernel, by decide +kernel⟩
abbrev s_law_row_of : Stmt := top 18
theorem sc_law_row_of : FnScope ["_law_cells", "_law_high", "_law_odd_place", "_law_cards", "_law_k", "_law_way", "_law_salt", "_law_card"] ["_law_cells", "_law_high", "_law_odd_place"] (defScope s_law_row_of) := ⟨rfl, rfl, rfl, by decide +kernel, rfl, by decide +kernel, by decide +kernel⟩
abbrev s_law_two_joined : Stmt := top 19
theorem sc_law_two_joined : FnScope ["_law_sort", "_law_one", "_law_two"] ["_law_sort", "_law_one", "_law_two"] (defScope s_law_two_joined) := ⟨rfl, rfl, rfl, by decide +kernel, rfl, by decide +kernel, by decide +kernel⟩
abbrev s_law_on_pile : Stmt := top 20
theorem sc_law_on_pile : FnScope ["_law_card", "_law_pile"] ["_law_card", "_law_pile"] (defScope s_law_on_pile) := ⟨rfl, rfl, rfl, by decide +kernel, rfl, by decide +kernel, by decide +kernel⟩
abbrev s_law_hop : Stmt := top 21
theorem sc_law_hop : FnScope ["_law_card", "_law_place", "_law_pile", "_law_left", "_law_size"] ["_law_card", "_law_place", "_law_pile", "_law_left", "_law_size"] (defScope s_law_hop) := ⟨rfl, rfl, rfl, by decide +kernel, rfl, by decide +kernel, by decide +kernel⟩
abbrev s_law_behind_it : Stmt := top 22
theorem sc_law_behind_it : FnScope ["_law_cards", "_law_place", "_law_pile", "_law_left", "_law_card", "_law_behind"] ["_law_cards", "_law_place", "_law_pile", "_law_left"] (defScope s_law_behind_it) := ⟨rfl, rfl, rfl, by decide +kernel, rfl, by decide +kernel, by decide +kernel⟩
abbrev s_law_run : Stmt := top 23
theorem sc_law_run : FnScope ["_law_cards", "_law_pile", "_law_oil", "_law_place", "_law_left", "_law_told", "_law_states", "_law_behind"] ["_law_cards", "_law_pile", "_law_oil"] (defScope s_law_run) := ⟨rfl, rfl, rfl, by decide +kernel, rfl, by decide +kernel, by decide +kernel⟩
abbrev s_law_diary_or : Stmt := top 24
theorem sc_law_diary_or : FnScope ["_law_cards", "_law_pile", "_law_oil"] ["_law_cards", "_law_pile", "_law_oil"] (defScope s_law_diary_or) := ⟨rfl, rfl, rfl, by decide +kernel, rfl, by decide +kernel, by decide +kernel⟩
abbrev s_law_told_of : Stmt := top 25
theorem sc_law_told_of : FnScope ["_law_cards", "_law_pile", "_law_oil"] ["_law_cards", "_law_pile", "_law_oil"] (defScope s_law_told_of) := ⟨rfl, rfl, rfl, by decide +kernel, rfl, by decide +kernel, by decide +kernel⟩
abbrev s_law : Stmt := top 26
theorem sc_law : FnScope ["_law_script", "_law_turn", "_law_head", "_law_oil", "_law_pile", "_law_odd_place", "_law_cards", "_law_due", "_law_handed", "_law_held", "_law_found", "_law_made", "_law_place", "_law_behind", "_law_left", "_law_word"] ["_law_script"] (defScope s_law) := ⟨rfl, rfl, rfl, by decide +kernel, rfl, by decide +kernel, by decide +kernel⟩
structure Er (K : PySem.W.Frag) (mg : Str → Option Value) where
  cJarError : Addr
  mJarError : mg "JarError" = some (.ref cJarError)
  qJarError : PySem.W.excIn K cJarError veB "ValueError.__new__" = true
  cJam : Addr
  mJam : mg "Jam" = some (.ref cJam)
  qJam : PySem.W.excIn K cJam veB "ValueError.__new__" = true
  mro : PySem.W.mroIn K cJam (.ref cJarError) = some true
set_option genInjectivity false in
set_option genSizeOf false in
structure Txt (K : PySem.W.Frag) (mg : Str → Option Value) where
  c_Machine : Addr
  cl_Machine : Cls K c_Machine
  mg_Machine : mg "Machine" = some (.ref c_Machine)
  na_Machine_cards : NoAttr K c_Machine "cards"
  na_Machine_pile : NoAttr K c_Machine "pile"
  na_Machine_left : NoAttr K c_Machine "left"
  na_Machine_place : NoAttr K c_Machine "place"
  na_Machine_said : NoAttr K c_Machine "said"
  f_reckoned : Addr
  fd_reckoned : FuncData
  reckoned : Def K mg "reckoned" s_reckoned ["word", "first", "second"] f_reckoned fd_reckoned
  f_one_where : Addr
  fd_one_where : FuncData
  one_where : Def K mg "one_where" s_one_where ["held"] f_one_where fd_one_where
  f_made_of_two : Addr
  fd_made_of_two : FuncData
  made_of_two : Def K mg "made_of_two" s_made_of_two ["word", "first", "second"] f_made_of_two fd_made_of_two
  f_Machine_init : Addr
  fd_Machine_init : FuncData
  Machine_init : MDef K "__init__" "Machine.__init__" s_Machine_init ["self", "cards", "pile", "oil"] f_Machine_init fd_Machine_init
  me_Machine_init : Meth K c_Machine "__init__" f_Machine_init
  f_Machine_ending : Addr
  fd_Machine_ending : FuncData
  Machine_ending : MDef K "ending" "Machine.ending" s_Machine_ending ["self"] f_Machine_ending fd_Machine_ending
  me_Machine_ending : Meth K c_Machine "ending" f_Machine_ending
  f_Machine_state : Addr
  fd_Machine_state : FuncData
  Machine_state : MDef K "state" "Machine.state" s_Machine_state ["self"] f_Machine_state fd_Machine_state
  me_Machine_state : Meth K c_Machine "state" f_Machine_state
  f_Machine_do_card : Addr
  fd_Machine_do_card : FuncData
  Machine_do_card : MDef K "do_card" "Machine.do_card" s_Machine_do_card ["self"] f_Machine_do_card fd_Machine_do_card
  me_Machine_do_card : Meth K c_Machine "do_card" f_Machine_do_card
  f_Machine_do_on_pile : Addr
  fd_Machine_do_on_pile : FuncData
  Machine_do_on_pile : MDef K "do_on_pile" "Machine.do_on_pile" s_Machine_do_on_pile ["self", "card"] f_Machine_do_on_pile fd_Machine_do_on_pile
  me_Machine_do_on_pile : Meth K c_Machine "do_on_pile" f_Machine_do_on_pile
  f_Machine_taken_off : Addr
  fd_Machine_taken_off : FuncData
  Machine_taken_off : MDef K "taken_off" "Machine.taken_off" s_Machine_taken_off ["self"] f_Machine_taken_off fd_Machine_taken_off
  me_Machine_taken_off : Meth K c_Machine "taken_off" f_Machine_taken_off
  f_Machine_place_on_pile : Addr
  fd_Machine_place_on_pile : FuncData
  Machine_place_on_pile : MDef K "place_on_pile" "Machine.place_on_pile" s_Machine_place_on_pile ["self", "place"] f_Machine_place_on_pile fd_Machine_place_on_pile
  me_Machine_place_on_pile : Meth K c_Machine "place_on_pile" f_Machine_place_on_pile
  f_Machine_leave_out : Addr
  fd_Machine_leave_out : FuncData
  Machine_leave_out : MDef K "leave_out" "Machine.leave_out" s_Machine_leave_out ["self", "count"] f_Machine_leave_out fd_Machine_leave_out
  me_Machine_leave_out : Meth K c_Machine "leave_out" f_Machine_leave_out
  f_Machine_go_back : Addr
  fd_Machine_go_back : FuncData
  Machine_go_back : MDef K "go_back" "Machine.go_back" s_Machine_go_back ["self", "count"] f_Machine_go_back fd_Machine_go_back
  me_Machine_go_back : Meth K c_Machine "go_back" f_Machine_go_back
  f_ran : Addr
  fd_ran : FuncData
  ran : Def K mg "ran" s_ran ["cards", "pile", "oil"] f_ran fd_ran
  f_diary : Addr
  fd_diary : FuncData
  diary : Def K mg "diary" s_diary ["cards", "pile", "oil"] f_diary fd_diary
  f_law_whole : Addr
  fd_law_whole : FuncData
  law_whole : Def K mg "_law_whole" s_law_whole ["_law_found"] f_law_whole fd_law_whole
  f_law_at : Addr
  fd_law_at : FuncData
  law_at : Def K mg "_law_at" s_law_at ["_law_script", "_law_k"] f_law_at fd_law_at
  f_law_alike : Addr
  fd_law_alike : FuncData
  law_alike : Def K mg "_law_alike" s_law_alike ["_law_found", "_law_due"] f_law_alike fd_law_alike
  f_law_odd_card : Addr
  fd_law_odd_card : FuncData
  law_odd_card : Def K mg "_law_odd_card" s_law_odd_card ["_law_salt", "_law_high", "_law_k", "_law_size"] f_law_odd_card fd_law_odd_card
  f_law_card_of : Addr
  fd_law_card_of : FuncData
  law_card_of : Def K mg "_law_card_of" s_law_card_of ["_law_way", "_law_salt", "_law_high", "_law_k", "_law_size"] f_law_card_of fd_law_card_of
  f_law_row_of : Addr
  fd_law_row_of : FuncData
  law_row_of : Def K mg "_law_row_of" s_law_row_of ["_law_cells", "_law_high", "_law_odd_place"] f_law_row_of fd_law_row_of
  f_law_two_joined : Addr
  fd_law_two_joined : FuncData
  law_two_joined : Def K mg "_law_two_joined" s_law_two_joined ["_law_sort", "_law_one", "_law_two"] f_law_two_joined fd_law_two_joined
  f_law_on_pile : Addr
  fd_law_on_pile : FuncData
  law_on_pile : Def K mg "_law_on_pile" s_law_on_pile ["_law_card", "_law_pile"] f_law_on_pile fd_law_on_pile
  f_law_hop : Addr
  fd_law_hop : FuncData
  law_hop : Def K mg "_law_hop" s_law_hop ["_law_card", "_law_place", "_law_pile", "_law_left", "_law_size"] f_law_hop fd_law_hop
  f_law_behind_it : Addr
  fd_law_behind_it : FuncData
  law_behind_it : Def K mg "_law_behind_it" s_law_behind_it ["_law_cards", "_law_place", "_law_pile", "_law_left"] f_law_behind_it fd_law_behind_it
  f_law_run : Addr
  fd_law_run : FuncData
  law_run : Def K mg "_law_run" s_law_run ["_law_cards", "_law_pile", "_law_oil"] f_law_run fd_law_run
  f_law_diary_or : Addr
  fd_law_diary_or : FuncData
  law_diary_or : Def K mg "_law_diary_or" s_law_diary_or ["_law_cards", "_law_pile", "_law_oil"] f_law_diary_or fd_law_diary_or
  f_law_told_of : Addr
  fd_law_told_of : FuncData
  law_told_of : Def K mg "_law_told_of" s_law_told_of ["_law_cards", "_law_pile", "_law_oil"] f_law_told_of fd_law_told_of
  f_law : Addr
  fd_law : FuncData
  law : Def K mg "law" s_law ["_law_script"] f_law fd_law
  mk_Machine : Mk K c_Machine f_Machine_init
  a_OIL_CARDS : Addr
  m_OIL_CARDS : mg "OIL_CARDS" = some (.ref a_OIL_CARDS)
  k_OIL_CARDS : ∀ H : Hp, TpK K H a_OIL_CARDS [.str "burn", .str "back"]
  er : Er K mg
  b_len : mg "len" = none
  b_range : mg "range" = none
  b_isinstance : mg "isinstance" = none
  b_list : mg "list" = none
  b_tuple : mg "tuple" = none
  b_str : mg "str" = none
  b_int : mg "int" = none
  b_bool : mg "bool" = none
  b_min : mg "min" = none
  b_max : mg "max" = none
section
variable {P : Program} {w : World} {K : PySem.W.Frag} {mg : Str → Option Value} {base : Heap}
/-! ### reckoned, _law_joined -/
def spReck : Sp := fun vs H Q _ => ∃ (o : O3) (i j : Int), vs = [.str o.w, .int i, .int j] ∧ (o = .mul → IntMulOk i j) ∧ Q (.int (o.f i j)) H
theorem ok_reckoned (T : Txt K mg) : FnOk P w K mg base CX0 1 T.f_reckoned T.fd_reckoned ["word", "first", "second"] spReck := by
  refine T.reckoned.F.ok sc_reckoned (fun vs H Q E h => ?_) (fun cdv A outer s H vs Q E hr h => ?_)
  · obtain ⟨o, i, j, rfl, _⟩ := h; rfl
  obtain ⟨o, i, j, rfl, hm, q⟩ := h
  refine ⟨_, (pss_cons (ps_if (pt_cmpR op_eq (pv 0) pe_str (nomark _)) (pss_one (ps_ret (pe_op op_add (pv 1) (pv 2)))) pss_nil)
    (pss_cons (ps_if (pt_cmpR op_eq (pv 0) pe_str (nomark _)) (pss_one (ps_ret (pe_op op_sub (pv 1) (pv 2)))) pss_nil)
    (pss_one (ps_ret (pe_op op_mulB (pv 1) (pv 2)))))), ?_⟩
  try dsimp only [kx, kxb]
  cases o
  · refine ⟨_, rfl, rfl, _, rfl, iteT' (by decide +kernel) ⟨_, rfl, _, rfl, _, _, rfl, rfl, q⟩⟩
  · refine ⟨_, rfl, rfl, _, rfl, iteF' (by decide +kernel) ⟨_, rfl, rfl, _, rfl, iteT' (by decide +kernel) ⟨_, rfl, _, rfl, _, _, rfl, rfl, q⟩⟩⟩
  · refine ⟨_, rfl, rfl, _, rfl, iteF' (by decide +kernel) ⟨_, rfl, rfl, _, rfl, iteF' (by decide +kernel) ⟨_, rfl, _, rfl, _, _, rfl, rfl, hm rfl, q⟩⟩⟩
end
section
variable {P : Program} {w : World} {K : PySem.W.Frag} {mg : Str → Option Value} {base : Heap}
/-! ### the machine -/
def spOneW : Sp := fun vs H Q _ => ∃ b : Bool, vs = [.bl b] ∧ Q (.int (b2n b)) H
theorem ok_one_where (T : Txt K mg) : FnOk P w K mg base CX0 1 T.f_one_where T.fd_one_where ["held"] spOneW := by
  refine T.one_where.F.ok sc_one_where (fun vs H Q E h => ?_) (fun cdv A outer s H vs Q E hr h => ?_)
  · obtain ⟨b, rfl, _⟩ := h; rfl
  obtain ⟨b, rfl, q⟩ := h
  refine ⟨_, (pss_one (ps_ret (pe_ifExp (pt_val (pv 0)) pe_int pe_int))), ?_⟩
  try dsimp only [kx, kxb]
  refine ⟨_, rfl, _, rfl, ?_⟩
  cases b with
  | true => exact iteT' rfl q
  | false => exact iteF' rfl q
/-- what comes of two -/
inductive Two : Str → Int → Int → Int → Prop where
  | less {i j : Int} : Two "less" i j (b2n (decide (i < j)))
  | same {i j : Int} : Two "same" i j (b2n (decide (i = j)))
  | op {o : O3} {i j : Int} : (o = .mul → IntMulOk i j) → Two o.w i j (o.f i j)
def spTwo : Sp := fun vs H Q _ => ∃ (wd : Str) (i j r : Int), vs = [.str wd, .int i, .int j] ∧ Two wd i j r ∧ Q (.int r) H
theorem ok_made_of_two (T : Txt K mg) : FnOk P w K mg base CX0 2 T.f_made_of_two T.fd_made_of_two ["word", "first", "second"] spTwo := by
  have G_one_where := ok_one_where (P := P) (w := w) (base := base) T
  have G_reckoned := ok_reckoned (P := P) (w := w) (base := base) T
  refine T.made_of_two.F.ok sc_made_of_two (fun vs H Q E h => ?_) (fun cdv A outer s H vs Q E hr h => ?_)
  · obtain ⟨wd, i, j, r, rfl, _⟩ := h; rfl
  obtain ⟨wd, i, j, r, rfl, ht, q⟩ := h
  refine ⟨_, (pss_cons (ps_if (pt_cmpR op_eq (pv 0) pe_str (nomark _)) (pss_one (ps_ret (pe_call G_one_where hr rfl T.one_where.m T.one_where.F.kp T.one_where.b .nil pass0 (pa_cons (pe_cmpR op_lt (pv 1) (pv 2) (nomark _)) pa_nil)))) pss_nil)
    (pss_cons (ps_if (pt_cmpR op_eq (pv 0) pe_str (nomark _)) (pss_one (ps_ret (pe_call G_one_where hr rfl T.one_where.m T.one_where.F.kp T.one_where.b .nil pass0 (pa_cons (pe_cmpR op_eq (pv 1) (pv 2) (nomark _)) pa_nil)))) pss_nil)
    (pss_one (ps_ret (pe_call G_reckoned hr rfl T.reckoned.m T.reckoned.F.kp T.reckoned.b .nil pass0 (pa_cons (pv 0) (pa_cons (pv 1) (pa_cons (pv 2) pa_nil)))))))), ?_⟩
  try dsimp only [kx, kxb]
  cases ht with
  | less => exact ⟨_, rfl, rfl, _, rfl, iteT' (by decide +kernel) ⟨_, rfl, _, rfl, _, _, rfl, rfl, _, rfl, q⟩⟩
  | same =>
    refine ⟨_, rfl, rfl, _, rfl, iteF' (by decide +kernel) ⟨_, rfl, rfl, _, rfl, iteT' (by decide +kernel) ⟨_, rfl, _, rfl, rfl, _, rfl, ?_⟩⟩⟩
    have dv : decide (V.int i = V.int j) = decide (i = j) := decide_eq_decide.mpr ⟨fun z => by injection z, fun z => by rw [z]⟩
    rw [dv]
    exact q
  | @op o _ _ hm =>
    refine ⟨_, rfl, rfl, _, rfl, iteF' (by cases o <;> decide +kernel) ⟨_, rfl, rfl, _, rfl, iteF' (by cases o <;> decide +kernel) ?_⟩⟩
    exact ⟨_, rfl, _, rfl, _, rfl, o, i, j, rfl, hm, q⟩
def spTaken (C : Addr) : Sp := fun vs H Q _ => ∃ (p lc lp ld : Addr) (ws : List V) (pile : List Int) (i left place : Int) (said : List Int), vs = [.ref p] ∧ MachAt C H p lc lp ld ws (pile ++ [i]) left place said ∧ ∀ H', MachAt C H' p lc lp ld ws pile left place said → MOut p lp ld H H' → Q (.int i) H' 
theorem ok_Machine_taken_off (T : Txt K mg) : FnOk P w K mg base CX0 1 T.f_Machine_taken_off T.fd_Machine_taken_off ["self"] (spTaken T.c_Machine) := by
  refine T.Machine_taken_off.F.ok sc_Machine_taken_off (fun vs H Q E h => ?_) (fun cdv A outer s H vs Q E hr h => ?_)
  · obtain ⟨p, lc, lp, ld, ws, pile, i, left, place, said, rfl, _⟩ := h; rfl
  obtain ⟨p, lc, lp, ld, ws, pile, i, left, place, said, rfl, hM, q⟩ := h
  refine ⟨_, (pss_cons (ps_if (pt_not (pt_truth (pe_fld (pv 0) rfl) (by intro _; rfl))) (pss_one ps_never) pss_nil)
    (pss_one (ps_ret (pe_bm0 PySem.F.plainAttrs_list PySem.F.slot_list_pop PySem.F.type_list_pop mt_pop (pe_fld (pv 0) rfl))))), ?_⟩
  try dsimp only [kx, kxb]
  obtain ⟨dx, fs, e, hf⟩ := hM.ob
  refine ⟨_, rfl, p, T.c_Machine, dx, fs, _, rfl, e, T.cl_Machine, T.na_Machine_pile, (hf.at_ _).trans (mfl_pile ..), true, .inl ⟨_, SqL.of hM.ep, by simp⟩, iteF' rfl ?_⟩
  have ep : H lp = some (.lst (pile.map V.int ++ [.int i])) := by rw [hM.ep, List.map_append]; rfl
  refine ⟨_, rfl, p, T.c_Machine, dx, fs, _, rfl, e, T.cl_Machine, T.na_Machine_pile, (hf.at_ _).trans (mfl_pile ..), .inl ⟨rfl, _, SqL.of ep⟩, _, _, _, rfl, rfl, ep, last_get _ _, ?_⟩
  rw [List.dropLast_concat]
  exact q _ (hM.pileTo pile).1 (hM.pileTo pile).2
def spPlaceOn (C : Addr) : Sp := fun vs H Q _ => ∃ (p lc lp ld : Addr) (ws : List V) (pile : List Int) (left place : Int) (said : List Int) (j : Nat), vs = [.ref p, .int (j : Int)] ∧ MachAt C H p lc lp ld ws pile left place said ∧ j < pile.length ∧ Q (.int (j : Int)) H
theorem ok_Machine_place_on_pile (T : Txt K mg) : FnOk P w K mg base CX0 1 T.f_Machine_place_on_pile T.fd_Machine_place_on_pile ["self", "place"] (spPlaceOn T.c_Machine) := by
  refine T.Machine_place_on_pile.F.ok sc_Machine_place_on_pile (fun vs H Q E h => ?_) (fun cdv A outer s H vs Q E hr h => ?_)
  · obtain ⟨p, lc, lp, ld, ws, pile, left, place, said, j, rfl, _⟩ := h; rfl
  obtain ⟨p, lc, lp, ld, ws, pile, left, place, said, j, rfl, hM, hj, q⟩ := h
  refine ⟨_, (pss_cons (ps_if (PW.pt (pw_or (pt_cmpR op_lt (pv 1) pe_int (nomark _)) (pw_or1 (pt_cmpR op_ge (pv 1) (pe_callB call_len_seq rfl T.b_len PySem.boot_len (pa_cons (pe_fld (pv 0) rfl) pa_nil)) (nomark _))))) (pss_one ps_never) pss_nil)
    (pss_one (ps_ret (pv 1)))), ?_⟩
  try dsimp only [kx, kxb]
  obtain ⟨dx, fs, e, hf⟩ := hM.ob
  refine ⟨_, rfl, _, _, rfl, rfl, _, rfl, iteF' (decide_eq_false (by omega)) ?_⟩
  refine ⟨_, rfl, _, rfl, p, T.c_Machine, dx, fs, _, rfl, e, T.cl_Machine, T.na_Machine_pile, (hf.at_ _).trans (mfl_pile ..), _, _, rfl, .inl (SqL.of hM.ep), _, _, rfl, rfl, _, rfl, iteF' (decide_eq_false (by rw [List.length_map]; omega)) ?_⟩
  exact ⟨_, rfl, q⟩
def spLeave (C : Addr) : Sp := fun vs H Q _ => ∃ (p lc lp ld : Addr) (ws : List V) (pile : List Int) (left : Int) (k n : Nat) (said : List Int), vs = [.ref p, .int (n : Int)] ∧ MachAt C H p lc lp ld ws pile left (k : Int) said ∧ k + n ≤ ws.length ∧ ∀ H', MachAt C H' p lc lp ld ws pile left ((k + n : Nat) : Int) said → MOut p lp ld H H' → Q .non H' 
theorem ok_Machine_leave_out (T : Txt K mg) : FnOk P w K mg base CX0 1 T.f_Machine_leave_out T.fd_Machine_leave_out ["self", "count"] (spLeave T.c_Machine) := by
  refine T.Machine_leave_out.F.ok sc_Machine_leave_out (fun vs H Q E h => ?_) (fun cdv A outer s H vs Q E hr h => ?_)
  · obtain ⟨p, lc, lp, ld, ws, pile, left, k, n, said, rfl, _⟩ := h; rfl
  obtain ⟨p, lc, lp, ld, ws, pile, left, k, n, said, rfl, hM, hn, q⟩ := h
  refine ⟨_, (pss_cons (ps_if (PW.pt (pw_or (pt_cmpR op_lt (pv 1) pe_int (nomark _)) (pw_or1 (pt_cmpR op_gt (pv 1) (pe_op op_sub (pe_callB call_len_seq rfl T.b_len PySem.boot_len (pa_cons (pe_fld (pv 0) rfl) pa_nil)) (pe_fld (pv 0) rfl)) (nomark _))))) (pss_one ps_never) pss_nil)
    (pss_one (ps_fldaug (pv 0) (pv 1) in_add))), ?_⟩
  try dsimp only [kx, kxb]
  obtain ⟨dx, fs, e, hf⟩ := hM.ob
  refine ⟨_, rfl, _, _, rfl, rfl, _, rfl, iteF' (decide_eq_false (by omega)) ?_⟩
  refine ⟨_, rfl, _, rfl, p, T.c_Machine, dx, fs, _, rfl, e, T.cl_Machine, T.na_Machine_cards, (hf.at_ _).trans (mfl_cards ..), _, _, rfl, .inl (SqL.of hM.ec), _, rfl, p, T.c_Machine, dx, fs, _, rfl, e, T.cl_Machine, T.na_Machine_place, (hf.at_ _).trans (mfl_place ..), _, _, rfl, rfl, _, _, rfl, rfl, _, rfl, iteF' (decide_eq_false (by omega)) ?_⟩
  refine ⟨_, rfl, p, T.c_Machine, dx, fs, _, rfl, e, T.cl_Machine, T.na_Machine_place, (hf.at_ _).trans (mfl_place ..), _, rfl, _, _, rfl, rfl, dx, fs, e, Nat.lt_of_le_of_lt hf.len (by decide), ?_⟩
  have hf2 : Has (putF "place" (.int ((k : Int) + (n : Int))) fs) (mfl lc lp left ((k : Int) + (n : Int)) ld) := hf.put (mfl_place ..) (mfl_putPlace _ _ _ _ _ _)
  have r := hM.fld (dx := dx) hf2
  have ek : ((k : Int) + (n : Int)) = ((k + n : Nat) : Int) := by omega
  exact q _ (by rw [← ek]; exact r.1) r.2
def spGoBack (C : Addr) : Sp := fun vs H Q _ => ∃ (p lc lp ld : Addr) (ws : List V) (pile : List Int) (left : Int) (k n : Nat) (said : List Int), vs = [.ref p, .int (n : Int)] ∧ MachAt C H p lc lp ld ws pile left ((k + 1 : Nat) : Int) said ∧ n ≤ k ∧ ∀ H', MachAt C H' p lc lp ld ws pile left ((k - n : Nat) : Int) said → MOut p lp ld H H' → Q .non H' 
theorem ok_Machine_go_back (T : Txt K mg) : FnOk P w K mg base CX0 1 T.f_Machine_go_back T.fd_Machine_go_back ["self", "count"] (spGoBack T.c_Machine) := by
  refine T.Machine_go_back.F.ok sc_Machine_go_back (fun vs H Q E h => ?_) (fun cdv A outer s H vs Q E hr h => ?_)
  · obtain ⟨p, lc, lp, ld, ws, pile, left, k, n, said, rfl, _⟩ := h; rfl
  obtain ⟨p, lc, lp, ld, ws, pile, left, k, n, said, rfl, hM, hn, q⟩ := h
  refine ⟨_, (pss_cons (ps_if (PW.pt (pw_or (pt_cmpR op_lt (pv 1) pe_int (nomark _)) (pw_or1 (pt_cmpR op_gt (pv 1) (pe_op op_sub (pe_fld (pv 0) rfl) pe_int) (nomark _))))) (pss_one ps_never) pss_nil)
    (pss_one (ps_fldaug (pv 0) (pe_op op_add (pv 1) pe_int) in_sub))), ?_⟩
  try dsimp only [kx, kxb]
  obtain ⟨dx, fs, e, hf⟩ := hM.ob
  refine ⟨_, rfl, _, _, rfl, rfl, _, rfl, iteF' (decide_eq_false (by omega)) ?_⟩
  refine ⟨_, rfl, _, rfl, p, T.c_Machine, dx, fs, _, rfl, e, T.cl_Machine, T.na_Machine_place, (hf.at_ _).trans (mfl_place ..), _, _, rfl, rfl, _, _, rfl, rfl, _, rfl, iteF' (decide_eq_false (by omega)) ?_⟩
  refine ⟨_, rfl, p, T.c_Machine, dx, fs, _, rfl, e, T.cl_Machine, T.na_Machine_place, (hf.at_ _).trans (mfl_place ..), _, rfl, _, _, rfl, rfl, _, _, rfl, rfl, dx, fs, e, Nat.lt_of_le_of_lt hf.len (by decide), ?_⟩
  have hf2 : Has (putF "place" (.int (((k + 1 : Nat) : Int) - ((n : Int) + 1))) fs) (mfl lc lp left (((k + 1 : Nat) : Int) - ((n : Int) + 1)) ld) := hf.put (mfl_place ..) (mfl_putPlace _ _ _ _ _ _)
  have r := hM.fld (dx := dx) hf2
  have ek : (((k + 1 : Nat) : Int) - ((n : Int) + 1)) = ((k - n : Nat) : Int) := by omega
  exact q _ (by rw [← ek]; exact r.1) r.2
end
end W08

set_option Elab.async false
set_option linter.all false
set_option maxRecDepth 100000
set_option maxHeartbeats 4000000
namespace W08
open PySem L2 J
section
variable {P : Program} {w : World} {K : PySem.W.Frag} {mg : Str → Option Value} {base : Heap}
def spOnPile (C : Addr) : Sp := fun vs H Q _ => ∃ (p lc lp ld : Addr) (ws : List V) (pile pile' : List Int) (left place : Int) (said said' : List Int) (a : Addr) (c : Cd), vs = [.ref p, .ref a] ∧ MachAt C H p lc lp ld ws pile left place said ∧ H a = some (.tup c.vs) ∧ Onp c pile said pile' said' ∧ pile.length ≤ 1000000 ∧ said.length ≤ 1000000 ∧
  ∀ H', MachAt C H' p lc lp ld ws pile' left place said' → MOut p lp ld H H' → Q .non H'
theorem ok_Machine_do_on_pile (T : Txt K mg) : FnOk P w K mg base CX0 3 T.f_Machine_do_on_pile T.fd_Machine_do_on_pile ["self", "card"] (spOnPile T.c_Machine) := by
  have G_Machine_taken_off := (ok_Machine_taken_off (P := P) (w := w) (base := base) T).mono (show 1 ≤ 2 by omega)
  have G_Machine_place_on_pile := (ok_Machine_place_on_pile (P := P) (w := w) (base := base) T).mono (show 1 ≤ 2 by omega)
  have G_one_where := (ok_one_where (P := P) (w := w) (base := base) T).mono (show 1 ≤ 2 by omega)
  have G_made_of_two := ok_made_of_two (P := P) (w := w) (base := base) T
  refine T.Machine_do_on_pile.F.ok sc_Machine_do_on_pile (fun vs H Q E h => ?_) (fun cdv A outer s H vs Q E hr h => ?_)
  · obtain ⟨p, lc, lp, ld, ws, pile, pile', left, place, said, said', a, c, rfl, _⟩ := h; rfl
  obtain ⟨p, lc, lp, ld, ws, pile, pile', left, place, said, said', a, c, rfl, hM, ha, ho, hl, hsl, q⟩ := h
  refine ⟨_, (pss_cons (ps_set (i := 2) sc_Machine_do_on_pile.nd rfl (Or.inl rfl) (pe_ix ix_tup (pv 1) pe_int (fun _ _ => rfl)))
    (pss_one (ps_if (pt_cmpR op_eq (pv 2) pe_str (nomark _)) (pss_one (ps_expr (pe_bm PySem.F.plainAttrs_list PySem.F.slot_list_append PySem.F.type_list_append mt_append (pe_fld (pv 0) rfl) (pa_cons (pe_ix ix_tup (pv 1) pe_int (fun _ _ => rfl)) pa_nil)))) (pss_one (ps_if (pt_cmpR op_eq (pv 2) pe_str (nomark _)) (pss_one (ps_expr (pe_bm PySem.F.plainAttrs_list PySem.F.slot_list_append PySem.F.type_list_append mt_append (pe_fld (pv 0) rfl) (pa_cons (pe_ix ix_list (pe_fld (pv 0) rfl) (pe_meth (pv 0) T.cl_Machine T.me_Machine_place_on_pile G_Machine_place_on_pile hr T.Machine_place_on_pile.b .nil pass0 (pa_cons (pe_ix ix_tup (pv 1) pe_int (fun _ _ => rfl)) pa_nil)) (fun _ _ => rfl)) pa_nil)))) (pss_one (ps_if (pt_cmpR op_eq (pv 2) pe_str (nomark _)) (pss_cons (ps_set (i := 3) sc_Machine_do_on_pile.nd rfl (Or.inl rfl) (pe_meth0 (pv 0) T.cl_Machine T.me_Machine_taken_off G_Machine_taken_off hr T.Machine_taken_off.b .nil pass0))
    (pss_one (ps_asg (pv 3) (pg_sub (pe_fld (pv 0) rfl) (pe_meth (pv 0) T.cl_Machine T.me_Machine_place_on_pile G_Machine_place_on_pile hr T.Machine_place_on_pile.b .nil pass0 (pa_cons (pe_ix ix_tup (pv 1) pe_int (fun _ _ => rfl)) pa_nil)) set_list)))) (pss_one (ps_if (pt_cmpR op_eq (pv 2) pe_str (nomark _)) (pss_one (ps_expr (pe_meth0 (pv 0) T.cl_Machine T.me_Machine_taken_off G_Machine_taken_off hr T.Machine_taken_off.b .nil pass0))) (pss_one (ps_if (pt_cmpR op_eq (pv 2) pe_str (nomark _)) (pss_one (ps_expr (pe_bm PySem.F.plainAttrs_list PySem.F.slot_list_append PySem.F.type_list_append mt_append (pe_fld (pv 0) rfl) (pa_cons (pe_meth0 (pv 0) T.cl_Machine T.me_Machine_taken_off G_Machine_taken_off hr T.Machine_taken_off.b .nil pass0) pa_nil)))) (pss_one (ps_if (pt_cmpR op_eq (pv 2) pe_str (nomark _)) (pss_one (ps_expr (pe_bm PySem.F.plainAttrs_list PySem.F.slot_list_append PySem.F.type_list_append mt_append (pe_fld (pv 0) rfl) (pa_cons (pe_call G_one_where hr rfl T.one_where.m T.one_where.F.kp T.one_where.b .nil pass0 (pa_cons (pe_cmpR op_eq (pe_meth0 (pv 0) T.cl_Machine T.me_Machine_taken_off G_Machine_taken_off hr T.Machine_taken_off.b .nil pass0) pe_int (nomark _)) pa_nil)) pa_nil)))) (pss_cons (ps_set (i := 4) sc_Machine_do_on_pile.nd rfl (Or.inl rfl) (pe_meth0 (pv 0) T.cl_Machine T.me_Machine_taken_off G_Machine_taken_off hr T.Machine_taken_off.b .nil pass0))
    (pss_cons (ps_set (i := 5) sc_Machine_do_on_pile.nd rfl (Or.inl rfl) (pe_meth0 (pv 0) T.cl_Machine T.me_Machine_taken_off G_Machine_taken_off hr T.Machine_taken_off.b .nil pass0))
    (pss_one (ps_expr (pe_bm PySem.F.plainAttrs_list PySem.F.slot_list_append PySem.F.type_list_append mt_append (pe_fld (pv 0) rfl) (pa_cons (pe_call G_made_of_two hr rfl T.made_of_two.m T.made_of_two.F.kp T.made_of_two.b .nil pass0 (pa_cons (pv 2) (pa_cons (pv 5) (pa_cons (pv 4) pa_nil)))) pa_nil))))))))))))))))))), ?_⟩
  try dsimp only [kx, kxb]
  obtain ⟨dx, fs, e, hf⟩ := hM.ob
  have tf : ∀ {H' : Hp} {xs : List V}, MOut p lp ld H H' → H a = some (.tup xs) → H' a = some (.tup xs) := fun {H'} {xs} M h => M a _ (ne_of h e (fun z => by cases z)) (ne_of h hM.ep (fun z => by cases z)) (ne_of h hM.es (fun z => by cases z)) h
  cases ho with
  | @push i =>
    have f : SqT K H a [.str "push", .int i] := SqT.of ha
    refine ⟨_, rfl, _, _, _, _, rfl, rfl, f, at0, ?_⟩
    refine ⟨_, rfl, rfl, _, rfl, iteT' (by decide +kernel) ?_⟩
    refine ⟨_, rfl, p, T.c_Machine, dx, fs, _, rfl, e, T.cl_Machine, T.na_Machine_pile, (hf.at_ _).trans (mfl_pile ..), .inl ⟨rfl, _, SqL.of hM.ep⟩, _, rfl, _, _, _, _, rfl, rfl, f, rfl, ?_⟩
    refine ⟨_, _, _, rfl, rfl, hM.ep, by rw [List.length_map, sizeLine_eq]; omega, ?_⟩
    have r := hM.pileTo (pile ++ [i])
    rw [List.map_append] at r
    exact q _ r.1 r.2
  | @load j i _ _ hv =>
    have f : SqT K H a [.str "load", .int (j : Int)] := SqT.of ha
    have hjl := (List.getElem?_eq_some_iff.mp hv).1
    have hj : (pile.map V.int)[j]? = some (V.int i) := by rw [List.getElem?_map, hv]; rfl
    refine ⟨_, rfl, _, _, _, _, rfl, rfl, f, at0, ?_⟩
    refine ⟨_, rfl, rfl, _, rfl, iteF' (by decide +kernel) ?_⟩
    refine ⟨_, rfl, rfl, _, rfl, iteT' (by decide +kernel) ?_⟩
    refine ⟨_, rfl, p, T.c_Machine, dx, fs, _, rfl, e, T.cl_Machine, T.na_Machine_pile, (hf.at_ _).trans (mfl_pile ..), .inl ⟨rfl, _, SqL.of hM.ep⟩, _, rfl, p, T.c_Machine, dx, fs, _, rfl, e, T.cl_Machine, T.na_Machine_pile, (hf.at_ _).trans (mfl_pile ..), _, rfl, p, dx, fs, rfl, e, (hf.at_ _).trans (mfl_no (by decide +kernel)), _, rfl, _, _, _, _, rfl, rfl, f, rfl, ?_⟩
    refine ⟨p, lc, lp, ld, ws, pile, left, place, said, j, rfl, hM, hjl, ?_⟩
    refine ⟨_, _, _, _, rfl, rfl, SqL.of hM.ep, atI_nat hj, ?_⟩
    refine ⟨_, _, _, rfl, rfl, hM.ep, by rw [List.length_map, sizeLine_eq]; omega, ?_⟩
    have r := hM.pileTo (pile ++ [i])
    rw [List.map_append] at r
    exact q _ r.1 r.2
  | @store j i p0 _ hj =>
    have f : SqT K H a [.str "store", .int (j : Int)] := SqT.of ha
    refine ⟨_, rfl, _, _, _, _, rfl, rfl, f, at0, ?_⟩
    refine ⟨_, rfl, rfl, _, rfl, iteF' (by decide +kernel) ?_⟩
    refine ⟨_, rfl, rfl, _, rfl, iteF' (by decide +kernel) ?_⟩
    refine ⟨_, rfl, rfl, _, rfl, iteT' (by decide +kernel) ?_⟩
    refine ⟨_, rfl, p, dx, fs, rfl, e, (hf.at_ _).trans (mfl_no (by decide +kernel)), p, lc, lp, ld, ws, p0, i, left, place, said, rfl, hM, fun H1 hM1 M1 => ?_⟩
    obtain ⟨dx1, fs1, e1, hf1⟩ := hM1.ob
    have f1 : SqT K H1 a [.str "store", .int (j : Int)] := SqT.of (tf M1 ha)
    refine ⟨_, rfl, _, rfl, p, T.c_Machine, dx1, fs1, _, rfl, e1, T.cl_Machine, T.na_Machine_pile, (hf1.at_ _).trans (mfl_pile ..), _, rfl, p, dx1, fs1, rfl, e1, (hf1.at_ _).trans (mfl_no (by decide +kernel)), _, rfl, _, _, _, _, rfl, rfl, f1, rfl, ?_⟩
    refine ⟨p, lc, lp, ld, ws, p0, left, place, said, j, rfl, hM1, hj, ?_⟩
    have hix : ixN (p0.map V.int).length (j : Int) = some j := by
      unfold ixN
      rw [List.length_map]
      simp
      omega
    refine ⟨lp, _, _, j, rfl, rfl, hM1.ep, hix, ?_⟩
    have r := hM1.pileTo (p0.set j i)
    rw [List.map_set] at r
    exact q _ r.1 (M1.trans r.2)
  | @drop i p0 _ =>
    have f : SqT K H a [.str "drop"] := SqT.of ha
    refine ⟨_, rfl, _, _, _, _, rfl, rfl, f, at0, ?_⟩
    refine ⟨_, rfl, rfl, _, rfl, iteF' (by decide +kernel) ?_⟩
    refine ⟨_, rfl, rfl, _, rfl, iteF' (by decide +kernel) ?_⟩
    refine ⟨_, rfl, rfl, _, rfl, iteF' (by decide +kernel) ?_⟩
    refine ⟨_, rfl, rfl, _, rfl, iteT' (by decide +kernel) ?_⟩
    exact ⟨_, rfl, p, dx, fs, rfl, e, (hf.at_ _).trans (mfl_no (by decide +kernel)), p, lc, lp, ld, ws, pile', i, left, place, said, rfl, hM, fun H1 hM1 M1 => q _ hM1 M1⟩
  | @say i p0 _ =>
    have f : SqT K H a [.str "say"] := SqT.of ha
    refine ⟨_, rfl, _, _, _, _, rfl, rfl, f, at0, ?_⟩
    refine ⟨_, rfl, rfl, _, rfl, iteF' (by decide +kernel) ?_⟩
    refine ⟨_, rfl, rfl, _, rfl, iteF' (by decide +kernel) ?_⟩
    refine ⟨_, rfl, rfl, _, rfl, iteF' (by decide +kernel) ?_⟩
    refine ⟨_, rfl, rfl, _, rfl, iteF' (by decide +kernel) ?_⟩
    refine ⟨_, rfl, rfl, _, rfl, iteT' (by decide +kernel) ?_⟩
    refine ⟨_, rfl, p, T.c_Machine, dx, fs, _, rfl, e, T.cl_Machine, T.na_Machine_said, (hf.at_ _).trans (mfl_said ..), .inl ⟨rfl, _, SqL.of hM.es⟩, _, rfl, p, dx, fs, rfl, e, (hf.at_ _).trans (mfl_no (by decide +kernel)), p, lc, lp, ld, ws, pile', i, left, place, said, rfl, hM, fun H1 hM1 M1 => ?_⟩
    refine ⟨_, _, _, rfl, rfl, hM1.es, by rw [List.length_map, sizeLine_eq]; omega, ?_⟩
    have r := hM1.saidTo (said ++ [i])
    rw [List.map_append] at r
    exact q _ r.1 (M1.trans r.2)
  | @flip i p0 _ =>
    have f : SqT K H a [.str "flip"] := SqT.of ha
    refine ⟨_, rfl, _, _, _, _, rfl, rfl, f, at0, ?_⟩
    refine ⟨_, rfl, rfl, _, rfl, iteF' (by decide +kernel) ?_⟩
    refine ⟨_, rfl, rfl, _, rfl, iteF' (by decide +kernel) ?_⟩
    refine ⟨_, rfl, rfl, _, rfl, iteF' (by decide +kernel) ?_⟩
    refine ⟨_, rfl, rfl, _, rfl, iteF' (by decide +kernel) ?_⟩
    refine ⟨_, rfl, rfl, _, rfl, iteF' (by decide +kernel) ?_⟩
    refine ⟨_, rfl, rfl, _, rfl, iteT' (by decide +kernel) ?_⟩
    refine ⟨_, rfl, p, T.c_Machine, dx, fs, _, rfl, e, T.cl_Machine, T.na_Machine_pile, (hf.at_ _).trans (mfl_pile ..), .inl ⟨rfl, _, SqL.of hM.ep⟩, _, rfl, p, dx, fs, rfl, e, (hf.at_ _).trans (mfl_no (by decide +kernel)), p, lc, lp, ld, ws, p0, i, left, place, said, rfl, hM, fun H1 hM1 M1 => ?_⟩
    have dv : decide (V.int i = V.int 0) = decide (i = 0) := decide_eq_decide.mpr ⟨fun z => by injection z, fun z => by rw [z]⟩
    refine ⟨rfl, _, rfl, ?_⟩
    rw [dv]
    have hpl : (p0 ++ [i]).length ≤ 1000000 := hl
    rw [List.length_append] at hpl
    refine ⟨_, _, _, rfl, rfl, hM1.ep, by rw [List.length_map, sizeLine_eq]; omega, ?_⟩
    have r := hM1.pileTo (p0 ++ [b2n (decide (i = 0))])
    rw [List.map_append] at r
    exact q _ r.1 (M1.trans r.2)
  | @op o i j p0 _ hm =>
    have f : SqT K H a [.str o.w] := SqT.of ha
    refine ⟨_, rfl, _, _, _, _, rfl, rfl, f, at0, ?_⟩
    refine ⟨_, rfl, rfl, _, rfl, iteF' (by cases o <;> decide +kernel) ?_⟩
    refine ⟨_, rfl, rfl, _, rfl, iteF' (by cases o <;> decide +kernel) ?_⟩
    refine ⟨_, rfl, rfl, _, rfl, iteF' (by cases o <;> decide +kernel) ?_⟩
    refine ⟨_, rfl, rfl, _, rfl, iteF' (by cases o <;> decide +kernel) ?_⟩
    refine ⟨_, rfl, rfl, _, rfl, iteF' (by cases o <;> decide +kernel) ?_⟩
    refine ⟨_, rfl, rfl, _, rfl, iteF' (by cases o <;> decide +kernel) ?_⟩
    refine ⟨_, rfl, p, dx, fs, rfl, e, (hf.at_ _).trans (mfl_no (by decide +kernel)), p, lc, lp, ld, ws, p0 ++ [i], j, left, place, said, rfl, hM, fun H1 hM1 M1 => ?_⟩
    obtain ⟨dx1, fs1, e1, hf1⟩ := hM1.ob
    refine ⟨_, rfl, p, dx1, fs1, rfl, e1, (hf1.at_ _).trans (mfl_no (by decide +kernel)), p, lc, lp, ld, ws, p0, i, left, place, said, rfl, hM1, fun H2 hM2 M2 => ?_⟩
    obtain ⟨dx2, fs2, e2, hf2⟩ := hM2.ob
    have hpl : (p0 ++ [i] ++ [j]).length ≤ 1000000 := hl
    rw [List.length_append, List.length_append] at hpl
    refine ⟨_, rfl, p, T.c_Machine, dx2, fs2, _, rfl, e2, T.cl_Machine, T.na_Machine_pile, (hf2.at_ _).trans (mfl_pile ..), .inl ⟨rfl, _, SqL.of hM2.ep⟩, _, rfl, _, rfl, _, rfl, o.w, i, j, o.f i j, rfl, .op hm, ?_⟩
    refine ⟨_, _, _, rfl, rfl, hM2.ep, by rw [List.length_map, sizeLine_eq]; omega, ?_⟩
    have r := hM2.pileTo (p0 ++ [o.f i j])
    rw [List.map_append] at r
    exact q _ r.1 (M1.trans (M2.trans r.2))
  | @less i j p0 _ =>
    have f : SqT K H a [.str "less"] := SqT.of ha
    refine ⟨_, rfl, _, _, _, _, rfl, rfl, f, at0, ?_⟩
    refine ⟨_, rfl, rfl, _, rfl, iteF' (by decide +kernel) ?_⟩
    refine ⟨_, rfl, rfl, _, rfl, iteF' (by decide +kernel) ?_⟩
    refine ⟨_, rfl, rfl, _, rfl, iteF' (by decide +kernel) ?_⟩
    refine ⟨_, rfl, rfl, _, rfl, iteF' (by decide +kernel) ?_⟩
    refine ⟨_, rfl, rfl, _, rfl, iteF' (by decide +kernel) ?_⟩
    refine ⟨_, rfl, rfl, _, rfl, iteF' (by decide +kernel) ?_⟩
    refine ⟨_, rfl, p, dx, fs, rfl, e, (hf.at_ _).trans (mfl_no (by decide +kernel)), p, lc, lp, ld, ws, p0 ++ [i], j, left, place, said, rfl, hM, fun H1 hM1 M1 => ?_⟩
    obtain ⟨dx1, fs1, e1, hf1⟩ := hM1.ob
    refine ⟨_, rfl, p, dx1, fs1, rfl, e1, (hf1.at_ _).trans (mfl_no (by decide +kernel)), p, lc, lp, ld, ws, p0, i, left, place, said, rfl, hM1, fun H2 hM2 M2 => ?_⟩
    obtain ⟨dx2, fs2, e2, hf2⟩ := hM2.ob
    have hpl : (p0 ++ [i] ++ [j]).length ≤ 1000000 := hl
    rw [List.length_append, List.length_append] at hpl
    refine ⟨_, rfl, p, T.c_Machine, dx2, fs2, _, rfl, e2, T.cl_Machine, T.na_Machine_pile, (hf2.at_ _).trans (mfl_pile ..), .inl ⟨rfl, _, SqL.of hM2.ep⟩, _, rfl, _, rfl, _, rfl, "less", i, j, b2n (decide (i < j)), rfl, .less, ?_⟩
    refine ⟨_, _, _, rfl, rfl, hM2.ep, by rw [List.length_map, sizeLine_eq]; omega, ?_⟩
    have r := hM2.pileTo (p0 ++ [b2n (decide (i < j))])
    rw [List.map_append] at r
    exact q _ r.1 (M1.trans (M2.trans r.2))
  | @same i j p0 _ =>
    have f : SqT K H a [.str "same"] := SqT.of ha
    refine ⟨_, rfl, _, _, _, _, rfl, rfl, f, at0, ?_⟩
    refine ⟨_, rfl, rfl, _, rfl, iteF' (by decide +kernel) ?_⟩
    refine ⟨_, rfl, rfl, _, rfl, iteF' (by decide +kernel) ?_⟩
    refine ⟨_, rfl, rfl, _, rfl, iteF' (by decide +kernel) ?_⟩
    refine ⟨_, rfl, rfl, _, rfl, iteF' (by decide +kernel) ?_⟩
    refine ⟨_, rfl, rfl, _, rfl, iteF' (by decide +kernel) ?_⟩
    refine ⟨_, rfl, rfl, _, rfl, iteF' (by decide +kernel) ?_⟩
    refine ⟨_, rfl, p, dx, fs, rfl, e, (hf.at_ _).trans (mfl_no (by decide +kernel)), p, lc, lp, ld, ws, p0 ++ [i], j, left, place, said, rfl, hM, fun H1 hM1 M1 => ?_⟩
    obtain ⟨dx1, fs1, e1, hf1⟩ := hM1.ob
    refine ⟨_, rfl, p, dx1, fs1, rfl, e1, (hf1.at_ _).trans (mfl_no (by decide +kernel)), p, lc, lp, ld, ws, p0, i, left, place, said, rfl, hM1, fun H2 hM2 M2 => ?_⟩
    obtain ⟨dx2, fs2, e2, hf2⟩ := hM2.ob
    have hpl : (p0 ++ [i] ++ [j]).length ≤ 1000000 := hl
    rw [List.length_append, List.length_append] at hpl
    refine ⟨_, rfl, p, T.c_Machine, dx2, fs2, _, rfl, e2, T.cl_Machine, T.na_Machine_pile, (hf2.at_ _).trans (mfl_pile ..), .inl ⟨rfl, _, SqL.of hM2.ep⟩, _, rfl, _, rfl, _, rfl, "same", i, j, b2n (decide (i = j)), rfl, .same, ?_⟩
    refine ⟨_, _, _, rfl, rfl, hM2.ep, by rw [List.length_map, sizeLine_eq]; omega, ?_⟩
    have r := hM2.pileTo (p0 ++ [b2n (decide (i = j))])
    rw [List.map_append] at r
    exact q _ r.1 (M1.trans (M2.trans r.2))
end
end W08

set_option Elab.async false
set_option linter.all false
set_option maxRecDepth 100000
set_option maxHeartbeats 4000000
namespace W08
open PySem L2 J
section
variable {P : Program} {w : World} {K : PySem.W.Frag} {mg : Str → Option Value} {base : Heap}
def endV (cs : List Cd) (k l : Nat) : V := if k = cs.length then .str "done" else match cs[k]? with
  | some c => if l = 0 ∧ c.oil = true then .str "dry" else .non
  | none => .non
def spEnding (C : Addr) : Sp := fun vs H Q _ => ∃ (p lc lp ld : Addr) (ws : List V) (pile : List Int) (k l : Nat) (said : List Int) (cs : List Cd), vs = [.ref p] ∧ MachAt C H p lc lp ld ws pile (l : Int) (k : Int) said ∧ Cds H ws cs ∧ k ≤ cs.length ∧ Q (endV cs k l) H
theorem ok_Machine_ending (T : Txt K mg) : FnOk P w K mg base CX0 1 T.f_Machine_ending T.fd_Machine_ending ["self"] (spEnding T.c_Machine) := by
  refine T.Machine_ending.F.ok sc_Machine_ending (fun vs H Q E h => ?_) (fun cdv A outer s H vs Q E hr h => ?_)
  · obtain ⟨p, lc, lp, ld, ws, pile, k, l, said, cs, rfl, _⟩ := h; rfl
  obtain ⟨p, lc, lp, ld, ws, pile, k, l, said, cs, rfl, hM, hC, hk, q⟩ := h
  refine ⟨_, (pss_cons (ps_if (pt_cmpR op_eq (pe_fld (pv 0) rfl) (pe_callB call_len_seq rfl T.b_len PySem.boot_len (pa_cons (pe_fld (pv 0) rfl) pa_nil)) (nomark _)) (pss_one (ps_ret pe_str)) pss_nil)
    (pss_cons (ps_if (PW.pt (pw_and (pt_cmpR op_eq (pe_fld (pv 0) rfl) pe_int (nomark _)) (pw_and1 (pt_cmpR op_in_seq (pe_ix ix_tup (pe_ix ix_list (pe_fld (pv 0) rfl) (pe_fld (pv 0) rfl) (fun _ _ => rfl)) pe_int (fun _ _ => rfl)) (pe_glob (v := .ref T.a_OIL_CARDS) rfl T.m_OIL_CARDS rfl) (by with_unfolding_all rfl))))) (pss_one (ps_ret pe_str)) pss_nil)
    (pss_one (ps_ret pe_non)))), ?_⟩
  try dsimp only [kx, kxb]
  obtain ⟨dx, fs, e, hf⟩ := hM.ob
  have hwl := hC.len
  refine ⟨_, rfl, p, T.c_Machine, dx, fs, _, rfl, e, T.cl_Machine, T.na_Machine_place, (hf.at_ _).trans (mfl_place ..), _, rfl, p, T.c_Machine, dx, fs, _, rfl, e, T.cl_Machine, T.na_Machine_cards, (hf.at_ _).trans (mfl_cards ..), _, _, rfl, .inl (SqL.of hM.ec), rfl, _, rfl, ?_⟩
  unfold endV at q
  refine ite2 (fun c => ?_) (fun c => ?_)
  · have c1 : (k : Int) = (ws.length : Int) := by injection (of_decide_eq_true c)
    rw [if_pos (by omega)] at q
    exact q
  have c1 : ¬ (k : Int) = (ws.length : Int) := fun z => c (decide_eq_true (by rw [z]))
  have hlt : k < cs.length := by omega
  rw [if_neg (by omega), List.getElem?_eq_getElem hlt] at q
  have q0 : Q (if l = 0 ∧ cs[k].oil = true then V.str "dry" else .non) H := q
  have hck : cs[k]? = some cs[k] := List.getElem?_eq_getElem hlt
  obtain ⟨v, hv, ca, rfl, hca⟩ := Cds.get' hC hck
  obtain ⟨rr, ev⟩ := Cd.hd cs[k]
  rw [ev] at hca
  refine ⟨_, rfl, p, T.c_Machine, dx, fs, _, rfl, e, T.cl_Machine, T.na_Machine_left, (hf.at_ _).trans (mfl_left ..), rfl, _, rfl, ?_⟩
  by_cases hl : l = 0
  · refine iteT' (decide_eq_true (by rw [hl]; rfl)) ?_
    refine ⟨_, rfl, p, T.c_Machine, dx, fs, _, rfl, e, T.cl_Machine, T.na_Machine_cards, (hf.at_ _).trans (mfl_cards ..), _, rfl, p, T.c_Machine, dx, fs, _, rfl, e, T.cl_Machine, T.na_Machine_place, (hf.at_ _).trans (mfl_place ..), _, _, _, _, rfl, rfl, SqL.of hM.ec, atI_nat hv, _, _, _, _, rfl, rfl, SqT.of hca, at0, _, _, rfl, .inr (T.k_OIL_CARDS H).sq, rfl, by decide +kernel, _, rfl, ?_⟩
    have eo : (if false = true then !inV (V.str cs[k].wd) [V.str "burn", V.str "back"] else inV (V.str cs[k].wd) [V.str "burn", V.str "back"]) = cs[k].oil := Cd.oil_in cs[k]
    cases ho : cs[k].oil with
    | true =>
      rw [if_pos ⟨hl, ho⟩] at q0
      rw [ho] at eo
      exact iteT' eo q0
    | false =>
      rw [if_neg (fun z => by rw [ho] at z; exact nomatch z.2)] at q0
      rw [ho] at eo
      exact iteF' eo q0
  · refine iteF' (decide_eq_false (fun z => hl (by injection z; omega))) (iteF ?_)
    rw [if_neg (fun z => hl z.1)] at q0
    exact q0
def spDoCard (C : Addr) : Sp := fun vs H Q _ => ∃ (p lc lp ld : Addr) (ws : List V) (pile pile' : List Int) (k k' l l' : Nat) (said said' : List Int) (cs : List Cd), vs = [.ref p] ∧ MachAt C H p lc lp ld ws pile (l : Int) (k : Int) said ∧ Cds H ws cs ∧ MStp cs k pile l said k' pile' l' said' ∧ pile.length ≤ 1000000 ∧ said.length ≤ 1000000 ∧
  ∀ H', MachAt C H' p lc lp ld ws pile' (l' : Int) (k' : Int) said' → MOut p lp ld H H' → Q .non H'
theorem ok_Machine_do_card (T : Txt K mg) : FnOk P w K mg base CX0 4 T.f_Machine_do_card T.fd_Machine_do_card ["self"] (spDoCard T.c_Machine) := by
  have G_Machine_taken_off := (ok_Machine_taken_off (P := P) (w := w) (base := base) T).mono (show 1 ≤ 3 by omega)
  have G_Machine_leave_out := (ok_Machine_leave_out (P := P) (w := w) (base := base) T).mono (show 1 ≤ 3 by omega)
  have G_Machine_go_back := (ok_Machine_go_back (P := P) (w := w) (base := base) T).mono (show 1 ≤ 3 by omega)
  have G_Machine_do_on_pile := ok_Machine_do_on_pile (P := P) (w := w) (base := base) T
  refine T.Machine_do_card.F.ok sc_Machine_do_card (fun vs H Q E h => ?_) (fun cdv A outer s H vs Q E hr h => ?_)
  · obtain ⟨p, lc, lp, ld, ws, pile, pile', k, k', l, l', said, said', cs, rfl, _⟩ := h; rfl
  obtain ⟨p, lc, lp, ld, ws, pile, pile', k, k', l, l', said, said', cs, rfl, hM, hC, hst, hpl, hsl, q⟩ := h
  refine ⟨_, (pss_cons (ps_set (i := 1) sc_Machine_do_card.nd rfl (Or.inl rfl) (pe_ix ix_list (pe_fld (pv 0) rfl) (pe_fld (pv 0) rfl) (fun _ _ => rfl)))
    (pss_cons (ps_fldaug (pv 0) pe_int in_add)
    (pss_cons (ps_set (i := 2) sc_Machine_do_card.nd rfl (Or.inl rfl) (pe_ix ix_tup (pv 1) pe_int (fun _ _ => rfl)))
    (pss_one (ps_if (pt_cmpR op_eq (pv 2) pe_str (nomark _)) (pss_one (ps_if (pt_cmpR op_eq (pe_meth0 (pv 0) T.cl_Machine T.me_Machine_taken_off G_Machine_taken_off hr T.Machine_taken_off.b .nil pass0) pe_int (nomark _)) (pss_one (ps_expr (pe_meth (pv 0) T.cl_Machine T.me_Machine_leave_out G_Machine_leave_out hr T.Machine_leave_out.b .nil pass0 (pa_cons (pe_ix ix_tup (pv 1) pe_int (fun _ _ => rfl)) pa_nil)))) pss_nil)) (pss_one (ps_if (pt_cmpR op_eq (pv 2) pe_str (nomark _)) (pss_one (ps_expr (pe_meth (pv 0) T.cl_Machine T.me_Machine_leave_out G_Machine_leave_out hr T.Machine_leave_out.b .nil pass0 (pa_cons (pe_ix ix_tup (pv 1) pe_int (fun _ _ => rfl)) pa_nil)))) (pss_one (ps_if (pt_cmpR op_eq (pv 2) pe_str (nomark _)) (pss_one (ps_fldaug (pv 0) pe_int in_sub)) (pss_one (ps_if (pt_cmpR op_eq (pv 2) pe_str (nomark _)) (pss_cons (ps_fldaug (pv 0) pe_int in_sub)
    (pss_one (ps_expr (pe_meth (pv 0) T.cl_Machine T.me_Machine_go_back G_Machine_go_back hr T.Machine_go_back.b .nil pass0 (pa_cons (pe_ix ix_tup (pv 1) pe_int (fun _ _ => rfl)) pa_nil))))) (pss_one (ps_expr (pe_meth (pv 0) T.cl_Machine T.me_Machine_do_on_pile G_Machine_do_on_pile hr T.Machine_do_on_pile.b .nil pass0 (pa_cons (pv 1) pa_nil))))))))))))))), ?_⟩
  try dsimp only [kx, kxb]
  obtain ⟨dx, fs, e, hf⟩ := hM.ob
  have hwl := hC.len
  obtain ⟨c, hck, _⟩ := hst.lt
  obtain ⟨v, hv, ca, rfl, hca⟩ := Cds.get' hC hck
  refine ⟨_, rfl, p, T.c_Machine, dx, fs, _, rfl, e, T.cl_Machine, T.na_Machine_cards, (hf.at_ _).trans (mfl_cards ..), _, rfl, p, T.c_Machine, dx, fs, _, rfl, e, T.cl_Machine, T.na_Machine_place, (hf.at_ _).trans (mfl_place ..), _, _, _, _, rfl, rfl, SqL.of hM.ec, atI_nat hv, ?_⟩
  refine ⟨_, rfl, p, T.c_Machine, dx, fs, _, rfl, e, T.cl_Machine, T.na_Machine_place, (hf.at_ _).trans (mfl_place ..), _, _, rfl, rfl, dx, fs, e, Nat.lt_of_le_of_lt hf.len (by decide), ?_⟩
  have hf2 : Has (putF "place" (.int ((k : Int) + 1)) fs) (mfl lc lp (l : Int) ((k : Int) + 1) ld) := hf.put (mfl_place ..) (mfl_putPlace _ _ _ _ _ _)
  obtain ⟨hM1, M1⟩ := hM.fld (dx := dx) hf2
  have hca1 : upd H p (.ins T.c_Machine dx (putF "place" (.int ((k : Int) + 1)) fs)) ca = some (.tup c.vs) := by rw [upd_ne (ne_of hca e (fun z => by cases z))]; exact hca
  have e1 : upd H p (.ins T.c_Machine dx (putF "place" (.int ((k : Int) + 1)) fs)) p = some (.ins T.c_Machine dx (putF "place" (.int ((k : Int) + 1)) fs)) := upd_same
  generalize upd H p (.ins T.c_Machine dx (putF "place" (.int ((k : Int) + 1)) fs)) = H1 at hM1 M1 hca1 e1
  have ek : ((k : Int) + 1) = ((k + 1 : Nat) : Int) := by omega
  rw [ek] at hM1 hf2 e1
  cases hst with
  | @pile c' _ _ _ _ _ e' ho =>
    cases (hck.symm.trans e')
    obtain ⟨h1, h2, h3, h4⟩ := ho.hops
    obtain ⟨rr, ev⟩ := Cd.hd c
    have hcv := hca1
    rw [ev] at hcv
    refine ⟨_, rfl, _, _, _, _, rfl, rfl, SqT.of hcv, at0, ?_⟩
    refine ⟨_, rfl, rfl, _, rfl, iteF' h1 ?_⟩
    refine ⟨_, rfl, rfl, _, rfl, iteF' h2 ?_⟩
    refine ⟨_, rfl, rfl, _, rfl, iteF' h3 ?_⟩
    refine ⟨_, rfl, rfl, _, rfl, iteF' h4 ?_⟩
    exact ⟨_, rfl, p, dx, _, rfl, e1, (hf2.at_ _).trans (mfl_no (by decide +kernel)), _, rfl, p, lc, lp, ld, ws, pile, pile', l, _, said, said', ca, c, rfl, hM1, hca1, ho, hpl, hsl, fun H2 hM2 M2 => q _ hM2 (M1.trans M2)⟩
  | @burn _ l0 _ e' =>
    cases (hck.symm.trans e')
    have f : SqT K H1 ca [.str "burn"] := SqT.of hca1
    refine ⟨_, rfl, _, _, _, _, rfl, rfl, f, at0, ?_⟩
    refine ⟨_, rfl, rfl, _, rfl, iteF' (by decide +kernel) ?_⟩
    refine ⟨_, rfl, rfl, _, rfl, iteF' (by decide +kernel) ?_⟩
    refine ⟨_, rfl, rfl, _, rfl, iteT' (by decide +kernel) ?_⟩
    refine ⟨_, rfl, p, T.c_Machine, dx, _, _, rfl, e1, T.cl_Machine, T.na_Machine_left, (hf2.at_ _).trans (mfl_left ..), _, _, rfl, rfl, dx, _, e1, Nat.lt_of_le_of_lt hf2.len (by decide), ?_⟩
    have el : (((l' + 1 : Nat) : Int) - 1) = (l' : Int) := by omega
    have hf3 := hf2.put (f := "left") (v := .int (((l' + 1 : Nat) : Int) - 1)) (m' := mfl lc lp (((l' + 1 : Nat) : Int) - 1) _ ld) (mfl_left ..) (mfl_putLeft _ _ _ _ _ _)
    have r := hM1.fld (dx := dx) hf3
    exact q _ (by rw [← el]; exact r.1) (M1.trans r.2)
  | @back n _ l0 _ e' hn =>
    cases (hck.symm.trans e')
    have f : SqT K H1 ca [.str "back", .int (n : Int)] := SqT.of hca1
    refine ⟨_, rfl, _, _, _, _, rfl, rfl, f, at0, ?_⟩
    refine ⟨_, rfl, rfl, _, rfl, iteF' (by decide +kernel) ?_⟩
    refine ⟨_, rfl, rfl, _, rfl, iteF' (by decide +kernel) ?_⟩
    refine ⟨_, rfl, rfl, _, rfl, iteF' (by decide +kernel) ?_⟩
    refine ⟨_, rfl, rfl, _, rfl, iteT' (by decide +kernel) ?_⟩
    refine ⟨_, rfl, p, T.c_Machine, dx, _, _, rfl, e1, T.cl_Machine, T.na_Machine_left, (hf2.at_ _).trans (mfl_left ..), _, _, rfl, rfl, dx, _, e1, Nat.lt_of_le_of_lt hf2.len (by decide), ?_⟩
    have el : (((l' + 1 : Nat) : Int) - 1) = (l' : Int) := by omega
    have hf3 := hf2.put (f := "left") (v := .int (((l' + 1 : Nat) : Int) - 1)) (m' := mfl lc lp (((l' + 1 : Nat) : Int) - 1) _ ld) (mfl_left ..) (mfl_putLeft _ _ _ _ _ _)
    obtain ⟨hM2, M2⟩ := hM1.fld (dx := dx) hf3
    have f2 := SqT.of (K := K) ((M2 ca _ (ne_of hca1 e1 (fun z => by cases z)) (ne_of hca1 hM1.ep (fun z => by cases z)) (ne_of hca1 hM1.es (fun z => by cases z))) hca1)
    obtain ⟨dx2, fs2, e2, hf4⟩ := hM2.ob
    refine ⟨_, rfl, p, dx2, fs2, rfl, e2, (hf4.at_ _).trans (mfl_no (by decide +kernel)), _, rfl, _, _, _, _, rfl, rfl, f2, rfl, p, lc, lp, ld, ws, pile, _, k, n, said, rfl, hM2, hn, fun H3 hM3 M3 => ?_⟩
    exact q _ (by rw [← el]; exact hM3) (M1.trans (M2.trans M3))
  | @skip n _ _ _ e' hn =>
    cases (hck.symm.trans e')
    have f : SqT K H1 ca [.str "skip", .int (n : Int)] := SqT.of hca1
    refine ⟨_, rfl, _, _, _, _, rfl, rfl, f, at0, ?_⟩
    refine ⟨_, rfl, rfl, _, rfl, iteF' (by decide +kernel) ?_⟩
    refine ⟨_, rfl, rfl, _, rfl, iteT' (by decide +kernel) ?_⟩
    exact ⟨_, rfl, p, dx, _, rfl, e1, (hf2.at_ _).trans (mfl_no (by decide +kernel)), _, rfl, _, _, _, _, rfl, rfl, f, rfl, p, lc, lp, ld, ws, pile, _, k + 1, n, said, rfl, hM1, by omega, fun H2 hM2 M2 => q _ hM2 (M1.trans M2)⟩
  | @fork0 n p0 _ _ e' hn =>
    cases (hck.symm.trans e')
    have f : SqT K H1 ca [.str "fork", .int (n : Int)] := SqT.of hca1
    refine ⟨_, rfl, _, _, _, _, rfl, rfl, f, at0, ?_⟩
    refine ⟨_, rfl, rfl, _, rfl, iteT' (by decide +kernel) ?_⟩
    refine ⟨_, rfl, p, dx, _, rfl, e1, (hf2.at_ _).trans (mfl_no (by decide +kernel)), p, lc, lp, ld, ws, pile', 0, _, _, said, rfl, hM1, fun H2 hM2 M2 => ?_⟩
    refine ⟨rfl, _, rfl, iteT' (decide_eq_true rfl) ?_⟩
    obtain ⟨dx2, fs2, e2, hf4⟩ := hM2.ob
    have f2 := SqT.of (K := K) ((M2 ca _ (ne_of hca1 e1 (fun z => by cases z)) (ne_of hca1 hM1.ep (fun z => by cases z)) (ne_of hca1 hM1.es (fun z => by cases z))) hca1)
    exact ⟨_, rfl, p, dx2, fs2, rfl, e2, (hf4.at_ _).trans (mfl_no (by decide +kernel)), _, rfl, _, _, _, _, rfl, rfl, f2, rfl, p, lc, lp, ld, ws, pile', _, k + 1, n, said, rfl, hM2, by omega, fun H3 hM3 M3 => q _ hM3 (M1.trans (M2.trans M3))⟩
  | @fork1 n i p0 _ _ e' hi =>
    cases (hck.symm.trans e')
    have f : SqT K H1 ca [.str "fork", .int n] := SqT.of hca1
    refine ⟨_, rfl, _, _, _, _, rfl, rfl, f, at0, ?_⟩
    refine ⟨_, rfl, rfl, _, rfl, iteT' (by decide +kernel) ?_⟩
    refine ⟨_, rfl, p, dx, _, rfl, e1, (hf2.at_ _).trans (mfl_no (by decide +kernel)), p, lc, lp, ld, ws, pile', i, _, _, said, rfl, hM1, fun H2 hM2 M2 => ?_⟩
    exact ⟨rfl, _, rfl, iteF' (decide_eq_false (fun z => hi (by injection z))) (q _ hM2 (M1.trans M2))⟩
end
end W08

set_option Elab.async false
set_option linter.all false
set_option maxRecDepth 100000
set_option maxHeartbeats 4000000
namespace W08
open PySem L2 J
section
variable {P : Program} {w : World} {K : PySem.W.Frag} {mg : Str → Option Value} {base : Heap}
def spMInit (C : Addr) : Sp := fun vs H Q _ => ∃ (p dx lc lq : Addr) (ws : List V) (pile : List Int) (oil : Int), vs = [.ref p, .ref lc, .ref lq, .int oil] ∧ H p = some (.ins C dx []) ∧ H lc = some (.lst ws) ∧ H lq = some (.lst (pile.map V.int)) ∧
  ∀ lp ld H', H lp = none → H ld = none → MachAt C H' p lc lp ld ws pile oil 0 [] → (∀ b o, b ≠ p → H b = some o → H' b = some o) → Q .non H'
theorem ok_Machine_init (T : Txt K mg) : FnOk P w K mg base CX0 1 T.f_Machine_init T.fd_Machine_init ["self", "cards", "pile", "oil"] (spMInit T.c_Machine) := by
  refine T.Machine_init.F.ok sc_Machine_init (fun vs H Q E h => ?_) (fun cdv A outer s H vs Q E hr h => ?_)
  · obtain ⟨p, dx, lc, lq, ws, pile, oil, rfl, _⟩ := h; rfl
  obtain ⟨p, dx, lc, lq, ws, pile, oil, rfl, hp, hc, hq, q⟩ := h
  refine ⟨_, (pss_cons (ps_fld (pv 0) (pv 1) rfl)
    (pss_cons (ps_fld (pv 0) (pe_callTy call_list_of rfl T.b_list bt_list (pa_cons (pv 2) pa_nil)) rfl)
    (pss_cons (ps_fld (pv 0) (pv 3) rfl)
    (pss_cons (ps_fld (pv 0) pe_int rfl)
    (pss_one (ps_fld (pv 0) (pe_lst pa_nil) rfl)))))), ?_⟩
  try dsimp only [kx, kxb]
  have npc : p ≠ lc := ne_of hp hc (fun z => by cases z)
  have npq : p ≠ lq := ne_of hp hq (fun z => by cases z)
  obtain ⟨a1, b1⟩ := Has.nil.snoc (f := "cards") (v := .ref lc) (by decide) rfl
  refine ⟨_, rfl, _, rfl, p, T.c_Machine, dx, [], rfl, hp, T.cl_Machine, T.na_Machine_cards, (by show 0 < 1000; decide), ?_⟩
  generalize hf1 : putF "cards" (.ref lc) [] = fs1 at a1 b1
  have hq1 : upd H p (.ins T.c_Machine dx fs1) lq = some (.lst (pile.map V.int)) := by rw [upd_ne npq.symm]; exact hq
  refine ⟨_, rfl, _, _, rfl, .inl (SqL.of hq1), fun lp hlp => ?_⟩
  have npl : p ≠ lp := fun z => by rw [← z, upd_same] at hlp; cases hlp
  have hlp0 : H lp = none := by rwa [upd_ne npl.symm] at hlp
  have hp2 : upd (upd H p (.ins T.c_Machine dx fs1)) lp (.lst (pile.map V.int)) p = some (.ins T.c_Machine dx fs1) := by rw [upd_ne npl, upd_same]
  have ho2 : ∀ b o, b ≠ p → H b = some o → upd (upd H p (.ins T.c_Machine dx fs1)) lp (.lst (pile.map V.int)) b = some o := fun b o nb e => by rw [upd_ne (ne_of_none e hlp0), upd_ne nb]; exact e
  have el2 : upd (upd H p (.ins T.c_Machine dx fs1)) lp (.lst (pile.map V.int)) lp = some (.lst (pile.map V.int)) := upd_same
  generalize upd (upd H p (.ins T.c_Machine dx fs1)) lp (.lst (pile.map V.int)) = H2 at hp2 ho2 el2
  obtain ⟨a2, b2⟩ := a1.snoc (f := "pile") (v := .ref lp) (by show fs1.length ≤ 49; have : ([] : List (Str × V)).length = 0 := rfl; omega) (by show List.lookup _ [(("cards" : Str), V.ref lc)] = none; rw [lk_cons, if_neg (by decide +kernel)]; rfl)
  refine ⟨_, rfl, p, T.c_Machine, dx, fs1, rfl, hp2, T.cl_Machine, T.na_Machine_pile, Nat.lt_of_le_of_lt a1.len (by decide), ?_⟩
  generalize hf2 : putF "pile" (.ref lp) fs1 = fs2 at a2 b2
  obtain ⟨a3, b3⟩ := a2.snoc (f := "left") (v := .int oil) (by have : ([] : List (Str × V)).length = 0 := rfl; omega) (by show List.lookup _ [(("cards" : Str), V.ref lc), (("pile" : Str), V.ref lp)] = none; rw [lk_cons, if_neg (by decide +kernel), lk_cons, if_neg (by decide +kernel)]; rfl)
  refine ⟨_, rfl, _, rfl, p, T.c_Machine, dx, fs2, rfl, upd_same, T.cl_Machine, T.na_Machine_left, Nat.lt_of_le_of_lt a2.len (by decide), ?_⟩
  generalize hf3 : putF "left" (.int oil) fs2 = fs3 at a3 b3
  obtain ⟨a4, b4⟩ := a3.snoc (f := "place") (v := .int 0) (by have : ([] : List (Str × V)).length = 0 := rfl; omega) (by show List.lookup _ [(("cards" : Str), V.ref lc), (("pile" : Str), V.ref lp), (("left" : Str), V.int oil)] = none; rw [lk_cons, if_neg (by decide +kernel), lk_cons, if_neg (by decide +kernel), lk_cons, if_neg (by decide +kernel)]; rfl)
  refine ⟨_, rfl, p, T.c_Machine, dx, fs3, rfl, upd_same, T.cl_Machine, T.na_Machine_place, Nat.lt_of_le_of_lt a3.len (by decide), ?_⟩
  generalize hf4 : putF "place" (.int 0) fs3 = fs4 at a4 b4
  rw [upd_upd, upd_upd]
  have hp3 : upd H2 p (.ins T.c_Machine dx fs4) p = some (.ins T.c_Machine dx fs4) := upd_same
  have ho3 : ∀ b o, b ≠ p → H b = some o → upd H2 p (.ins T.c_Machine dx fs4) b = some o := fun b o nb e => by rw [upd_ne nb]; exact ho2 b o nb e
  have el3 : upd H2 p (.ins T.c_Machine dx fs4) lp = some (.lst (pile.map V.int)) := by rw [upd_ne npl.symm]; exact el2
  generalize upd H2 p (.ins T.c_Machine dx fs4) = H3 at hp3 ho3 el3
  refine ⟨Nat.zero_le _, fun ld hld => ?_⟩
  have npd : p ≠ ld := ne_of_none hp3 hld
  have nld : lp ≠ ld := ne_of_none el3 hld
  have hld0 : H ld = none := by
    cases e : H ld with
    | none => rfl
    | some o => rw [ho3 ld o npd.symm e] at hld; cases hld
  obtain ⟨a5, b5⟩ := a4.snoc (f := "said") (v := .ref ld) (by have : ([] : List (Str × V)).length = 0 := rfl; omega) (by show List.lookup _ [(("cards" : Str), V.ref lc), (("pile" : Str), V.ref lp), (("left" : Str), V.int oil), (("place" : Str), V.int 0)] = none; rw [lk_cons, if_neg (by decide +kernel), lk_cons, if_neg (by decide +kernel), lk_cons, if_neg (by decide +kernel), lk_cons, if_neg (by decide +kernel)]; rfl)
  refine ⟨_, rfl, p, T.c_Machine, dx, fs4, rfl, (by rw [upd_ne npd]; exact hp3), T.cl_Machine, T.na_Machine_said, Nat.lt_of_le_of_lt a4.len (by decide), ?_⟩
  refine q lp ld _ hlp0 hld0 ⟨⟨dx, _, upd_same, a5⟩, ?_, ?_, ?_, ?_, nld, ?_⟩ fun b o nb e => ?_
  · rw [upd_ne npc.symm, upd_ne (ne_of_none hc hld0)]; exact ho3 _ _ npc.symm hc
  · rw [upd_ne npl.symm, upd_ne nld]; exact el3
  · rw [upd_ne npd.symm, upd_same]; rfl
  · exact (ne_of_none hc hlp0).symm
  · exact (ne_of_none hc hld0).symm
  · rw [upd_ne nb, upd_ne (ne_of_none e hld0)]; exact ho3 b o nb e
def finW (f : J.Fin) : Str := if f.word = true then "done" else "dry"
def spRan : Sp := fun vs H Q _ => ∃ (lc lq : Addr) (ws : List V) (cs : List Cd) (pile : List Int) (oil n : Nat) (f : J.Fin), vs = [.ref lc, .ref lq, .int (oil : Int)] ∧ H lc = some (.lst ws) ∧ Cds H ws cs ∧ H lq = some (.lst (pile.map V.int)) ∧ MRun cs n 0 pile oil [] f ∧
  ∀ r ld lp H', Same H H' → H' r = some (.tup [.str (finW f), .ref ld, .ref lp, .int ((oil : Int) - (f.left : Int))]) → H' ld = some (.lst (f.said.map V.int)) → H' lp = some (.lst (f.pile.map V.int)) → Q (.ref r) H'
def WRan (C : Addr) (H : Hp) (lc lq p lp ld : Addr) (oil : Nat) (ws : List V) (cs : List Cd) (f : J.Fin) (m : Nat) (σ : St) (H' : Hp) : Prop :=
  ∃ (pile said : List Int) (k l : Nat), σ = [some (.ref lc), some (.ref lq), some (.int (oil : Int)), some (.ref p)] ∧ Same H H' ∧ MachAt C H' p lc lp ld ws pile (l : Int) (k : Int) said ∧ Cds H' ws cs ∧ MRun cs m k pile l said f
theorem mrun_le {cs : List Cd} {m k l : Nat} {p s : List Int} {f : J.Fin} (h : MRun cs m k p l s f) : k ≤ cs.length := by
  cases h with
  | done => exact Nat.le_refl _
  | dry e _ => exact Nat.le_of_lt (List.getElem?_eq_some_iff.mp e).1
  | step s _ _ _ =>
    obtain ⟨c, e, _⟩ := s.lt
    exact Nat.le_of_lt (List.getElem?_eq_some_iff.mp e).1
theorem ok_ran (T : Txt K mg) : FnOk P w K mg base CX0 6 T.f_ran T.fd_ran ["cards", "pile", "oil"] spRan := by
  have G_Machine_init := (ok_Machine_init (P := P) (w := w) (base := base) T).mono (show 1 ≤ 4 by omega)
  have G_Machine_ending := (ok_Machine_ending (P := P) (w := w) (base := base) T).mono (show 1 ≤ 5 by omega)
  have G_Machine_do_card := (ok_Machine_do_card (P := P) (w := w) (base := base) T).mono (show 4 ≤ 5 by omega)
  refine T.ran.F.ok sc_ran (fun vs H Q E h => ?_) (fun cdv A outer s H vs Q E hr h => ?_)
  · obtain ⟨lc, lq, ws, cs, pile, oil, n, f, rfl, _⟩ := h; rfl
  obtain ⟨lc, lq, ws, cs, pile, oil, n, f, rfl, hc, hC, hq, hrun, q⟩ := h
  refine ⟨_, (pss_cons (ps_set (i := 3) sc_ran.nd rfl (Or.inl rfl) (pe_make T.mk_Machine G_Machine_init hr rfl T.mg_Machine T.Machine_init.b .nil pass0 (pa_cons (pv 0) (pa_cons (pv 1) (pa_cons (pv 2) pa_nil)))))
    (pss_cons (ps_while PassesOwn.never (pt_cmpR op_isN (pe_meth0 (pv 3) T.cl_Machine T.me_Machine_ending G_Machine_ending hr T.Machine_ending.b .nil pass0) pe_non (nomark _)) (pss_one (ps_expr (pe_meth0 (pv 3) T.cl_Machine T.me_Machine_do_card G_Machine_do_card hr T.Machine_do_card.b .nil pass0))))
    (pss_one (ps_ret (pe_tup (pa_cons (pe_meth0 (pv 3) T.cl_Machine T.me_Machine_ending G_Machine_ending hr T.Machine_ending.b .nil pass0) (pa_cons (pe_fld (pv 3) rfl) (pa_cons (pe_fld (pv 3) rfl) (pa_cons (pe_op op_sub (pv 2) (pe_fld (pv 3) rfl)) pa_nil))))))))), ?_⟩
  try dsimp only [kx, kxb]
  have four : (4 : Nat) ≤ sizeLine := by decide
  refine ⟨_, rfl, _, rfl, _, rfl, fun p dx hp hdx hne => ?_⟩
  have ndx : ∀ b o, H b = some o → b ≠ dx := fun b o e => ne_of_none e hdx
  have np : ∀ b o, H b = some o → b ≠ p := fun b o e => ne_of_none e hp
  have ho : ∀ b o, H b = some o → upd (upd H dx (.own p)) p (.ins T.c_Machine dx []) b = some o := fun b o e => by rw [upd_ne (np b o e), upd_ne (ndx b o e)]; exact e
  refine ⟨p, dx, lc, lq, ws, pile, oil, rfl, upd_same, ho _ _ hc, ho _ _ hq, fun lp ld H1 hlp hld hM keep => ⟨rfl, ?_⟩⟩
  have S1 : Same H H1 := fun b o e => keep b o (np b o e) (ho b o e)
  have hlp0 : H lp = none := by
    cases e : H lp with
    | none => rfl
    | some o => rw [ho _ _ e] at hlp; cases hlp
  have hld0 : H ld = none := by
    cases e : H ld with
    | none => rfl
    | some o => rw [ho _ _ e] at hld; cases hld
  refine ⟨WRan T.c_Machine H lc lq p lp ld oil ws cs f, ⟨n, pile, [], 0, oil, rfl, S1, hM, hC.mono S1.tup, hrun⟩, ?_⟩
  rintro m σ H2 ⟨pile2, said2, k, l, rfl, S2, hM2, hC2, hr2⟩
  obtain ⟨dx2, fs2, e2, hf2⟩ := hM2.ob
  have hk := mrun_le hr2
  refine ⟨_, rfl, p, dx2, fs2, rfl, e2, (hf2.at_ _).trans (mfl_no (by decide +kernel)), p, lc, lp, ld, ws, pile2, k, l, said2, cs, rfl, hM2, hC2, hk, rfl, _, rfl, ?_⟩
  have out : endV cs k l = .str (finW f) → said2 = f.said → pile2 = f.pile → l = f.left → tRet (tTup (tCons (tMeth T.c_Machine "ending" (spEnding T.c_Machine) [] E0 (tVar 3) tNil) (tCons (tFld K (tVar 3) "said") (tCons (tFld K (tVar 3) "pile") (tCons (tOp (rI0 fun i j => V.int (i - j)) (tVar 2) (tFld K (tVar 3) "left")) tNil)))))
      { nx := fun _ H' => Q V.non H', rt := Q } [some (.ref lc), some (.ref lq), some (.int (oil : Int)), some (.ref p)] H2 := fun ee e3 e4 e5 => by
    subst e3 e4 e5
    refine ⟨_, rfl, p, dx2, fs2, rfl, e2, (hf2.at_ _).trans (mfl_no (by decide +kernel)), p, lc, lp, ld, ws, f.pile, k, f.left, f.said, cs, rfl, hM2, hC2, hk, ?_⟩
    refine ⟨_, rfl, p, T.c_Machine, dx2, fs2, _, rfl, e2, T.cl_Machine, T.na_Machine_said, (hf2.at_ _).trans (mfl_said ..), _, rfl, p, T.c_Machine, dx2, fs2, _, rfl, e2, T.cl_Machine, T.na_Machine_pile, (hf2.at_ _).trans (mfl_pile ..), _, rfl, _, rfl, p, T.c_Machine, dx2, fs2, _, rfl, e2, T.cl_Machine, T.na_Machine_left, (hf2.at_ _).trans (mfl_left ..), _, _, rfl, rfl, four, fun r hr3 => ?_⟩
    rw [ee]
    have S3 := same_new hr3 (.tup [.str (finW f), .ref ld, .ref lp, .int ((oil : Int) - (f.left : Int))])
    exact q r ld lp _ (S2.trans S3) upd_same (S3 _ _ hM2.es) (S3 _ _ hM2.ep)
  cases hr2 with
  | done =>
    have ee : endV cs cs.length l = .str "done" := if_pos rfl
    rw [ee]
    exact iteF' (by simp) (out ee rfl rfl rfl)
  | @dry _ c _ _ e ho2 =>
    have hlt := (List.getElem?_eq_some_iff.mp e).1
    have ee : endV cs k 0 = .str "dry" := by
      unfold endV
      rw [if_neg (by omega), e]
      exact if_pos ⟨rfl, ho2⟩
    rw [ee]
    exact iteF' (by simp) (out ee rfl rfl rfl)
  | @step m' _ k' _ p' _ l' _ s' _ st hb1 hb2 r2 =>
    obtain ⟨c, e, hno⟩ := st.lt
    have hlt := (List.getElem?_eq_some_iff.mp e).1
    have ee : endV cs k l = .non := by
      unfold endV
      rw [if_neg (by omega), e]
      exact if_neg (fun z => by rw [hno z.1] at z; exact nomatch z.2)
    rw [ee]
    refine iteT' (by simp) ?_
    refine ⟨fun σ' H'' => ∃ m2, m2 < m' + 1 ∧ WRan T.c_Machine H lc lq p lp ld oil ws cs f m2 σ' H'', fun _ _ z => z, ?_⟩
    have hl := st.len
    refine ⟨_, rfl, p, dx2, fs2, rfl, e2, (hf2.at_ _).trans (mfl_no (by decide +kernel)), p, lc, lp, ld, ws, pile2, p', k, k', l, l', said2, s', cs, rfl, hM2, hC2, st, hb1, hb2, fun H3 hM3 M3 => ?_⟩
    refine ⟨m', Nat.lt_succ_self _, p', s', k', l', rfl, fun b o eb => ?_, hM3, hM2.cdsOut M3 hC2, r2⟩
    exact M3 b o (ne_of_none eb hp) (ne_of_none eb hlp0) (ne_of_none eb hld0) (S2 b o eb)
end
end W08

set_option Elab.async false
set_option linter.all false
set_option maxRecDepth 100000
set_option maxHeartbeats 4000000
namespace W08
open PySem L2 J
section
variable {P : Program} {w : World} {K : PySem.W.Frag} {mg : Str → Option Value} {base : Heap}
/-! ### where the machine jams -/
def spTakenJ (C X : Addr) : Sp := fun vs H _ E => ∃ (p lc lp ld : Addr) (ws : List V) (left place : Int) (said : List Int), vs = [.ref p] ∧ MachAt C H p lc lp ld ws [] left place said ∧ E (.ref X) none H
theorem ok_takenJ (T : Txt K mg) : FnOk P w K mg base (CX1 P w) 1 T.f_Machine_taken_off T.fd_Machine_taken_off ["self"] (spTakenJ T.c_Machine T.er.cJam) := by
  refine T.Machine_taken_off.F.okX sc_Machine_taken_off (fun vs H Q E h => ?_) (fun cdv A outer s H vs Q E hr h => ?_)
  · obtain ⟨p, lc, lp, ld, ws, left, place, said, rfl, _⟩ := h; rfl
  obtain ⟨p, lc, lp, ld, ws, left, place, said, rfl, hM, hE⟩ := h
  refine ⟨_, (pss_cons (ps_if (pt_not (pt_truth (pe_fld (pv 0) rfl) (by intro _; rfl))) (pss_one (ps_raise cx_lands rfl rfl T.er.mJam T.er.qJam F.excBase_ValueError (by decide) F.excBase_ValueError (pa_cons pe_str pa_nil))) pss_nil)
    (pss_one (ps_ret (pe_bm0 PySem.F.plainAttrs_list PySem.F.slot_list_pop PySem.F.type_list_pop mt_pop (pe_fld (pv 0) rfl))))), ?_⟩
  try dsimp only [kx, kxb]
  obtain ⟨dx, fs, e, hf⟩ := hM.ob
  refine ⟨_, rfl, p, T.c_Machine, dx, fs, _, rfl, e, T.cl_Machine, T.na_Machine_pile, (hf.at_ _).trans (mfl_pile ..), false, .inl ⟨_, SqL.of hM.ep, by simp⟩, iteT' rfl ?_⟩
  exact ⟨(by show 1 ≤ sizeLine; decide), hE⟩
def spPlaceJ (C X : Addr) : Sp := fun vs H _ E => ∃ (p lc lp ld : Addr) (ws : List V) (pile : List Int) (left place : Int) (said : List Int) (j : Int), vs = [.ref p, .int j] ∧ MachAt C H p lc lp ld ws pile left place said ∧ ¬ (0 ≤ j ∧ j < (pile.length : Int)) ∧ E (.ref X) none H
theorem ok_placeJ (T : Txt K mg) : FnOk P w K mg base (CX1 P w) 1 T.f_Machine_place_on_pile T.fd_Machine_place_on_pile ["self", "place"] (spPlaceJ T.c_Machine T.er.cJam) := by
  refine T.Machine_place_on_pile.F.okX sc_Machine_place_on_pile (fun vs H Q E h => ?_) (fun cdv A outer s H vs Q E hr h => ?_)
  · obtain ⟨p, lc, lp, ld, ws, pile, left, place, said, j, rfl, _⟩ := h; rfl
  obtain ⟨p, lc, lp, ld, ws, pile, left, place, said, j, rfl, hM, hj, hE⟩ := h
  refine ⟨_, (pss_cons (ps_if (PW.pt (pw_or (pt_cmpR op_lt (pv 1) pe_int (nomark _)) (pw_or1 (pt_cmpR op_ge (pv 1) (pe_callB call_len_seq rfl T.b_len PySem.boot_len (pa_cons (pe_fld (pv 0) rfl) pa_nil)) (nomark _))))) (pss_one (ps_raise cx_lands rfl rfl T.er.mJam T.er.qJam F.excBase_ValueError (by decide) F.excBase_ValueError (pa_cons pe_str pa_nil))) pss_nil)
    (pss_one (ps_ret (pv 1)))), ?_⟩
  try dsimp only [kx, kxb]
  obtain ⟨dx, fs, e, hf⟩ := hM.ob
  have one : (1 : Nat) ≤ sizeLine := by decide
  refine ⟨_, rfl, _, _, rfl, rfl, _, rfl, ?_⟩
  by_cases h0 : j < 0
  · exact iteT' (decide_eq_true h0) (iteT ⟨one, hE⟩)
  refine iteF' (decide_eq_false h0) ?_
  refine ⟨_, rfl, _, rfl, p, T.c_Machine, dx, fs, _, rfl, e, T.cl_Machine, T.na_Machine_pile, (hf.at_ _).trans (mfl_pile ..), _, _, rfl, .inl (SqL.of hM.ep), _, _, rfl, rfl, _, rfl, iteT' (decide_eq_true (by rw [List.length_map]; omega)) ?_⟩
  exact ⟨one, hE⟩
def spLeaveJ (C X : Addr) : Sp := fun vs H _ E => ∃ (p lc lp ld : Addr) (ws : List V) (pile : List Int) (left : Int) (k : Nat) (n : Int) (said : List Int), vs = [.ref p, .int n] ∧ MachAt C H p lc lp ld ws pile left (k : Int) said ∧ ¬ (0 ≤ n ∧ (k : Int) + n ≤ (ws.length : Int)) ∧ E (.ref X) none H
theorem ok_leaveJ (T : Txt K mg) : FnOk P w K mg base (CX1 P w) 1 T.f_Machine_leave_out T.fd_Machine_leave_out ["self", "count"] (spLeaveJ T.c_Machine T.er.cJam) := by
  refine T.Machine_leave_out.F.okX sc_Machine_leave_out (fun vs H Q E h => ?_) (fun cdv A outer s H vs Q E hr h => ?_)
  · obtain ⟨p, lc, lp, ld, ws, pile, left, k, n, said, rfl, _⟩ := h; rfl
  obtain ⟨p, lc, lp, ld, ws, pile, left, k, n, said, rfl, hM, hn, hE⟩ := h
  refine ⟨_, (pss_cons (ps_if (PW.pt (pw_or (pt_cmpR op_lt (pv 1) pe_int (nomark _)) (pw_or1 (pt_cmpR op_gt (pv 1) (pe_op op_sub (pe_callB call_len_seq rfl T.b_len PySem.boot_len (pa_cons (pe_fld (pv 0) rfl) pa_nil)) (pe_fld (pv 0) rfl)) (nomark _))))) (pss_one (ps_raise cx_lands rfl rfl T.er.mJam T.er.qJam F.excBase_ValueError (by decide) F.excBase_ValueError (pa_cons pe_str pa_nil))) pss_nil)
    (pss_one (ps_fldaug (pv 0) (pv 1) in_add))), ?_⟩
  try dsimp only [kx, kxb]
  obtain ⟨dx, fs, e, hf⟩ := hM.ob
  have one : (1 : Nat) ≤ sizeLine := by decide
  refine ⟨_, rfl, _, _, rfl, rfl, _, rfl, ?_⟩
  by_cases h0 : n < 0
  · exact iteT' (decide_eq_true h0) (iteT ⟨one, hE⟩)
  refine iteF' (decide_eq_false h0) ?_
  refine ⟨_, rfl, _, rfl, p, T.c_Machine, dx, fs, _, rfl, e, T.cl_Machine, T.na_Machine_cards, (hf.at_ _).trans (mfl_cards ..), _, _, rfl, .inl (SqL.of hM.ec), _, rfl, p, T.c_Machine, dx, fs, _, rfl, e, T.cl_Machine, T.na_Machine_place, (hf.at_ _).trans (mfl_place ..), _, _, rfl, rfl, _, _, rfl, rfl, _, rfl, iteT' (decide_eq_true (by omega)) ?_⟩
  exact ⟨one, hE⟩
def spGoBackJ (C X : Addr) : Sp := fun vs H _ E => ∃ (p lc lp ld : Addr) (ws : List V) (pile : List Int) (left : Int) (k : Nat) (n : Int) (said : List Int), vs = [.ref p, .int n] ∧ MachAt C H p lc lp ld ws pile left ((k + 1 : Nat) : Int) said ∧ ¬ (0 ≤ n ∧ n ≤ (k : Int)) ∧ E (.ref X) none H
theorem ok_goBackJ (T : Txt K mg) : FnOk P w K mg base (CX1 P w) 1 T.f_Machine_go_back T.fd_Machine_go_back ["self", "count"] (spGoBackJ T.c_Machine T.er.cJam) := by
  refine T.Machine_go_back.F.okX sc_Machine_go_back (fun vs H Q E h => ?_) (fun cdv A outer s H vs Q E hr h => ?_)
  · obtain ⟨p, lc, lp, ld, ws, pile, left, k, n, said, rfl, _⟩ := h; rfl
  obtain ⟨p, lc, lp, ld, ws, pile, left, k, n, said, rfl, hM, hn, hE⟩ := h
  refine ⟨_, (pss_cons (ps_if (PW.pt (pw_or (pt_cmpR op_lt (pv 1) pe_int (nomark _)) (pw_or1 (pt_cmpR op_gt (pv 1) (pe_op op_sub (pe_fld (pv 0) rfl) pe_int) (nomark _))))) (pss_one (ps_raise cx_lands rfl rfl T.er.mJam T.er.qJam F.excBase_ValueError (by decide) F.excBase_ValueError (pa_cons pe_str pa_nil))) pss_nil)
    (pss_one (ps_fldaug (pv 0) (pe_op op_add (pv 1) pe_int) in_sub))), ?_⟩
  try dsimp only [kx, kxb]
  obtain ⟨dx, fs, e, hf⟩ := hM.ob
  have one : (1 : Nat) ≤ sizeLine := by decide
  refine ⟨_, rfl, _, _, rfl, rfl, _, rfl, ?_⟩
  by_cases h0 : n < 0
  · exact iteT' (decide_eq_true h0) (iteT ⟨one, hE⟩)
  refine iteF' (decide_eq_false h0) ?_
  refine ⟨_, rfl, _, rfl, p, T.c_Machine, dx, fs, _, rfl, e, T.cl_Machine, T.na_Machine_place, (hf.at_ _).trans (mfl_place ..), _, _, rfl, rfl, _, _, rfl, rfl, _, rfl, iteT' (decide_eq_true (by omega)) ?_⟩
  exact ⟨one, hE⟩
def spOnPileJ (C X : Addr) : Sp := fun vs H _ E => ∃ (p lc lp ld : Addr) (ws : List V) (pile : List Int) (left place : Int) (said : List Int) (a : Addr) (c : Cd), vs = [.ref p, .ref a] ∧ MachAt C H p lc lp ld ws pile left place said ∧ H a = some (.tup c.vs) ∧ Jm c pile ∧ ∀ H', MOut p lp ld H H' → E (.ref X) none H'
theorem ok_onPileJ (T : Txt K mg) : FnOk P w K mg base (CX1 P w) 3 T.f_Machine_do_on_pile T.fd_Machine_do_on_pile ["self", "card"] (spOnPileJ T.c_Machine T.er.cJam) := by
  have G_Machine_taken_off := ((ok_Machine_taken_off (P := P) (w := w) (base := base) T).or (ok_takenJ T)).mono (show 1 ≤ 2 by omega)
  have G_Machine_place_on_pile := ((ok_Machine_place_on_pile (P := P) (w := w) (base := base) T).or (ok_placeJ T)).mono (show 1 ≤ 2 by omega)
  have G_one_where := (ok_one_where (P := P) (w := w) (base := base) T).mono (show 1 ≤ 2 by omega)
  have G_made_of_two := ok_made_of_two (P := P) (w := w) (base := base) T
  refine T.Machine_do_on_pile.F.okX sc_Machine_do_on_pile (fun vs H Q E h => ?_) (fun cdv A outer s H vs Q E hr h => ?_)
  · obtain ⟨p, lc, lp, ld, ws, pile, left, place, said, a, c, rfl, _⟩ := h; rfl
  obtain ⟨p, lc, lp, ld, ws, pile, left, place, said, a, c, rfl, hM, ha, hj, hE⟩ := h
  refine ⟨_, (pss_cons (ps_set (i := 2) sc_Machine_do_on_pile.nd rfl (Or.inl rfl) (pe_ix ix_tup (pv 1) pe_int (fun _ _ => rfl)))
    (pss_one (ps_if (pt_cmpR op_eq (pv 2) pe_str (nomark _)) (pss_one (ps_expr (pe_bm PySem.F.plainAttrs_list PySem.F.slot_list_append PySem.F.type_list_append mt_append (pe_fld (pv 0) rfl) (pa_cons (pe_ix ix_tup (pv 1) pe_int (fun _ _ => rfl)) pa_nil)))) (pss_one (ps_if (pt_cmpR op_eq (pv 2) pe_str (nomark _)) (pss_one (ps_expr (pe_bm PySem.F.plainAttrs_list PySem.F.slot_list_append PySem.F.type_list_append mt_append (pe_fld (pv 0) rfl) (pa_cons (pe_ix ix_list (pe_fld (pv 0) rfl) (pe_meth (pv 0) T.cl_Machine T.me_Machine_place_on_pile G_Machine_place_on_pile hr T.Machine_place_on_pile.b .nil cx_pass (pa_cons (pe_ix ix_tup (pv 1) pe_int (fun _ _ => rfl)) pa_nil)) (fun _ _ => rfl)) pa_nil)))) (pss_one (ps_if (pt_cmpR op_eq (pv 2) pe_str (nomark _)) (pss_cons (ps_set (i := 3) sc_Machine_do_on_pile.nd rfl (Or.inl rfl) (pe_meth0 (pv 0) T.cl_Machine T.me_Machine_taken_off G_Machine_taken_off hr T.Machine_taken_off.b .nil cx_pass))
    (pss_one (ps_asg (pv 3) (pg_sub (pe_fld (pv 0) rfl) (pe_meth (pv 0) T.cl_Machine T.me_Machine_place_on_pile G_Machine_place_on_pile hr T.Machine_place_on_pile.b .nil cx_pass (pa_cons (pe_ix ix_tup (pv 1) pe_int (fun _ _ => rfl)) pa_nil)) set_list)))) (pss_one (ps_if (pt_cmpR op_eq (pv 2) pe_str (nomark _)) (pss_one (ps_expr (pe_meth0 (pv 0) T.cl_Machine T.me_Machine_taken_off G_Machine_taken_off hr T.Machine_taken_off.b .nil cx_pass))) (pss_one (ps_if (pt_cmpR op_eq (pv 2) pe_str (nomark _)) (pss_one (ps_expr (pe_bm PySem.F.plainAttrs_list PySem.F.slot_list_append PySem.F.type_list_append mt_append (pe_fld (pv 0) rfl) (pa_cons (pe_meth0 (pv 0) T.cl_Machine T.me_Machine_taken_off G_Machine_taken_off hr T.Machine_taken_off.b .nil cx_pass) pa_nil)))) (pss_one (ps_if (pt_cmpR op_eq (pv 2) pe_str (nomark _)) (pss_one (ps_expr (pe_bm PySem.F.plainAttrs_list PySem.F.slot_list_append PySem.F.type_list_append mt_append (pe_fld (pv 0) rfl) (pa_cons (pe_call G_one_where hr rfl T.one_where.m T.one_where.F.kp T.one_where.b .nil pass0 (pa_cons (pe_cmpR op_eq (pe_meth0 (pv 0) T.cl_Machine T.me_Machine_taken_off G_Machine_taken_off hr T.Machine_taken_off.b .nil cx_pass) pe_int (nomark _)) pa_nil)) pa_nil)))) (pss_cons (ps_set (i := 4) sc_Machine_do_on_pile.nd rfl (Or.inl rfl) (pe_meth0 (pv 0) T.cl_Machine T.me_Machine_taken_off G_Machine_taken_off hr T.Machine_taken_off.b .nil cx_pass))
    (pss_cons (ps_set (i := 5) sc_Machine_do_on_pile.nd rfl (Or.inl rfl) (pe_meth0 (pv 0) T.cl_Machine T.me_Machine_taken_off G_Machine_taken_off hr T.Machine_taken_off.b .nil cx_pass))
    (pss_one (ps_expr (pe_bm PySem.F.plainAttrs_list PySem.F.slot_list_append PySem.F.type_list_append mt_append (pe_fld (pv 0) rfl) (pa_cons (pe_call G_made_of_two hr rfl T.made_of_two.m T.made_of_two.F.kp T.made_of_two.b .nil pass0 (pa_cons (pv 2) (pa_cons (pv 5) (pa_cons (pv 4) pa_nil)))) pa_nil))))))))))))))))))), ?_⟩
  try dsimp only [kx, kxb]
  obtain ⟨dx, fs, e, hf⟩ := hM.ob
  have E0 := hE H (MOut.refl p lp ld H)
  have tf : ∀ {H' : Hp} {xs : List V}, MOut p lp ld H H' → H a = some (.tup xs) → H' a = some (.tup xs) := fun {H'} {xs} M h => M a _ (ne_of h e (fun z => by cases z)) (ne_of h hM.ep (fun z => by cases z)) (ne_of h hM.es (fun z => by cases z)) h
  cases hj with
  | @load k _ hk =>
    have f : SqT K H a [.str "load", .int k] := SqT.of ha
    refine ⟨_, rfl, _, _, _, _, rfl, rfl, f, at0, ?_⟩
    refine ⟨_, rfl, rfl, _, rfl, iteF' (by decide +kernel) ?_⟩
    refine ⟨_, rfl, rfl, _, rfl, iteT' (by decide +kernel) ?_⟩
    refine ⟨_, rfl, p, T.c_Machine, dx, fs, _, rfl, e, T.cl_Machine, T.na_Machine_pile, (hf.at_ _).trans (mfl_pile ..), .inl ⟨rfl, _, SqL.of hM.ep⟩, _, rfl, p, T.c_Machine, dx, fs, _, rfl, e, T.cl_Machine, T.na_Machine_pile, (hf.at_ _).trans (mfl_pile ..), _, rfl, p, dx, fs, rfl, e, (hf.at_ _).trans (mfl_no (by decide +kernel)), _, rfl, _, _, _, _, rfl, rfl, f, rfl, ?_⟩
    exact .inr ⟨p, lc, lp, ld, ws, pile, left, place, said, k, rfl, hM, hk, E0⟩
  | @store0 k =>
    have f : SqT K H a [.str "store", .int k] := SqT.of ha
    refine ⟨_, rfl, _, _, _, _, rfl, rfl, f, at0, ?_⟩
    refine ⟨_, rfl, rfl, _, rfl, iteF' (by decide +kernel) ?_⟩
    refine ⟨_, rfl, rfl, _, rfl, iteF' (by decide +kernel) ?_⟩
    refine ⟨_, rfl, rfl, _, rfl, iteT' (by decide +kernel) ?_⟩
    exact ⟨_, rfl, p, dx, fs, rfl, e, (hf.at_ _).trans (mfl_no (by decide +kernel)), .inr ⟨p, lc, lp, ld, ws, left, place, said, rfl, hM, E0⟩⟩
  | @store k i p0 hk =>
    have f : SqT K H a [.str "store", .int k] := SqT.of ha
    refine ⟨_, rfl, _, _, _, _, rfl, rfl, f, at0, ?_⟩
    refine ⟨_, rfl, rfl, _, rfl, iteF' (by decide +kernel) ?_⟩
    refine ⟨_, rfl, rfl, _, rfl, iteF' (by decide +kernel) ?_⟩
    refine ⟨_, rfl, rfl, _, rfl, iteT' (by decide +kernel) ?_⟩
    refine ⟨_, rfl, p, dx, fs, rfl, e, (hf.at_ _).trans (mfl_no (by decide +kernel)), .inl ⟨p, lc, lp, ld, ws, p0, i, left, place, said, rfl, hM, fun H1 hM1 M1 => ?_⟩⟩
    obtain ⟨dx1, fs1, e1, hf1⟩ := hM1.ob
    have f1 : SqT K H1 a [.str "store", .int k] := SqT.of (tf M1 ha)
    refine ⟨_, rfl, _, rfl, p, T.c_Machine, dx1, fs1, _, rfl, e1, T.cl_Machine, T.na_Machine_pile, (hf1.at_ _).trans (mfl_pile ..), _, rfl, p, dx1, fs1, rfl, e1, (hf1.at_ _).trans (mfl_no (by decide +kernel)), _, rfl, _, _, _, _, rfl, rfl, f1, rfl, ?_⟩
    exact .inr ⟨p, lc, lp, ld, ws, p0, left, place, said, k, rfl, hM1, hk, hE H1 M1⟩
  | drop =>
    have f : SqT K H a [.str "drop"] := SqT.of ha
    refine ⟨_, rfl, _, _, _, _, rfl, rfl, f, at0, ?_⟩
    refine ⟨_, rfl, rfl, _, rfl, iteF' (by decide +kernel) ?_⟩
    refine ⟨_, rfl, rfl, _, rfl, iteF' (by decide +kernel) ?_⟩
    refine ⟨_, rfl, rfl, _, rfl, iteF' (by decide +kernel) ?_⟩
    refine ⟨_, rfl, rfl, _, rfl, iteT' (by decide +kernel) ?_⟩
    exact ⟨_, rfl, p, dx, fs, rfl, e, (hf.at_ _).trans (mfl_no (by decide +kernel)), .inr ⟨p, lc, lp, ld, ws, left, place, said, rfl, hM, E0⟩⟩
  | say =>
    have f : SqT K H a [.str "say"] := SqT.of ha
    refine ⟨_, rfl, _, _, _, _, rfl, rfl, f, at0, ?_⟩
    refine ⟨_, rfl, rfl, _, rfl, iteF' (by decide +kernel) ?_⟩
    refine ⟨_, rfl, rfl, _, rfl, iteF' (by decide +kernel) ?_⟩
    refine ⟨_, rfl, rfl, _, rfl, iteF' (by decide +kernel) ?_⟩
    refine ⟨_, rfl, rfl, _, rfl, iteF' (by decide +kernel) ?_⟩
    refine ⟨_, rfl, rfl, _, rfl, iteT' (by decide +kernel) ?_⟩
    exact ⟨_, rfl, p, T.c_Machine, dx, fs, _, rfl, e, T.cl_Machine, T.na_Machine_said, (hf.at_ _).trans (mfl_said ..), .inl ⟨rfl, _, SqL.of hM.es⟩, _, rfl, p, dx, fs, rfl, e, (hf.at_ _).trans (mfl_no (by decide +kernel)), .inr ⟨p, lc, lp, ld, ws, left, place, said, rfl, hM, E0⟩⟩
  | flip =>
    have f : SqT K H a [.str "flip"] := SqT.of ha
    refine ⟨_, rfl, _, _, _, _, rfl, rfl, f, at0, ?_⟩
    refine ⟨_, rfl, rfl, _, rfl, iteF' (by decide +kernel) ?_⟩
    refine ⟨_, rfl, rfl, _, rfl, iteF' (by decide +kernel) ?_⟩
    refine ⟨_, rfl, rfl, _, rfl, iteF' (by decide +kernel) ?_⟩
    refine ⟨_, rfl, rfl, _, rfl, iteF' (by decide +kernel) ?_⟩
    refine ⟨_, rfl, rfl, _, rfl, iteF' (by decide +kernel) ?_⟩
    refine ⟨_, rfl, rfl, _, rfl, iteT' (by decide +kernel) ?_⟩
    exact ⟨_, rfl, p, T.c_Machine, dx, fs, _, rfl, e, T.cl_Machine, T.na_Machine_pile, (hf.at_ _).trans (mfl_pile ..), .inl ⟨rfl, _, SqL.of hM.ep⟩, _, rfl, p, dx, fs, rfl, e, (hf.at_ _).trans (mfl_no (by decide +kernel)), .inr ⟨p, lc, lp, ld, ws, left, place, said, rfl, hM, E0⟩⟩
  | @op0 o =>
    have f : SqT K H a [.str o.w] := SqT.of ha
    refine ⟨_, rfl, _, _, _, _, rfl, rfl, f, at0, ?_⟩
    refine ⟨_, rfl, rfl, _, rfl, iteF' (by cases o <;> decide +kernel) ?_⟩
    refine ⟨_, rfl, rfl, _, rfl, iteF' (by cases o <;> decide +kernel) ?_⟩
    refine ⟨_, rfl, rfl, _, rfl, iteF' (by cases o <;> decide +kernel) ?_⟩
    refine ⟨_, rfl, rfl, _, rfl, iteF' (by cases o <;> decide +kernel) ?_⟩
    refine ⟨_, rfl, rfl, _, rfl, iteF' (by cases o <;> decide +kernel) ?_⟩
    refine ⟨_, rfl, rfl, _, rfl, iteF' (by cases o <;> decide +kernel) ?_⟩
    exact ⟨_, rfl, p, dx, fs, rfl, e, (hf.at_ _).trans (mfl_no (by decide +kernel)), .inr ⟨p, lc, lp, ld, ws, left, place, said, rfl, hM, E0⟩⟩
  | @op1 o i =>
    have f : SqT K H a [.str o.w] := SqT.of ha
    refine ⟨_, rfl, _, _, _, _, rfl, rfl, f, at0, ?_⟩
    refine ⟨_, rfl, rfl, _, rfl, iteF' (by cases o <;> decide +kernel) ?_⟩
    refine ⟨_, rfl, rfl, _, rfl, iteF' (by cases o <;> decide +kernel) ?_⟩
    refine ⟨_, rfl, rfl, _, rfl, iteF' (by cases o <;> decide +kernel) ?_⟩
    refine ⟨_, rfl, rfl, _, rfl, iteF' (by cases o <;> decide +kernel) ?_⟩
    refine ⟨_, rfl, rfl, _, rfl, iteF' (by cases o <;> decide +kernel) ?_⟩
    refine ⟨_, rfl, rfl, _, rfl, iteF' (by cases o <;> decide +kernel) ?_⟩
    refine ⟨_, rfl, p, dx, fs, rfl, e, (hf.at_ _).trans (mfl_no (by decide +kernel)), .inl ⟨p, lc, lp, ld, ws, [], i, left, place, said, rfl, hM, fun H1 hM1 M1 => ?_⟩⟩
    obtain ⟨dx1, fs1, e1, hf1⟩ := hM1.ob
    exact ⟨_, rfl, p, dx1, fs1, rfl, e1, (hf1.at_ _).trans (mfl_no (by decide +kernel)), .inr ⟨p, lc, lp, ld, ws, left, place, said, rfl, hM1, hE H1 M1⟩⟩
  | less0 =>
    have f : SqT K H a [.str "less"] := SqT.of ha
    refine ⟨_, rfl, _, _, _, _, rfl, rfl, f, at0, ?_⟩
    refine ⟨_, rfl, rfl, _, rfl, iteF' (by decide +kernel) ?_⟩
    refine ⟨_, rfl, rfl, _, rfl, iteF' (by decide +kernel) ?_⟩
    refine ⟨_, rfl, rfl, _, rfl, iteF' (by decide +kernel) ?_⟩
    refine ⟨_, rfl, rfl, _, rfl, iteF' (by decide +kernel) ?_⟩
    refine ⟨_, rfl, rfl, _, rfl, iteF' (by decide +kernel) ?_⟩
    refine ⟨_, rfl, rfl, _, rfl, iteF' (by decide +kernel) ?_⟩
    exact ⟨_, rfl, p, dx, fs, rfl, e, (hf.at_ _).trans (mfl_no (by decide +kernel)), .inr ⟨p, lc, lp, ld, ws, left, place, said, rfl, hM, E0⟩⟩
  | @less1 i =>
    have f : SqT K H a [.str "less"] := SqT.of ha
    refine ⟨_, rfl, _, _, _, _, rfl, rfl, f, at0, ?_⟩
    refine ⟨_, rfl, rfl, _, rfl, iteF' (by decide +kernel) ?_⟩
    refine ⟨_, rfl, rfl, _, rfl, iteF' (by decide +kernel) ?_⟩
    refine ⟨_, rfl, rfl, _, rfl, iteF' (by decide +kernel) ?_⟩
    refine ⟨_, rfl, rfl, _, rfl, iteF' (by decide +kernel) ?_⟩
    refine ⟨_, rfl, rfl, _, rfl, iteF' (by decide +kernel) ?_⟩
    refine ⟨_, rfl, rfl, _, rfl, iteF' (by decide +kernel) ?_⟩
    refine ⟨_, rfl, p, dx, fs, rfl, e, (hf.at_ _).trans (mfl_no (by decide +kernel)), .inl ⟨p, lc, lp, ld, ws, [], i, left, place, said, rfl, hM, fun H1 hM1 M1 => ?_⟩⟩
    obtain ⟨dx1, fs1, e1, hf1⟩ := hM1.ob
    exact ⟨_, rfl, p, dx1, fs1, rfl, e1, (hf1.at_ _).trans (mfl_no (by decide +kernel)), .inr ⟨p, lc, lp, ld, ws, left, place, said, rfl, hM1, hE H1 M1⟩⟩
  | same0 =>
    have f : SqT K H a [.str "same"] := SqT.of ha
    refine ⟨_, rfl, _, _, _, _, rfl, rfl, f, at0, ?_⟩
    refine ⟨_, rfl, rfl, _, rfl, iteF' (by decide +kernel) ?_⟩
    refine ⟨_, rfl, rfl, _, rfl, iteF' (by decide +kernel) ?_⟩
    refine ⟨_, rfl, rfl, _, rfl, iteF' (by decide +kernel) ?_⟩
    refine ⟨_, rfl, rfl, _, rfl, iteF' (by decide +kernel) ?_⟩
    refine ⟨_, rfl, rfl, _, rfl, iteF' (by decide +kernel) ?_⟩
    refine ⟨_, rfl, rfl, _, rfl, iteF' (by decide +kernel) ?_⟩
    exact ⟨_, rfl, p, dx, fs, rfl, e, (hf.at_ _).trans (mfl_no (by decide +kernel)), .inr ⟨p, lc, lp, ld, ws, left, place, said, rfl, hM, E0⟩⟩
  | @same1 i =>
    have f : SqT K H a [.str "same"] := SqT.of ha
    refine ⟨_, rfl, _, _, _, _, rfl, rfl, f, at0, ?_⟩
    refine ⟨_, rfl, rfl, _, rfl, iteF' (by decide +kernel) ?_⟩
    refine ⟨_, rfl, rfl, _, rfl, iteF' (by decide +kernel) ?_⟩
    refine ⟨_, rfl, rfl, _, rfl, iteF' (by decide +kernel) ?_⟩
    refine ⟨_, rfl, rfl, _, rfl, iteF' (by decide +kernel) ?_⟩
    refine ⟨_, rfl, rfl, _, rfl, iteF' (by decide +kernel) ?_⟩
    refine ⟨_, rfl, rfl, _, rfl, iteF' (by decide +kernel) ?_⟩
    refine ⟨_, rfl, p, dx, fs, rfl, e, (hf.at_ _).trans (mfl_no (by decide +kernel)), .inl ⟨p, lc, lp, ld, ws, [], i, left, place, said, rfl, hM, fun H1 hM1 M1 => ?_⟩⟩
    obtain ⟨dx1, fs1, e1, hf1⟩ := hM1.ob
    exact ⟨_, rfl, p, dx1, fs1, rfl, e1, (hf1.at_ _).trans (mfl_no (by decide +kernel)), .inr ⟨p, lc, lp, ld, ws, left, place, said, rfl, hM1, hE H1 M1⟩⟩
def spDoCardJ (C X : Addr) : Sp := fun vs H _ E => ∃ (p lc lp ld : Addr) (ws : List V) (pile : List Int) (k l : Nat) (said : List Int) (cs : List Cd), vs = [.ref p] ∧ MachAt C H p lc lp ld ws pile (l : Int) (k : Int) said ∧ Cds H ws cs ∧ JStp cs k pile l ∧ ∀ H', MOut p lp ld H H' → E (.ref X) none H'
theorem ok_doCardJ (T : Txt K mg) : FnOk P w K mg base (CX1 P w) 4 T.f_Machine_do_card T.fd_Machine_do_card ["self"] (spDoCardJ T.c_Machine T.er.cJam) := by
  have G_Machine_taken_off := ((ok_Machine_taken_off (P := P) (w := w) (base := base) T).or (ok_takenJ T)).mono (show 1 ≤ 3 by omega)
  have G_Machine_leave_out := ((ok_Machine_leave_out (P := P) (w := w) (base := base) T).or (ok_leaveJ T)).mono (show 1 ≤ 3 by omega)
  have G_Machine_go_back := ((ok_Machine_go_back (P := P) (w := w) (base := base) T).or (ok_goBackJ T)).mono (show 1 ≤ 3 by omega)
  have G_Machine_do_on_pile := ok_onPileJ (P := P) (w := w) (base := base) T
  refine T.Machine_do_card.F.okX sc_Machine_do_card (fun vs H Q E h => ?_) (fun cdv A outer s H vs Q E hr h => ?_)
  · obtain ⟨p, lc, lp, ld, ws, pile, k, l, said, cs, rfl, _⟩ := h; rfl
  obtain ⟨p, lc, lp, ld, ws, pile, k, l, said, cs, rfl, hM, hC, hst, hE⟩ := h
  refine ⟨_, (pss_cons (ps_set (i := 1) sc_Machine_do_card.nd rfl (Or.inl rfl) (pe_ix ix_list (pe_fld (pv 0) rfl) (pe_fld (pv 0) rfl) (fun _ _ => rfl)))
    (pss_cons (ps_fldaug (pv 0) pe_int in_add)
    (pss_cons (ps_set (i := 2) sc_Machine_do_card.nd rfl (Or.inl rfl) (pe_ix ix_tup (pv 1) pe_int (fun _ _ => rfl)))
    (pss_one (ps_if (pt_cmpR op_eq (pv 2) pe_str (nomark _)) (pss_one (ps_if (pt_cmpR op_eq (pe_meth0 (pv 0) T.cl_Machine T.me_Machine_taken_off G_Machine_taken_off hr T.Machine_taken_off.b .nil cx_pass) pe_int (nomark _)) (pss_one (ps_expr (pe_meth (pv 0) T.cl_Machine T.me_Machine_leave_out G_Machine_leave_out hr T.Machine_leave_out.b .nil cx_pass (pa_cons (pe_ix ix_tup (pv 1) pe_int (fun _ _ => rfl)) pa_nil)))) pss_nil)) (pss_one (ps_if (pt_cmpR op_eq (pv 2) pe_str (nomark _)) (pss_one (ps_expr (pe_meth (pv 0) T.cl_Machine T.me_Machine_leave_out G_Machine_leave_out hr T.Machine_leave_out.b .nil cx_pass (pa_cons (pe_ix ix_tup (pv 1) pe_int (fun _ _ => rfl)) pa_nil)))) (pss_one (ps_if (pt_cmpR op_eq (pv 2) pe_str (nomark _)) (pss_one (ps_fldaug (pv 0) pe_int in_sub)) (pss_one (ps_if (pt_cmpR op_eq (pv 2) pe_str (nomark _)) (pss_cons (ps_fldaug (pv 0) pe_int in_sub)
    (pss_one (ps_expr (pe_meth (pv 0) T.cl_Machine T.me_Machine_go_back G_Machine_go_back hr T.Machine_go_back.b .nil cx_pass (pa_cons (pe_ix ix_tup (pv 1) pe_int (fun _ _ => rfl)) pa_nil))))) (pss_one (ps_expr (pe_meth (pv 0) T.cl_Machine T.me_Machine_do_on_pile G_Machine_do_on_pile hr T.Machine_do_on_pile.b .nil cx_pass (pa_cons (pv 1) pa_nil))))))))))))))), ?_⟩
  try dsimp only [kx, kxb]
  obtain ⟨dx, fs, e, hf⟩ := hM.ob
  have hwl := hC.len
  obtain ⟨c, hck, _⟩ := hst.lt
  obtain ⟨v, hv, ca, rfl, hca⟩ := Cds.get' hC hck
  refine ⟨_, rfl, p, T.c_Machine, dx, fs, _, rfl, e, T.cl_Machine, T.na_Machine_cards, (hf.at_ _).trans (mfl_cards ..), _, rfl, p, T.c_Machine, dx, fs, _, rfl, e, T.cl_Machine, T.na_Machine_place, (hf.at_ _).trans (mfl_place ..), _, _, _, _, rfl, rfl, SqL.of hM.ec, atI_nat hv, ?_⟩
  refine ⟨_, rfl, p, T.c_Machine, dx, fs, _, rfl, e, T.cl_Machine, T.na_Machine_place, (hf.at_ _).trans (mfl_place ..), _, _, rfl, rfl, dx, fs, e, Nat.lt_of_le_of_lt hf.len (by decide), ?_⟩
  have hf2 : Has (putF "place" (.int ((k : Int) + 1)) fs) (mfl lc lp (l : Int) ((k : Int) + 1) ld) := hf.put (mfl_place ..) (mfl_putPlace _ _ _ _ _ _)
  obtain ⟨hM1, M1⟩ := hM.fld (dx := dx) hf2
  have hca1 : upd H p (.ins T.c_Machine dx (putF "place" (.int ((k : Int) + 1)) fs)) ca = some (.tup c.vs) := by rw [upd_ne (ne_of hca e (fun z => by cases z))]; exact hca
  have e1 : upd H p (.ins T.c_Machine dx (putF "place" (.int ((k : Int) + 1)) fs)) p = some (.ins T.c_Machine dx (putF "place" (.int ((k : Int) + 1)) fs)) := upd_same
  generalize upd H p (.ins T.c_Machine dx (putF "place" (.int ((k : Int) + 1)) fs)) = H1 at hM1 M1 hca1 e1
  have ek : ((k : Int) + 1) = ((k + 1 : Nat) : Int) := by omega
  rw [ek] at hM1 hf2 e1
  cases hst with
  | @pile c' _ _ e' hj =>
    cases (hck.symm.trans e')
    obtain ⟨h1, h2, h3, h4⟩ := hj.hops
    obtain ⟨rr, ev⟩ := Cd.hd c
    have hcv := hca1
    rw [ev] at hcv
    refine ⟨_, rfl, _, _, _, _, rfl, rfl, SqT.of hcv, at0, ?_⟩
    refine ⟨_, rfl, rfl, _, rfl, iteF' h1 ?_⟩
    refine ⟨_, rfl, rfl, _, rfl, iteF' h2 ?_⟩
    refine ⟨_, rfl, rfl, _, rfl, iteF' h3 ?_⟩
    refine ⟨_, rfl, rfl, _, rfl, iteF' h4 ?_⟩
    exact ⟨_, rfl, p, dx, _, rfl, e1, (hf2.at_ _).trans (mfl_no (by decide +kernel)), _, rfl, p, lc, lp, ld, ws, pile, l, _, said, ca, c, rfl, hM1, hca1, hj, fun H2 M2 => hE _ (M1.trans M2)⟩
  | @back n _ l0 e' hn =>
    cases (hck.symm.trans e')
    have f : SqT K H1 ca [.str "back", .int n] := SqT.of hca1
    refine ⟨_, rfl, _, _, _, _, rfl, rfl, f, at0, ?_⟩
    refine ⟨_, rfl, rfl, _, rfl, iteF' (by decide +kernel) ?_⟩
    refine ⟨_, rfl, rfl, _, rfl, iteF' (by decide +kernel) ?_⟩
    refine ⟨_, rfl, rfl, _, rfl, iteF' (by decide +kernel) ?_⟩
    refine ⟨_, rfl, rfl, _, rfl, iteT' (by decide +kernel) ?_⟩
    refine ⟨_, rfl, p, T.c_Machine, dx, _, _, rfl, e1, T.cl_Machine, T.na_Machine_left, (hf2.at_ _).trans (mfl_left ..), _, _, rfl, rfl, dx, _, e1, Nat.lt_of_le_of_lt hf2.len (by decide), ?_⟩
    have hf3 := hf2.put (f := "left") (v := .int (((l0 + 1 : Nat) : Int) - 1)) (m' := mfl lc lp (((l0 + 1 : Nat) : Int) - 1) _ ld) (mfl_left ..) (mfl_putLeft _ _ _ _ _ _)
    obtain ⟨hM2, M2⟩ := hM1.fld (dx := dx) hf3
    have f2 := SqT.of (K := K) ((M2 ca _ (ne_of hca1 e1 (fun z => by cases z)) (ne_of hca1 hM1.ep (fun z => by cases z)) (ne_of hca1 hM1.es (fun z => by cases z))) hca1)
    obtain ⟨dx2, fs2, e2, hf4⟩ := hM2.ob
    exact ⟨_, rfl, p, dx2, fs2, rfl, e2, (hf4.at_ _).trans (mfl_no (by decide +kernel)), _, rfl, _, _, _, _, rfl, rfl, f2, rfl, .inr ⟨p, lc, lp, ld, ws, pile, _, k, n, said, rfl, hM2, hn, hE _ (M1.trans M2)⟩⟩
  | @skip n _ _ e' hn =>
    cases (hck.symm.trans e')
    have f : SqT K H1 ca [.str "skip", .int n] := SqT.of hca1
    refine ⟨_, rfl, _, _, _, _, rfl, rfl, f, at0, ?_⟩
    refine ⟨_, rfl, rfl, _, rfl, iteF' (by decide +kernel) ?_⟩
    refine ⟨_, rfl, rfl, _, rfl, iteT' (by decide +kernel) ?_⟩
    exact ⟨_, rfl, p, dx, _, rfl, e1, (hf2.at_ _).trans (mfl_no (by decide +kernel)), _, rfl, _, _, _, _, rfl, rfl, f, rfl, .inr ⟨p, lc, lp, ld, ws, pile, _, k + 1, n, said, rfl, hM1, by rw [hwl]; omega, hE _ M1⟩⟩
  | @fork0 n _ e' =>
    cases (hck.symm.trans e')
    have f : SqT K H1 ca [.str "fork", .int n] := SqT.of hca1
    refine ⟨_, rfl, _, _, _, _, rfl, rfl, f, at0, ?_⟩
    refine ⟨_, rfl, rfl, _, rfl, iteT' (by decide +kernel) ?_⟩
    exact ⟨_, rfl, p, dx, _, rfl, e1, (hf2.at_ _).trans (mfl_no (by decide +kernel)), .inr ⟨p, lc, lp, ld, ws, _, _, said, rfl, hM1, hE _ M1⟩⟩
  | @fork n p0 _ e' hn =>
    cases (hck.symm.trans e')
    have f : SqT K H1 ca [.str "fork", .int n] := SqT.of hca1
    refine ⟨_, rfl, _, _, _, _, rfl, rfl, f, at0, ?_⟩
    refine ⟨_, rfl, rfl, _, rfl, iteT' (by decide +kernel) ?_⟩
    refine ⟨_, rfl, p, dx, _, rfl, e1, (hf2.at_ _).trans (mfl_no (by decide +kernel)), .inl ⟨p, lc, lp, ld, ws, p0, 0, _, _, said, rfl, hM1, fun H2 hM2 M2 => ?_⟩⟩
    refine ⟨rfl, _, rfl, iteT' (decide_eq_true rfl) ?_⟩
    obtain ⟨dx2, fs2, e2, hf4⟩ := hM2.ob
    have f2 := SqT.of (K := K) ((M2 ca _ (ne_of hca1 e1 (fun z => by cases z)) (ne_of hca1 hM1.ep (fun z => by cases z)) (ne_of hca1 hM1.es (fun z => by cases z))) hca1)
    exact ⟨_, rfl, p, dx2, fs2, rfl, e2, (hf4.at_ _).trans (mfl_no (by decide +kernel)), _, rfl, _, _, _, _, rfl, rfl, f2, rfl, .inr ⟨p, lc, lp, ld, ws, p0, _, k + 1, n, said, rfl, hM2, by rw [hwl]; omega, hE _ (M1.trans M2)⟩⟩
end
end W08

set_option Elab.async false
set_option linter.all false
set_option maxRecDepth 100000
set_option maxHeartbeats 4000000
namespace W08
open PySem L2 J
section
variable {P : Program} {w : World} {K : PySem.W.Frag} {mg : Str → Option Value} {base : Heap}
/-! ### ran where it jams; diary -/
def spRanJ (X : Addr) : Sp := fun vs H _ E => ∃ (lc lq : Addr) (ws : List V) (cs : List Cd) (pile : List Int) (oil n : Nat) (r : List S8), vs = [.ref lc, .ref lq, .int (oil : Int)] ∧ H lc = some (.lst ws) ∧ Cds H ws cs ∧ H lq = some (.lst (pile.map V.int)) ∧ Tr cs n ⟨0, pile, oil, []⟩ r none ∧ ∀ H', Same H H' → E (.ref X) none H'
def WRanJ (C : Addr) (H : Hp) (lc lq p lp ld : Addr) (oil : Nat) (ws : List V) (cs : List Cd) (m : Nat) (σ : St) (H' : Hp) : Prop :=
  ∃ (pile said : List Int) (k l : Nat) (r : List S8), σ = [some (.ref lc), some (.ref lq), some (.int (oil : Int)), some (.ref p)] ∧ Same H H' ∧ MachAt C H' p lc lp ld ws pile (l : Int) (k : Int) said ∧ Cds H' ws cs ∧ Tr cs m ⟨k, pile, l, said⟩ r none
theorem end_go {cs : List Cd} {k l : Nat} {c : Cd} (e : cs[k]? = some c) (hno : l = 0 → c.oil = false) : endV cs k l = .non := by
  have hlt := (List.getElem?_eq_some_iff.mp e).1
  unfold endV
  rw [if_neg (by omega), e]
  exact if_neg (fun z => by rw [hno z.1] at z; exact nomatch z.2)
theorem ok_ranJ (T : Txt K mg) : FnOk P w K mg base (CX1 P w) 6 T.f_ran T.fd_ran ["cards", "pile", "oil"] (spRanJ T.er.cJam) := by
  have G_Machine_init := (ok_Machine_init (P := P) (w := w) (base := base) T).mono (show 1 ≤ 4 by omega)
  have G_Machine_ending := (ok_Machine_ending (P := P) (w := w) (base := base) T).mono (show 1 ≤ 5 by omega)
  have G_Machine_do_card := ((ok_Machine_do_card (P := P) (w := w) (base := base) T).or (ok_doCardJ T)).mono (show 4 ≤ 5 by omega)
  refine T.ran.F.okX sc_ran (fun vs H Q E h => ?_) (fun cdv A outer s H vs Q E hr h => ?_)
  · obtain ⟨lc, lq, ws, cs, pile, oil, n, r, rfl, _⟩ := h; rfl
  obtain ⟨lc, lq, ws, cs, pile, oil, n, r, rfl, hc, hC, hq, hrun, hE⟩ := h
  refine ⟨_, (pss_cons (ps_set (i := 3) sc_ran.nd rfl (Or.inl rfl) (pe_make T.mk_Machine G_Machine_init hr rfl T.mg_Machine T.Machine_init.b .nil pass0 (pa_cons (pv 0) (pa_cons (pv 1) (pa_cons (pv 2) pa_nil)))))
    (pss_cons (ps_while PassesOwn.leaving (pt_cmpR op_isN (pe_meth0 (pv 3) T.cl_Machine T.me_Machine_ending G_Machine_ending hr T.Machine_ending.b .nil pass0) pe_non (nomark _)) (pss_one (ps_expr (pe_meth0 (pv 3) T.cl_Machine T.me_Machine_do_card G_Machine_do_card hr T.Machine_do_card.b .nil cx_pass))))
    (pss_one (ps_ret (pe_tup (pa_cons (pe_meth0 (pv 3) T.cl_Machine T.me_Machine_ending G_Machine_ending hr T.Machine_ending.b .nil pass0) (pa_cons (pe_fld (pv 3) rfl) (pa_cons (pe_fld (pv 3) rfl) (pa_cons (pe_op op_sub (pv 2) (pe_fld (pv 3) rfl)) pa_nil))))))))), ?_⟩
  try dsimp only [kx, kxb]
  refine ⟨_, rfl, _, rfl, _, rfl, fun p dx hp hdx hne => ?_⟩
  have ndx : ∀ b o, H b = some o → b ≠ dx := fun b o e => ne_of_none e hdx
  have np : ∀ b o, H b = some o → b ≠ p := fun b o e => ne_of_none e hp
  have ho : ∀ b o, H b = some o → upd (upd H dx (.own p)) p (.ins T.c_Machine dx []) b = some o := fun b o e => by rw [upd_ne (np b o e), upd_ne (ndx b o e)]; exact e
  refine ⟨p, dx, lc, lq, ws, pile, oil, rfl, upd_same, ho _ _ hc, ho _ _ hq, fun lp ld H1 hlp hld hM keep => ⟨rfl, ?_⟩⟩
  have S1 : Same H H1 := fun b o e => keep b o (np b o e) (ho b o e)
  have hlp0 : H lp = none := by
    cases e : H lp with
    | none => rfl
    | some o => rw [ho _ _ e] at hlp; cases hlp
  have hld0 : H ld = none := by
    cases e : H ld with
    | none => rfl
    | some o => rw [ho _ _ e] at hld; cases hld
  refine ⟨WRanJ T.c_Machine H lc lq p lp ld oil ws cs, ⟨n, pile, [], 0, oil, r, rfl, S1, hM, hC.mono S1.tup, hrun⟩, ?_⟩
  rintro m σ H2 ⟨pile2, said2, k, l, r2, rfl, S2, hM2, hC2, hr2⟩
  obtain ⟨dx2, fs2, e2, hf2⟩ := hM2.ob
  have hk := hr2.last.2
  have keep3 : ∀ {H3 : Hp}, MOut p lp ld H2 H3 → Same H H3 := fun M3 b o eb => M3 b o (ne_of_none eb hp) (ne_of_none eb hlp0) (ne_of_none eb hld0) (S2 b o eb)
  refine ⟨_, rfl, p, dx2, fs2, rfl, e2, (hf2.at_ _).trans (mfl_no (by decide +kernel)), p, lc, lp, ld, ws, pile2, k, l, said2, cs, rfl, hM2, hC2, hk, rfl, _, rfl, ?_⟩
  cases hr2 with
  | jam j hb =>
    obtain ⟨c, e, hno⟩ := j.lt
    rw [end_go e hno]
    refine iteT' (by simp) ?_
    refine ⟨fun σ' H'' => ∃ m2, m2 < 0 ∧ WRanJ T.c_Machine H lc lq p lp ld oil ws cs m2 σ' H'', fun _ _ z => z, ?_⟩
    exact ⟨_, rfl, p, dx2, fs2, rfl, e2, (hf2.at_ _).trans (mfl_no (by decide +kernel)), .inr ⟨p, lc, lp, ld, ws, pile2, k, l, said2, cs, rfl, hM2, hC2, j, fun H3 M3 => hE _ (keep3 M3)⟩⟩
  | @step m' _ k' _ p' _ l' _ s' r3 _ st hb1 hb2 r4 =>
    obtain ⟨c, e, hno⟩ := st.lt
    rw [end_go e hno]
    refine iteT' (by simp) ?_
    refine ⟨fun σ' H'' => ∃ m2, m2 < m' + 1 ∧ WRanJ T.c_Machine H lc lq p lp ld oil ws cs m2 σ' H'', fun _ _ z => z, ?_⟩
    refine ⟨_, rfl, p, dx2, fs2, rfl, e2, (hf2.at_ _).trans (mfl_no (by decide +kernel)), .inl ⟨p, lc, lp, ld, ws, pile2, p', k, k', l, l', said2, s', cs, rfl, hM2, hC2, st, hb1, hb2, fun H3 hM3 M3 => ?_⟩⟩
    exact ⟨m', Nat.lt_succ_self _, p', s', k', l', r3, rfl, keep3 M3, hM3, hM2.cdsOut M3 hC2, r4⟩
/-- a state, its pile none of the lists that may change -/
def IsSt (M : Addr → Prop) (H : Hp) (v : V) (s : S8) : Prop := ∃ a lq, v = .ref a ∧ ¬ M lq ∧ H a = some (.tup [.int (s.k : Int), .ref lq, .int (s.l : Int)]) ∧ H lq = some (.lst (s.p.map V.int))
theorem IsSt.mono {M : Addr → Prop} {H H' : Hp} (B : Out M H H') (L : TupLe H H') {v : V} {s : S8} (h : IsSt M H v s) : IsSt M H' v s := by
  obtain ⟨a, lq, e, n, h1, h2⟩ := h
  exact ⟨a, lq, e, n, L _ _ h1, B _ _ n h2⟩
theorem IsSt.less {M : Addr → Prop} {H : Hp} {v : V} {s : S8} (h : IsSt M H v s) : IsSt noM H v s := by
  obtain ⟨a, lq, e, n, h1, h2⟩ := h
  exact ⟨a, lq, e, id, h1, h2⟩
def spState (C : Addr) : Sp := fun vs H Q _ => ∃ (p lc lp ld : Addr) (ws : List V) (pile : List Int) (k l : Nat) (said : List Int), vs = [.ref p] ∧ MachAt C H p lc lp ld ws pile (l : Int) (k : Int) said ∧
  ∀ a lq H', Same H H' → H lq = none → H' a = some (.tup [.int (k : Int), .ref lq, .int (l : Int)]) → H' lq = some (.lst (pile.map V.int)) → Q (.ref a) H'
theorem ok_Machine_state (T : Txt K mg) : FnOk P w K mg base CX0 1 T.f_Machine_state T.fd_Machine_state ["self"] (spState T.c_Machine) := by
  refine T.Machine_state.F.ok sc_Machine_state (fun vs H Q E h => ?_) (fun cdv A outer s H vs Q E hr h => ?_)
  · obtain ⟨p, lc, lp, ld, ws, pile, k, l, said, rfl, _⟩ := h; rfl
  obtain ⟨p, lc, lp, ld, ws, pile, k, l, said, rfl, hM, q⟩ := h
  refine ⟨_, (pss_one (ps_ret (pe_tup (pa_cons (pe_fld (pv 0) rfl) (pa_cons (pe_callTy call_list_of rfl T.b_list bt_list (pa_cons (pe_fld (pv 0) rfl) pa_nil)) (pa_cons (pe_fld (pv 0) rfl) pa_nil)))))), ?_⟩
  try dsimp only [kx, kxb]
  obtain ⟨dx, fs, e, hf⟩ := hM.ob
  refine ⟨_, rfl, p, T.c_Machine, dx, fs, _, rfl, e, T.cl_Machine, T.na_Machine_place, (hf.at_ _).trans (mfl_place ..), ?_⟩
  refine ⟨_, rfl, p, T.c_Machine, dx, fs, _, rfl, e, T.cl_Machine, T.na_Machine_pile, (hf.at_ _).trans (mfl_pile ..), _, _, rfl, .inl (SqL.of hM.ep), fun lq hlq => ?_⟩
  have S1 := same_new hlq (.lst (pile.map V.int))
  have e1 : upd H lq (.lst (pile.map V.int)) lq = some (.lst (pile.map V.int)) := upd_same
  generalize upd H lq (.lst (pile.map V.int)) = H1 at S1 e1
  refine ⟨_, rfl, p, T.c_Machine, dx, fs, _, rfl, S1 _ _ e, T.cl_Machine, T.na_Machine_left, (hf.at_ _).trans (mfl_left ..), (by show 3 ≤ sizeLine; decide), fun a ha => ?_⟩
  have S2 := same_new ha (.tup [.int (k : Int), .ref lq, .int (l : Int)])
  exact q a lq _ (S1.trans S2) hlq upd_same (S2 _ _ e1)
def spDiary (X : Addr) : Sp := fun vs H Q E => ∃ (lc lq : Addr) (ws : List V) (cs : List Cd) (pile : List Int) (oil n : Nat) (r : List S8) (o : Option Bool), vs = [.ref lc, .ref lq, .int (oil : Int)] ∧ H lc = some (.lst ws) ∧ Cds H ws cs ∧ H lq = some (.lst (pile.map V.int)) ∧ Tr cs n ⟨0, pile, oil, []⟩ r o ∧ r.length ≤ 1000000 ∧
  (o ≠ none → ∀ D vs H', Same H H' → H' D = some (.lst vs) → Paired (IsSt noM H') vs (⟨0, pile, oil, []⟩ :: r) → Q (.ref D) H') ∧ (o = none → ∀ H', Same H H' → E (.ref X) none H')
def WDia (C : Addr) (H : Hp) (lc lq p lp ld D : Addr) (oil : Nat) (ws : List V) (cs : List Cd) (all : List S8) (o : Option Bool) (m : Nat) (σ : St) (H' : Hp) : Prop :=
  ∃ (pile said : List Int) (k l : Nat) (r acc : List S8) (vs : List V), σ = [some (.ref lc), some (.ref lq), some (.int (oil : Int)), some (.ref p), some (.ref D)] ∧ Same H H' ∧ MachAt C H' p lc lp ld ws pile (l : Int) (k : Int) said ∧ Cds H' ws cs ∧ Tr cs m ⟨k, pile, l, said⟩ r o ∧ H' D = some (.lst vs) ∧ Paired (IsSt (fun b => b = p ∨ b = lp ∨ b = ld ∨ b = D) H') vs acc ∧ all = acc ++ r
theorem ok_diary (T : Txt K mg) : FnOk P w K mg base (CX1 P w) 6 T.f_diary T.fd_diary ["cards", "pile", "oil"] (spDiary T.er.cJam) := by
  have G_Machine_init := (ok_Machine_init (P := P) (w := w) (base := base) T).mono (show 1 ≤ 4 by omega)
  have G_Machine_ending := (ok_Machine_ending (P := P) (w := w) (base := base) T).mono (show 1 ≤ 5 by omega)
  have G_Machine_state := (ok_Machine_state (P := P) (w := w) (base := base) T).mono (show 1 ≤ 5 by omega)
  have G_Machine_do_card := ((ok_Machine_do_card (P := P) (w := w) (base := base) T).or (ok_doCardJ T)).mono (show 4 ≤ 5 by omega)
  refine T.diary.F.okX sc_diary (fun vs H Q E h => ?_) (fun cdv A outer s H vs Q E hr h => ?_)
  · obtain ⟨lc, lq, ws, cs, pile, oil, n, r, o, rfl, _⟩ := h; rfl
  obtain ⟨lc, lq, ws, cs, pile, oil, n, r, o, rfl, hc, hC, hq, hrun, hrl, q, hE⟩ := h
  refine ⟨_, (pss_cons (ps_set (i := 3) sc_diary.nd rfl (Or.inl rfl) (pe_make T.mk_Machine G_Machine_init hr rfl T.mg_Machine T.Machine_init.b .nil pass0 (pa_cons (pv 0) (pa_cons (pv 1) (pa_cons (pv 2) pa_nil)))))
    (pss_cons (ps_set (i := 4) sc_diary.nd rfl (Or.inl rfl) (pe_lst (pa_cons (pe_meth0 (pv 3) T.cl_Machine T.me_Machine_state G_Machine_state hr T.Machine_state.b .nil pass0) pa_nil)))
    (pss_cons (ps_while PassesOwn.leaving (pt_cmpR op_isN (pe_meth0 (pv 3) T.cl_Machine T.me_Machine_ending G_Machine_ending hr T.Machine_ending.b .nil pass0) pe_non (nomark _)) (pss_cons (ps_expr (pe_meth0 (pv 3) T.cl_Machine T.me_Machine_do_card G_Machine_do_card hr T.Machine_do_card.b .nil cx_pass))
    (pss_one (ps_expr (pe_bm PySem.F.plainAttrs_list PySem.F.slot_list_append PySem.F.type_list_append mt_append (pv 4) (pa_cons (pe_meth0 (pv 3) T.cl_Machine T.me_Machine_state G_Machine_state hr T.Machine_state.b .nil pass0) pa_nil))))))
    (pss_one (ps_ret (pv 4)))))), ?_⟩
  try dsimp only [kx, kxb]
  have one : (1 : Nat) ≤ sizeLine := by decide
  refine ⟨_, rfl, _, rfl, _, rfl, fun p dx hp hdx hne => ?_⟩
  have ndx : ∀ b o, H b = some o → b ≠ dx := fun b o e => ne_of_none e hdx
  have np : ∀ b o, H b = some o → b ≠ p := fun b o e => ne_of_none e hp
  have ho : ∀ b o, H b = some o → upd (upd H dx (.own p)) p (.ins T.c_Machine dx []) b = some o := fun b o e => by rw [upd_ne (np b o e), upd_ne (ndx b o e)]; exact e
  refine ⟨p, dx, lc, lq, ws, pile, oil, rfl, upd_same, ho _ _ hc, ho _ _ hq, fun lp ld H1 hlp hld hM keep => ⟨rfl, ?_⟩⟩
  have S1 : Same H H1 := fun b o e => keep b o (np b o e) (ho b o e)
  have hlp0 : H lp = none := by
    cases e : H lp with
    | none => rfl
    | some o => rw [ho _ _ e] at hlp; cases hlp
  have hld0 : H ld = none := by
    cases e : H ld with
    | none => rfl
    | some o => rw [ho _ _ e] at hld; cases hld
  obtain ⟨dx1, fs1, e1, hf1⟩ := hM.ob
  refine ⟨_, rfl, p, dx1, fs1, rfl, e1, (hf1.at_ _).trans (mfl_no (by decide +kernel)), p, lc, lp, ld, ws, pile, 0, oil, [], rfl, hM, fun a0 l0 H2 S2 hl0 ea0 el0 => ⟨one, fun D hD => ?_⟩⟩
  have S3 := same_new hD (.lst [.ref a0])
  have eD : upd H2 D (.lst [.ref a0]) D = some (.lst [.ref a0]) := upd_same
  have ea := S3 _ _ ea0
  have el := S3 _ _ el0
  have S23 := S2.trans S3
  have S13 := S1.trans S23
  have hM3 := hM.same8 S23
  have hD0 : H D = none := (S1.trans S2).free hD
  have n1 : l0 ≠ p := fun z => by rw [z, e1] at hl0; cases hl0
  have n2 : l0 ≠ lp := fun z => by rw [z, hM.ep] at hl0; cases hl0
  have n3 : l0 ≠ ld := fun z => by rw [z, hM.es] at hl0; cases hl0
  have n4 : l0 ≠ D := fun z => by rw [z, hD] at el0; cases el0
  have d1 : D ≠ p := fun z => by rw [z, S2 _ _ e1] at hD; cases hD
  have d2 : D ≠ lp := fun z => by rw [z, S2 _ _ hM.ep] at hD; cases hD
  have d3 : D ≠ ld := fun z => by rw [z, S2 _ _ hM.es] at hD; cases hD
  generalize upd H2 D (.lst [.ref a0]) = H3 at S3 eD ea el S23 S13 hM3
  refine ⟨WDia T.c_Machine H lc lq p lp ld D oil ws cs (⟨0, pile, oil, []⟩ :: r) o, ⟨n, pile, [], 0, oil, r, [⟨0, pile, oil, []⟩], [.ref a0], rfl, S13, hM3, hC.mono S13.tup, hrun, eD, .cons ⟨a0, l0, rfl, fun z => z.elim n1 fun z => z.elim n2 fun z => z.elim n3 n4, ea, el⟩ .nil, rfl⟩, ?_⟩
  rintro m σ H4 ⟨pile4, said4, k, l, r4, acc, vs4, rfl, S4, hM4, hC4, hr4, eD4, hP4, hall⟩
  obtain ⟨dx4, fs4, e4, hf4⟩ := hM4.ob
  have hk := hr4.last.2
  have keep5 : ∀ {H5 : Hp}, MOut p lp ld H4 H5 → Same H H5 := fun M5 b o eb => M5 b o (ne_of_none eb hp) (ne_of_none eb hlp0) (ne_of_none eb hld0) (S4 b o eb)
  have hal : acc.length + r4.length = r.length + 1 := by
    have := congrArg List.length hall
    rw [List.length_cons, List.length_append] at this
    omega
  have hpl := plen hP4
  refine ⟨_, rfl, p, dx4, fs4, rfl, e4, (hf4.at_ _).trans (mfl_no (by decide +kernel)), p, lc, lp, ld, ws, pile4, k, l, said4, cs, rfl, hM4, hC4, hk, rfl, _, rfl, ?_⟩
  cases hr4 with
  | done =>
    have ee : endV cs cs.length l = .str "done" := if_pos rfl
    rw [ee]
    rw [List.append_nil] at hall
    exact iteF' (by simp) ⟨_, rfl, q (fun z => nomatch z) D vs4 H4 S4 eD4 (by rw [hall]; exact Paired.mapP hP4 fun _ _ z => z.less)⟩
  | @dry _ c _ _ e ho2 =>
    have hlt := (List.getElem?_eq_some_iff.mp e).1
    have ee : endV cs k 0 = .str "dry" := by
      unfold endV
      rw [if_neg (by omega), e]
      exact if_pos ⟨rfl, ho2⟩
    rw [ee]
    rw [List.append_nil] at hall
    exact iteF' (by simp) ⟨_, rfl, q (fun z => nomatch z) D vs4 H4 S4 eD4 (by rw [hall]; exact Paired.mapP hP4 fun _ _ z => z.less)⟩
  | jam j hb =>
    obtain ⟨c, e, hno⟩ := j.lt
    rw [end_go e hno]
    refine iteT' (by simp) ?_
    refine ⟨fun σ' H'' => ∃ m2, m2 < 0 ∧ WDia T.c_Machine H lc lq p lp ld D oil ws cs (⟨0, pile, oil, []⟩ :: r) none m2 σ' H'', fun _ _ z => z, ?_⟩
    exact ⟨_, rfl, p, dx4, fs4, rfl, e4, (hf4.at_ _).trans (mfl_no (by decide +kernel)), .inr ⟨p, lc, lp, ld, ws, pile4, k, l, said4, cs, rfl, hM4, hC4, j, fun H5 M5 => hE rfl _ (keep5 M5)⟩⟩
  | @step m' _ k' _ p' _ l' _ s' r5 _ st hb1 hb2 t5 =>
    obtain ⟨c, e, hno⟩ := st.lt
    rw [end_go e hno]
    refine iteT' (by simp) ?_
    refine ⟨fun σ' H'' => ∃ m2, m2 < m' + 1 ∧ WDia T.c_Machine H lc lq p lp ld D oil ws cs (⟨0, pile, oil, []⟩ :: r) o m2 σ' H'', fun _ _ z => z, ?_⟩
    refine ⟨_, rfl, p, dx4, fs4, rfl, e4, (hf4.at_ _).trans (mfl_no (by decide +kernel)), .inl ⟨p, lc, lp, ld, ws, pile4, p', k, k', l, l', said4, s', cs, rfl, hM4, hC4, st, hb1, hb2, fun H5 hM5 M5 => ?_⟩⟩
    obtain ⟨dx5, fs5, e5, hf5⟩ := hM5.ob
    have eD5 := M5 _ _ d1 d2 d3 eD4
    have O5 : Out (fun b => b = p ∨ b = lp ∨ b = ld ∨ b = D) H4 H5 := fun b o nb h => M5 b o (fun z => nb (.inl z)) (fun z => nb (.inr (.inl z))) (fun z => nb (.inr (.inr (.inl z)))) h
    have L5 : TupLe H4 H5 := fun b xs h => M5 b _ (ne_of h e4 (fun z => by cases z)) (ne_of h hM4.ep (fun z => by cases z)) (ne_of h hM4.es (fun z => by cases z)) h
    have hP5 := Paired.mapP hP4 fun _ _ z => z.mono O5 L5
    refine ⟨_, rfl, .inl ⟨rfl, _, SqL.of eD5⟩, _, rfl, p, dx5, fs5, rfl, e5, (hf5.at_ _).trans (mfl_no (by decide +kernel)), p, lc, lp, ld, ws, p', k', l', s', rfl, hM5, fun a6 l6 H6 S6 hl6 ea6 el6 => ?_⟩
    have eD6 := S6 _ _ eD5
    rw [List.length_cons] at hal
    refine ⟨_, _, _, rfl, rfl, eD6, by rw [hpl, sizeLine_eq]; omega, ?_⟩
    have g1 : l6 ≠ p := fun z => by rw [z, e5] at hl6; cases hl6
    have g2 : l6 ≠ lp := fun z => by rw [z, hM5.ep] at hl6; cases hl6
    have g3 : l6 ≠ ld := fun z => by rw [z, hM5.es] at hl6; cases hl6
    have g4 : l6 ≠ D := fun z => by rw [z, eD5] at hl6; cases hl6
    have B7 : ∀ b o, b ≠ D → H6 b = some o → upd H6 D (.lst (vs4 ++ [.ref a6])) b = some o := fun b o nb h => by rw [upd_ne nb]; exact h
    have L7 := (but_upd (H := H6) (l := D) (.lst (vs4 ++ [.ref a6]))).tup eD6
    have hM7 := (hM5.same8 S6).but8 (D := D) d1 d2 d3 (fun z => by rw [z, hc] at hD0; cases hD0) (.lst (vs4 ++ [.ref a6]))
    refine ⟨m', Nat.lt_succ_self _, p', s', k', l', r5, acc ++ [⟨k', p', l', s'⟩], vs4 ++ [.ref a6], rfl, Same.at ((keep5 M5).trans S6) hD0 _, hM7, ((hM4.cdsOut M5 hC4).mono S6.tup).mono L7, t5, upd_same, ?_, by rw [hall, List.append_assoc]; rfl⟩
    refine psnoc (Paired.mapP hP5 fun _ _ z => (z.mono (.of S6) S6.tup).mono (fun b o nb h => B7 b o (fun z => nb (.inr (.inr (.inr z)))) h) L7) ⟨a6, l6, rfl, fun z => z.elim g1 fun z => z.elim g2 fun z => z.elim g3 g4, L7 _ _ ea6, B7 _ _ g4 el6⟩
end
end W08

set_option Elab.async false
set_option linter.all false
set_option maxRecDepth 100000
set_option maxHeartbeats 4000000
namespace W08
open PySem L2 J
section
variable {P : Program} {w : World} {K : PySem.W.Frag} {mg : Str → Option Value} {base : Heap}
/-! ### _law_two_joined, _law_on_pile -/
def spTwoL : Sp := fun vs H Q _ => ∃ (wd : Str) (i j r : Int), vs = [.str wd, .int i, .int j] ∧ Two wd i j r ∧ Q (.int r) H
theorem ok_law_two_joined (T : Txt K mg) : FnOk P w K mg base CX0 1 T.f_law_two_joined T.fd_law_two_joined ["_law_sort", "_law_one", "_law_two"] spTwoL := by
  refine T.law_two_joined.F.ok sc_law_two_joined (fun vs H Q E h => ?_) (fun cdv A outer s H vs Q E hr h => ?_)
  · obtain ⟨wd, i, j, r, rfl, _⟩ := h; rfl
  obtain ⟨wd, i, j, r, rfl, ht, q⟩ := h
  refine ⟨_, (pss_cons (ps_if (pt_cmpR op_eq (pv 0) pe_str (nomark _)) (pss_one (ps_ret (pe_op op_add (pv 1) (pv 2)))) pss_nil)
    (pss_cons (ps_if (pt_cmpR op_eq (pv 0) pe_str (nomark _)) (pss_one (ps_ret (pe_op op_sub (pv 1) (pv 2)))) pss_nil)
    (pss_cons (ps_if (pt_cmpR op_eq (pv 0) pe_str (nomark _)) (pss_one (ps_ret (pe_op op_mulB (pv 1) (pv 2)))) pss_nil)
    (pss_cons (ps_if (pt_cmpR op_eq (pv 0) pe_str (nomark _)) (pss_one (ps_ret (pe_callTy call_int1 rfl T.b_int bt_int (pa_cons (pe_cmpR op_lt (pv 1) (pv 2) (nomark _)) pa_nil)))) pss_nil)
    (pss_one (ps_ret (pe_callTy call_int1 rfl T.b_int bt_int (pa_cons (pe_cmpR op_eq (pv 1) (pv 2) (nomark _)) pa_nil)))))))), ?_⟩
  try dsimp only [kx, kxb]
  have dv : decide (V.int i = V.int j) = decide (i = j) := decide_eq_decide.mpr ⟨fun z => by injection z, fun z => by rw [z]⟩
  have bb : ∀ b : Bool, (if b = true then (1 : Int) else 0) = b2n b := fun b => by cases b <;> rfl
  cases ht with
  | less =>
    refine ⟨_, rfl, rfl, _, rfl, iteF' (by decide +kernel) ⟨_, rfl, rfl, _, rfl, iteF' (by decide +kernel) ⟨_, rfl, rfl, _, rfl, iteF' (by decide +kernel) ?_⟩⟩⟩
    refine ⟨_, rfl, rfl, _, rfl, iteT' (by decide +kernel) ⟨_, rfl, _, rfl, _, _, rfl, rfl, .inr ⟨_, rfl, ?_⟩⟩⟩
    rw [bb]
    exact q
  | same =>
    refine ⟨_, rfl, rfl, _, rfl, iteF' (by decide +kernel) ⟨_, rfl, rfl, _, rfl, iteF' (by decide +kernel) ⟨_, rfl, rfl, _, rfl, iteF' (by decide +kernel) ?_⟩⟩⟩
    refine ⟨_, rfl, rfl, _, rfl, iteF' (by decide +kernel) ⟨_, rfl, _, rfl, rfl, .inr ⟨_, rfl, ?_⟩⟩⟩
    rw [dv, bb]
    exact q
  | @op o _ _ hm =>
    cases o with
    | add => exact ⟨_, rfl, rfl, _, rfl, iteT' (by decide +kernel) ⟨_, rfl, _, rfl, _, _, rfl, rfl, q⟩⟩
    | sub => exact ⟨_, rfl, rfl, _, rfl, iteF' (by decide +kernel) ⟨_, rfl, rfl, _, rfl, iteT' (by decide +kernel) ⟨_, rfl, _, rfl, _, _, rfl, rfl, q⟩⟩⟩
    | mul => exact ⟨_, rfl, rfl, _, rfl, iteF' (by decide +kernel) ⟨_, rfl, rfl, _, rfl, iteF' (by decide +kernel) ⟨_, rfl, rfl, _, rfl, iteT' (by decide +kernel) ⟨_, rfl, _, rfl, _, _, rfl, rfl, hm rfl, q⟩⟩⟩⟩
theorem cut_last (p : List Int) (i : Int) : cutV ((p ++ [i]).map V.int) none (some (-1)) = p.map V.int := by
  have e : HT.sIx ((p ++ [i]).map V.int).length ((p ++ [i]).map V.int).length (some (-1)) = p.length := by
    unfold HT.sIx
    simp
    omega
  unfold cutV
  rw [e]
  have e0 : HT.sIx ((p ++ [i]).map V.int).length 0 none = 0 := rfl
  rw [e0]
  simp
theorem cut_last2 (p : List Int) (i j : Int) : cutV ((p ++ [i] ++ [j]).map V.int) none (some (-2)) = p.map V.int := by
  have e : HT.sIx ((p ++ [i] ++ [j]).map V.int).length ((p ++ [i] ++ [j]).map V.int).length (some (-2)) = p.length := by
    unfold HT.sIx
    simp
    omega
  unfold cutV
  rw [e]
  have e0 : HT.sIx ((p ++ [i] ++ [j]).map V.int).length 0 none = 0 := rfl
  rw [e0]
  simp
theorem cut_to (p : List Int) (n : Nat) : cutV (p.map V.int) none (some (n : Int)) = (p.take n).map V.int := by
  have e : HT.sIx (p.map V.int).length (p.map V.int).length (some (n : Int)) = min n p.length := by
    unfold HT.sIx
    simp
    omega
  unfold cutV
  rw [e]
  have e0 : HT.sIx (p.map V.int).length 0 none = 0 := rfl
  rw [e0]
  simp
theorem cut_mid (p : List Int) (i : Int) (n : Nat) (hn : n < p.length) : cutV ((p ++ [i]).map V.int) (some ((n : Int) + 1)) (some (-1)) = (p.drop (n + 1)).map V.int := by
  have e : HT.sIx ((p ++ [i]).map V.int).length ((p ++ [i]).map V.int).length (some (-1)) = p.length := by
    unfold HT.sIx
    simp
    omega
  have e0 : HT.sIx ((p ++ [i]).map V.int).length 0 (some ((n : Int) + 1)) = n + 1 := by
    have hneg : ¬ ((n : Int) + 1 < 0) := by omega
    unfold HT.sIx
    simp [hneg]
    omega
  unfold cutV
  rw [e, e0]
  rw [List.map_append, List.drop_append_of_le_length (by rw [List.length_map]; omega), List.take_append_of_le_length (by rw [List.length_drop, List.length_map]; omega), List.take_of_length_le (by rw [List.length_drop, List.length_map]; omega), List.map_drop]
theorem at_last2 (p : List Int) (i j : Int) : atI ((p ++ [i] ++ [j]).map V.int) (-2) = some (.int i) := by
  have e : ixN (p.length + 2) (-2) = some p.length := by
    unfold ixN
    simp
    omega
  unfold atI
  simp [e]
theorem set_cut (p : List Int) (i : Int) (n : Nat) (hn : n < p.length) : p.take n ++ [i] ++ p.drop (n + 1) = p.set n i := by
  rw [List.set_eq_take_append_cons_drop, if_pos hn]
  simp
def spOnL (K : PySem.W.Frag) : Sp := fun vs H Q _ => ∃ (a lp : Addr) (c : Cd) (pile said : List Int), vs = [.ref a, .ref lp] ∧ H a = some (.tup c.vs) ∧ H lp = some (.lst (pile.map V.int)) ∧ pile.length ≤ 1000000 ∧
  ((∃ pile' said', Onp c pile said pile' said' ∧ ∀ q H', Same H H' → H q = none → H' q = some (.lst (pile'.map V.int)) → Q (.ref q) H') ∨ (Jm c pile ∧ ∀ H', Same H H' → Q .non H'))
theorem ok_law_on_pile (T : Txt K mg) : FnOk P w K mg base CX0 2 T.f_law_on_pile T.fd_law_on_pile ["_law_card", "_law_pile"] (spOnL K) := by
  have G_law_two_joined := ok_law_two_joined (P := P) (w := w) (base := base) T
  refine T.law_on_pile.F.ok sc_law_on_pile (fun vs H Q E h => ?_) (fun cdv A outer s H vs Q E hr h => ?_)
  · obtain ⟨a, lp, c, pile, said, rfl, _⟩ := h; rfl
  obtain ⟨a, lp, c, pile, said, rfl, ha, hp, hl, hway⟩ := h
  refine ⟨_, (pss_cons (ps_if (pt_cmpR op_eq (pe_ix ix_tup (pv 0) pe_int (fun _ _ => rfl)) pe_str (nomark _)) (pss_one (ps_ret (pe_op op_cat (pv 1) (pe_lst (pa_cons (pe_ix ix_tup (pv 0) pe_int (fun _ _ => rfl)) pa_nil))))) pss_nil)
    (pss_cons (ps_if (pt_cmpR op_eq (pe_ix ix_tup (pv 0) pe_int (fun _ _ => rfl)) pe_str (nomark _)) (pss_cons (ps_if (PW.pt (pw_or (pt_cmpR op_lt (pe_ix ix_tup (pv 0) pe_int (fun _ _ => rfl)) pe_int (nomark _)) (pw_or1 (pt_cmpR op_ge (pe_ix ix_tup (pv 0) pe_int (fun _ _ => rfl)) (pe_callB call_len_seq rfl T.b_len PySem.boot_len (pa_cons (pv 1) pa_nil)) (nomark _))))) (pss_one (ps_ret pe_non)) pss_nil)
    (pss_one (ps_ret (pe_op op_cat (pv 1) (pe_lst (pa_cons (pe_ix ix_list (pv 1) (pe_ix ix_tup (pv 0) pe_int (fun _ _ => rfl)) (fun _ _ => rfl)) pa_nil)))))) pss_nil)
    (pss_cons (ps_if (pt_cmpR (op_eqNil hr.units0) (pv 1) (pe_lst pa_nil) (nomark _)) (pss_one (ps_ret pe_non)) pss_nil)
    (pss_cons (ps_if (PW.pt (pw_or (pt_cmpR op_eq (pe_ix ix_tup (pv 0) pe_int (fun _ _ => rfl)) pe_str (nomark _)) (pw_or1 (pt_cmpR op_eq (pe_ix ix_tup (pv 0) pe_int (fun _ _ => rfl)) pe_str (nomark _))))) (pss_one (ps_ret (pe_slice sl_list (pv 1) po_none (po_some (pe_un un_neg pe_int))))) pss_nil)
    (pss_cons (ps_if (pt_cmpR op_eq (pe_ix ix_tup (pv 0) pe_int (fun _ _ => rfl)) pe_str (nomark _)) (pss_one (ps_ret (pe_op op_cat (pe_slice sl_list (pv 1) po_none (po_some (pe_un un_neg pe_int))) (pe_lst (pa_cons (pe_callTy call_int1 rfl T.b_int bt_int (pa_cons (pe_cmpR op_eq (pe_ix ix_list (pv 1) (pe_un un_neg pe_int) (fun _ _ => rfl)) pe_int (nomark _)) pa_nil)) pa_nil))))) pss_nil)
    (pss_cons (ps_if (pt_cmpR op_eq (pe_ix ix_tup (pv 0) pe_int (fun _ _ => rfl)) pe_str (nomark _)) (pss_cons (ps_if (PW.pt (pw_or (pt_cmpR op_lt (pe_ix ix_tup (pv 0) pe_int (fun _ _ => rfl)) pe_int (nomark _)) (pw_or1 (pt_cmpR op_ge (pe_ix ix_tup (pv 0) pe_int (fun _ _ => rfl)) (pe_op op_sub (pe_callB call_len_seq rfl T.b_len PySem.boot_len (pa_cons (pv 1) pa_nil)) pe_int) (nomark _))))) (pss_one (ps_ret pe_non)) pss_nil)
    (pss_one (ps_ret (pe_op op_cat (pe_op op_cat (pe_slice sl_list (pv 1) po_none (po_some (pe_ix ix_tup (pv 0) pe_int (fun _ _ => rfl)))) (pe_lst (pa_cons (pe_ix ix_list (pv 1) (pe_un un_neg pe_int) (fun _ _ => rfl)) pa_nil))) (pe_slice sl_list (pv 1) (po_some (pe_op op_add (pe_ix ix_tup (pv 0) pe_int (fun _ _ => rfl)) pe_int)) (po_some (pe_un un_neg pe_int))))))) pss_nil)
    (pss_cons (ps_if (pt_cmpR op_lt (pe_callB call_len_seq rfl T.b_len PySem.boot_len (pa_cons (pv 1) pa_nil)) pe_int (nomark _)) (pss_one (ps_ret pe_non)) pss_nil)
    (pss_one (ps_ret (pe_op op_cat (pe_slice sl_list (pv 1) po_none (po_some (pe_un un_neg pe_int))) (pe_lst (pa_cons (pe_call G_law_two_joined hr rfl T.law_two_joined.m T.law_two_joined.F.kp T.law_two_joined.b .nil pass0 (pa_cons (pe_ix ix_tup (pv 0) pe_int (fun _ _ => rfl)) (pa_cons (pe_ix ix_list (pv 1) (pe_un un_neg pe_int) (fun _ _ => rfl)) (pa_cons (pe_ix ix_list (pv 1) (pe_un un_neg pe_int) (fun _ _ => rfl)) pa_nil)))) pa_nil)))))))))))), ?_⟩
  try dsimp only [kx, kxb]
  have one : (1 : Nat) ≤ sizeLine := by decide
  have refl : ∀ G : Hp, Same G G := fun _ _ _ h => h
  have bb : ∀ b : Bool, (if b = true then (1 : Int) else 0) = b2n b := fun b => by cases b <;> rfl
  rcases hway with ⟨pile', said', ho, q⟩ | ⟨hj, q⟩
  · cases ho with
    | @push i =>
      have f : SqT K H a [.str "push", .int i] := SqT.of ha
      refine ⟨_, rfl, _, _, _, _, rfl, rfl, f, at0, rfl, _, rfl, iteT' (by decide +kernel) ?_⟩
      refine ⟨_, rfl, _, rfl, _, _, _, _, rfl, rfl, f, rfl, one, fun p1 hp1 => ?_⟩
      have S1 := same_new hp1 (.lst [V.int i])
      refine ⟨_, _, _, _, rfl, rfl, S1 _ _ hp, upd_same, by rw [List.length_map, sizeLine_eq]; show _ + 1 ≤ _; omega, fun p2 hp2 => ?_⟩
      exact q p2 _ (S1.trans (same_new hp2 _)) (S1.free hp2) (by rw [upd_same, List.map_append]; rfl)
    | @load j i _ _ hv =>
      have f : SqT K H a [.str "load", .int (j : Int)] := SqT.of ha
      have hjl := (List.getElem?_eq_some_iff.mp hv).1
      have hj : (pile.map V.int)[j]? = some (V.int i) := by rw [List.getElem?_map, hv]; rfl
      refine ⟨_, rfl, _, _, _, _, rfl, rfl, f, at0, rfl, _, rfl, iteF' (by decide +kernel) ?_⟩
      refine ⟨_, rfl, _, _, _, _, rfl, rfl, f, at0, rfl, _, rfl, iteT' (by decide +kernel) ?_⟩
      refine ⟨_, rfl, _, _, _, _, rfl, rfl, f, rfl, _, _, rfl, rfl, _, rfl, iteF' (decide_eq_false (by omega)) ?_⟩
      refine ⟨_, rfl, _, _, _, _, rfl, rfl, f, rfl, _, rfl, _, _, rfl, .inl (SqL.of hp), _, _, rfl, rfl, _, rfl, iteF' (decide_eq_false (by rw [List.length_map]; omega)) ?_⟩
      refine ⟨_, rfl, _, rfl, _, rfl, _, _, _, _, rfl, rfl, f, rfl, _, _, _, _, rfl, rfl, SqL.of hp, atI_nat hj, one, fun p1 hp1 => ?_⟩
      have S1 := same_new hp1 (.lst [V.int i])
      refine ⟨_, _, _, _, rfl, rfl, S1 _ _ hp, upd_same, by rw [List.length_map, sizeLine_eq]; show _ + 1 ≤ _; omega, fun p2 hp2 => ?_⟩
      exact q p2 _ (S1.trans (same_new hp2 _)) (S1.free hp2) (by rw [upd_same, List.map_append]; rfl)
    | @drop i p0 _ =>
      have f : SqT K H a [.str "drop"] := SqT.of ha
      refine ⟨_, rfl, _, _, _, _, rfl, rfl, f, at0, rfl, _, rfl, iteF' (by decide +kernel) ?_⟩
      refine ⟨_, rfl, _, _, _, _, rfl, rfl, f, at0, rfl, _, rfl, iteF' (by decide +kernel) ?_⟩
      refine ⟨_, rfl, Nat.zero_le _, fun pe hpe => ⟨_, _, _, rfl, rfl, SqL.of (same_new hpe _ _ _ hp), SqL.of upd_same, _, rfl, iteF' (by simp) ?_⟩⟩
      have Se := same_new hpe (.lst [])
      have hp1 := Se _ _ hp
      have f1 := SqT.of (K := K) (Se _ _ ha)
      generalize upd H pe (.lst []) = H1 at Se hp1 f1
      refine ⟨_, rfl, _, _, _, _, rfl, rfl, f1, at0, rfl, _, rfl, iteT' (by decide +kernel) (iteT ?_)⟩
      refine ⟨_, rfl, _, rfl, _, rfl, _, _, rfl, SqL.of hp1, fun pc hpc => ?_⟩
      exact q pc _ (Se.trans (same_new hpc _)) (Se.free hpc) (by rw [upd_same, cut_last])
    | @say i p0 _ =>
      have f : SqT K H a [.str "say"] := SqT.of ha
      refine ⟨_, rfl, _, _, _, _, rfl, rfl, f, at0, rfl, _, rfl, iteF' (by decide +kernel) ?_⟩
      refine ⟨_, rfl, _, _, _, _, rfl, rfl, f, at0, rfl, _, rfl, iteF' (by decide +kernel) ?_⟩
      refine ⟨_, rfl, Nat.zero_le _, fun pe hpe => ⟨_, _, _, rfl, rfl, SqL.of (same_new hpe _ _ _ hp), SqL.of upd_same, _, rfl, iteF' (by simp) ?_⟩⟩
      have Se := same_new hpe (.lst [])
      have hp1 := Se _ _ hp
      have f1 := SqT.of (K := K) (Se _ _ ha)
      generalize upd H pe (.lst []) = H1 at Se hp1 f1
      refine ⟨_, rfl, _, _, _, _, rfl, rfl, f1, at0, rfl, _, rfl, iteF' (by decide +kernel) ?_⟩
      refine ⟨_, rfl, _, _, _, _, rfl, rfl, f1, at0, rfl, _, rfl, iteT' (by decide +kernel) ?_⟩
      refine ⟨_, rfl, _, rfl, _, rfl, _, _, rfl, SqL.of hp1, fun pc hpc => ?_⟩
      exact q pc _ (Se.trans (same_new hpc _)) (Se.free hpc) (by rw [upd_same, cut_last])
    | @flip i p0 _ =>
      have f : SqT K H a [.str "flip"] := SqT.of ha
      refine ⟨_, rfl, _, _, _, _, rfl, rfl, f, at0, rfl, _, rfl, iteF' (by decide +kernel) ?_⟩
      refine ⟨_, rfl, _, _, _, _, rfl, rfl, f, at0, rfl, _, rfl, iteF' (by decide +kernel) ?_⟩
      refine ⟨_, rfl, Nat.zero_le _, fun pe hpe => ⟨_, _, _, rfl, rfl, SqL.of (same_new hpe _ _ _ hp), SqL.of upd_same, _, rfl, iteF' (by simp) ?_⟩⟩
      have Se := same_new hpe (.lst [])
      have hp1 := Se _ _ hp
      have f1 := SqT.of (K := K) (Se _ _ ha)
      generalize upd H pe (.lst []) = H1 at Se hp1 f1
      refine ⟨_, rfl, _, _, _, _, rfl, rfl, f1, at0, rfl, _, rfl, iteF' (by decide +kernel) ?_⟩
      refine ⟨_, rfl, _, _, _, _, rfl, rfl, f1, at0, rfl, _, rfl, iteF' (by decide +kernel) ?_⟩
      refine ⟨_, rfl, _, _, _, _, rfl, rfl, f1, at0, rfl, _, rfl, iteT' (by decide +kernel) ?_⟩
      refine ⟨_, rfl, _, rfl, _, rfl, _, _, rfl, SqL.of hp1, fun pc hpc => ?_⟩
      have Sc := same_new hpc (.lst (cutV ((p0 ++ [i]).map V.int) none (some (-1))))
      have ec : upd H1 pc (.lst (cutV ((p0 ++ [i]).map V.int) none (some (-1)))) pc = some (.lst (p0.map V.int)) := by rw [upd_same, cut_last]
      generalize upd H1 pc (.lst (cutV ((p0 ++ [i]).map V.int) none (some (-1)))) = H2 at Sc ec
      refine ⟨_, rfl, _, rfl, _, _, _, _, rfl, rfl, SqL.of (Sc _ _ hp1), atI_map_last _ _, rfl, .inr ⟨_, rfl, ?_⟩⟩
      have dv : decide (V.int i = V.int 0) = decide (i = 0) := decide_eq_decide.mpr ⟨fun z => by injection z, fun z => by rw [z]⟩
      rw [dv, bb]
      refine ⟨one, fun p2 hp2 => ?_⟩
      have S2 := same_new hp2 (.lst [V.int (b2n (decide (i = 0)))])
      have hl' : (p0 ++ [i]).length ≤ 1000000 := hl
      rw [List.length_append] at hl'
      refine ⟨_, _, _, _, rfl, rfl, S2 _ _ ec, upd_same, by rw [List.length_map, sizeLine_eq]; show _ + 1 ≤ _; omega, fun p3 hp3 => ?_⟩
      exact q p3 _ (Se.trans (Sc.trans (S2.trans (same_new hp3 _)))) ((Se.trans (Sc.trans S2)).free hp3) (by rw [upd_same, List.map_append]; rfl)
    | @store j i p0 _ hj =>
      have f : SqT K H a [.str "store", .int (j : Int)] := SqT.of ha
      refine ⟨_, rfl, _, _, _, _, rfl, rfl, f, at0, rfl, _, rfl, iteF' (by decide +kernel) ?_⟩
      refine ⟨_, rfl, _, _, _, _, rfl, rfl, f, at0, rfl, _, rfl, iteF' (by decide +kernel) ?_⟩
      refine ⟨_, rfl, Nat.zero_le _, fun pe hpe => ⟨_, _, _, rfl, rfl, SqL.of (same_new hpe _ _ _ hp), SqL.of upd_same, _, rfl, iteF' (by simp) ?_⟩⟩
      have Se := same_new hpe (.lst [])
      have hp1 := Se _ _ hp
      have f1 := SqT.of (K := K) (Se _ _ ha)
      generalize upd H pe (.lst []) = H1 at Se hp1 f1
      refine ⟨_, rfl, _, _, _, _, rfl, rfl, f1, at0, rfl, _, rfl, iteF' (by decide +kernel) ?_⟩
      refine ⟨_, rfl, _, _, _, _, rfl, rfl, f1, at0, rfl, _, rfl, iteF' (by decide +kernel) ?_⟩
      refine ⟨_, rfl, _, _, _, _, rfl, rfl, f1, at0, rfl, _, rfl, iteF' (by decide +kernel) ?_⟩
      refine ⟨_, rfl, _, _, _, _, rfl, rfl, f1, at0, rfl, _, rfl, iteT' (by decide +kernel) ?_⟩
      have hl' : (p0 ++ [i]).length ≤ 1000000 := hl
      have hl2 : ((p0 ++ [i]).map V.int).length = p0.length + 1 := by simp
      rw [List.length_append] at hl'
      refine ⟨_, rfl, _, _, _, _, rfl, rfl, f1, rfl, _, _, rfl, rfl, _, rfl, iteF' (decide_eq_false (by omega)) ?_⟩
      refine ⟨_, rfl, _, _, _, _, rfl, rfl, f1, rfl, _, rfl, _, _, rfl, .inl (SqL.of hp1), _, _, rfl, rfl, _, _, rfl, rfl, _, rfl, iteF' (decide_eq_false (by rw [hl2]; omega)) ?_⟩
      refine ⟨_, rfl, _, rfl, _, _, _, _, rfl, rfl, f1, rfl, _, rfl, _, _, rfl, SqL.of hp1, fun pc hpc => ?_⟩
      have Sc := same_new hpc (.lst (cutV ((p0 ++ [i]).map V.int) none (some (j : Int))))
      have et : (p0 ++ [i]).take j = p0.take j := List.take_append_of_le_length (by omega)
      have ec : upd H1 pc (.lst (cutV ((p0 ++ [i]).map V.int) none (some (j : Int)))) pc = some (.lst ((p0.take j).map V.int)) := by rw [upd_same, cut_to, et]
      have ha2 := Sc _ _ (Se _ _ ha)
      generalize upd H1 pc (.lst (cutV ((p0 ++ [i]).map V.int) none (some (j : Int)))) = H2 at Sc ec ha2
      have hp2 := Sc _ _ hp1
      refine ⟨_, rfl, _, rfl, _, _, _, _, rfl, rfl, SqL.of hp2, atI_map_last _ _, one, fun p3 hp3 => ?_⟩
      have S3 := same_new hp3 (.lst [V.int i])
      have htl : (p0.take j).length ≤ p0.length := by rw [List.length_take]; omega
      refine ⟨_, _, _, _, rfl, rfl, S3 _ _ ec, upd_same, by rw [List.length_map, sizeLine_eq]; show _ + 1 ≤ _; omega, fun p4 hp4 => ?_⟩
      have S4 := S3.trans (same_new hp4 (.lst ((p0.take j).map V.int ++ [V.int i])))
      have e4 : upd (upd H2 p3 (.lst [V.int i])) p4 (.lst ((p0.take j).map V.int ++ [V.int i])) p4 = some (.lst ((p0.take j ++ [i]).map V.int)) := by rw [upd_same, List.map_append]; rfl
      generalize upd (upd H2 p3 (.lst [V.int i])) p4 (.lst ((p0.take j).map V.int ++ [V.int i])) = H4 at S4 e4
      have f4 : SqT K H4 a [.str "store", .int (j : Int)] := SqT.of (S4 _ _ ha2)
      refine ⟨_, rfl, _, rfl, _, _, _, _, rfl, rfl, f4, rfl, _, _, rfl, rfl, _, rfl, _, rfl, _, rfl, _, _, rfl, SqL.of (S4 _ _ hp2), fun p5 hp5 => ?_⟩
      have S5 := same_new hp5 (.lst (cutV ((p0 ++ [i]).map V.int) (some ((j : Int) + 1)) (some (-1))))
      have e5 : upd H4 p5 (.lst (cutV ((p0 ++ [i]).map V.int) (some ((j : Int) + 1)) (some (-1)))) p5 = some (.lst ((p0.drop (j + 1)).map V.int)) := by rw [upd_same, cut_mid _ _ _ hj]
      generalize upd H4 p5 (.lst (cutV ((p0 ++ [i]).map V.int) (some ((j : Int) + 1)) (some (-1)))) = H5 at S5 e5
      refine ⟨_, _, _, _, rfl, rfl, S5 _ _ e4, e5, by rw [List.length_map, List.length_map, List.length_append, List.length_take, List.length_drop, sizeLine_eq]; show _ + 1 + _ ≤ _; omega, fun p6 hp6 => ?_⟩
      have SS := Se.trans (Sc.trans (S4.trans S5))
      exact q p6 _ (SS.trans (same_new hp6 _)) (SS.free hp6) (by rw [upd_same, ← List.map_append, set_cut _ _ _ hj])
    | @op o i j p0 _ hm =>
      have f : SqT K H a [.str o.w] := SqT.of ha
      refine ⟨_, rfl, _, _, _, _, rfl, rfl, f, at0, rfl, _, rfl, iteF' (by cases o <;> decide +kernel) ?_⟩
      refine ⟨_, rfl, _, _, _, _, rfl, rfl, f, at0, rfl, _, rfl, iteF' (by cases o <;> decide +kernel) ?_⟩
      refine ⟨_, rfl, Nat.zero_le _, fun pe hpe => ⟨_, _, _, rfl, rfl, SqL.of (same_new hpe _ _ _ hp), SqL.of upd_same, _, rfl, iteF' (by simp) ?_⟩⟩
      have Se := same_new hpe (.lst [])
      have hp1 := Se _ _ hp
      have f1 := SqT.of (K := K) (Se _ _ ha)
      generalize upd H pe (.lst []) = H1 at Se hp1 f1
      refine ⟨_, rfl, _, _, _, _, rfl, rfl, f1, at0, rfl, _, rfl, iteF' (by cases o <;> decide +kernel) ?_⟩
      refine ⟨_, rfl, _, _, _, _, rfl, rfl, f1, at0, rfl, _, rfl, iteF' (by cases o <;> decide +kernel) ?_⟩
      refine ⟨_, rfl, _, _, _, _, rfl, rfl, f1, at0, rfl, _, rfl, iteF' (by cases o <;> decide +kernel) ?_⟩
      refine ⟨_, rfl, _, _, _, _, rfl, rfl, f1, at0, rfl, _, rfl, iteF' (by cases o <;> decide +kernel) ?_⟩
      have hl' : (p0 ++ [i] ++ [j]).length ≤ 1000000 := hl
      rw [List.length_append, List.length_append] at hl'
      refine ⟨_, rfl, _, _, rfl, .inl (SqL.of hp1), _, _, rfl, rfl, _, rfl, iteF' (decide_eq_false (by simp; omega)) ?_⟩
      refine ⟨_, rfl, _, rfl, _, rfl, _, _, rfl, SqL.of hp1, fun pc hpc => ?_⟩
      have Sc := same_new hpc (.lst (cutV ((p0 ++ [i] ++ [j]).map V.int) none (some (-2))))
      have ec : upd H1 pc (.lst (cutV ((p0 ++ [i] ++ [j]).map V.int) none (some (-2)))) pc = some (.lst (p0.map V.int)) := by rw [upd_same, cut_last2]
      have f2 := SqT.of (K := K) (Sc _ _ (Se _ _ ha))
      generalize upd H1 pc (.lst (cutV ((p0 ++ [i] ++ [j]).map V.int) none (some (-2)))) = H2 at Sc ec f2
      have hp2 := Sc _ _ hp1
      refine ⟨_, rfl, _, _, _, _, rfl, rfl, f2, at0, _, rfl, _, rfl, _, _, _, _, rfl, rfl, SqL.of hp2, at_last2 _ _ _, _, rfl, _, rfl, _, _, _, _, rfl, rfl, SqL.of hp2, atI_map_last _ _, ?_⟩
      refine ⟨o.w, i, j, o.f i j, rfl, .op hm, one, fun p3 hp3 => ?_⟩
      have S3 := same_new hp3 (.lst [V.int (o.f i j)])
      refine ⟨_, _, _, _, rfl, rfl, S3 _ _ ec, upd_same, by rw [List.length_map, sizeLine_eq]; show _ + 1 ≤ _; omega, fun p4 hp4 => ?_⟩
      exact q p4 _ (Se.trans (Sc.trans (S3.trans (same_new hp4 _)))) ((Se.trans (Sc.trans S3)).free hp4) (by rw [upd_same, List.map_append]; rfl)
    | @less i j p0 _ =>
      have f : SqT K H a [.str "less"] := SqT.of ha
      refine ⟨_, rfl, _, _, _, _, rfl, rfl, f, at0, rfl, _, rfl, iteF' (by decide +kernel) ?_⟩
      refine ⟨_, rfl, _, _, _, _, rfl, rfl, f, at0, rfl, _, rfl, iteF' (by decide +kernel) ?_⟩
      refine ⟨_, rfl, Nat.zero_le _, fun pe hpe => ⟨_, _, _, rfl, rfl, SqL.of (same_new hpe _ _ _ hp), SqL.of upd_same, _, rfl, iteF' (by simp) ?_⟩⟩
      have Se := same_new hpe (.lst [])
      have hp1 := Se _ _ hp
      have f1 := SqT.of (K := K) (Se _ _ ha)
      generalize upd H pe (.lst []) = H1 at Se hp1 f1
      refine ⟨_, rfl, _, _, _, _, rfl, rfl, f1, at0, rfl, _, rfl, iteF' (by decide +kernel) ?_⟩
      refine ⟨_, rfl, _, _, _, _, rfl, rfl, f1, at0, rfl, _, rfl, iteF' (by decide +kernel) ?_⟩
      refine ⟨_, rfl, _, _, _, _, rfl, rfl, f1, at0, rfl, _, rfl, iteF' (by decide +kernel) ?_⟩
      refine ⟨_, rfl, _, _, _, _, rfl, rfl, f1, at0, rfl, _, rfl, iteF' (by decide +kernel) ?_⟩
      have hl' : (p0 ++ [i] ++ [j]).length ≤ 1000000 := hl
      rw [List.length_append, List.length_append] at hl'
      refine ⟨_, rfl, _, _, rfl, .inl (SqL.of hp1), _, _, rfl, rfl, _, rfl, iteF' (decide_eq_false (by simp; omega)) ?_⟩
      refine ⟨_, rfl, _, rfl, _, rfl, _, _, rfl, SqL.of hp1, fun pc hpc => ?_⟩
      have Sc := same_new hpc (.lst (cutV ((p0 ++ [i] ++ [j]).map V.int) none (some (-2))))
      have ec : upd H1 pc (.lst (cutV ((p0 ++ [i] ++ [j]).map V.int) none (some (-2)))) pc = some (.lst (p0.map V.int)) := by rw [upd_same, cut_last2]
      have f2 := SqT.of (K := K) (Sc _ _ (Se _ _ ha))
      generalize upd H1 pc (.lst (cutV ((p0 ++ [i] ++ [j]).map V.int) none (some (-2)))) = H2 at Sc ec f2
      have hp2 := Sc _ _ hp1
      refine ⟨_, rfl, _, _, _, _, rfl, rfl, f2, at0, _, rfl, _, rfl, _, _, _, _, rfl, rfl, SqL.of hp2, at_last2 _ _ _, _, rfl, _, rfl, _, _, _, _, rfl, rfl, SqL.of hp2, atI_map_last _ _, ?_⟩
      refine ⟨"less", i, j, b2n (decide (i < j)), rfl, .less, one, fun p3 hp3 => ?_⟩
      have S3 := same_new hp3 (.lst [V.int (b2n (decide (i < j)))])
      refine ⟨_, _, _, _, rfl, rfl, S3 _ _ ec, upd_same, by rw [List.length_map, sizeLine_eq]; show _ + 1 ≤ _; omega, fun p4 hp4 => ?_⟩
      exact q p4 _ (Se.trans (Sc.trans (S3.trans (same_new hp4 _)))) ((Se.trans (Sc.trans S3)).free hp4) (by rw [upd_same, List.map_append]; rfl)
    | @same i j p0 _ =>
      have f : SqT K H a [.str "same"] := SqT.of ha
      refine ⟨_, rfl, _, _, _, _, rfl, rfl, f, at0, rfl, _, rfl, iteF' (by decide +kernel) ?_⟩
      refine ⟨_, rfl, _, _, _, _, rfl, rfl, f, at0, rfl, _, rfl, iteF' (by decide +kernel) ?_⟩
      refine ⟨_, rfl, Nat.zero_le _, fun pe hpe => ⟨_, _, _, rfl, rfl, SqL.of (same_new hpe _ _ _ hp), SqL.of upd_same, _, rfl, iteF' (by simp) ?_⟩⟩
      have Se := same_new hpe (.lst [])
      have hp1 := Se _ _ hp
      have f1 := SqT.of (K := K) (Se _ _ ha)
      generalize upd H pe (.lst []) = H1 at Se hp1 f1
      refine ⟨_, rfl, _, _, _, _, rfl, rfl, f1, at0, rfl, _, rfl, iteF' (by decide +kernel) ?_⟩
      refine ⟨_, rfl, _, _, _, _, rfl, rfl, f1, at0, rfl, _, rfl, iteF' (by decide +kernel) ?_⟩
      refine ⟨_, rfl, _, _, _, _, rfl, rfl, f1, at0, rfl, _, rfl, iteF' (by decide +kernel) ?_⟩
      refine ⟨_, rfl, _, _, _, _, rfl, rfl, f1, at0, rfl, _, rfl, iteF' (by decide +kernel) ?_⟩
      have hl' : (p0 ++ [i] ++ [j]).length ≤ 1000000 := hl
      rw [List.length_append, List.length_append] at hl'
      refine ⟨_, rfl, _, _, rfl, .inl (SqL.of hp1), _, _, rfl, rfl, _, rfl, iteF' (decide_eq_false (by simp; omega)) ?_⟩
      refine ⟨_, rfl, _, rfl, _, rfl, _, _, rfl, SqL.of hp1, fun pc hpc => ?_⟩
      have Sc := same_new hpc (.lst (cutV ((p0 ++ [i] ++ [j]).map V.int) none (some (-2))))
      have ec : upd H1 pc (.lst (cutV ((p0 ++ [i] ++ [j]).map V.int) none (some (-2)))) pc = some (.lst (p0.map V.int)) := by rw [upd_same, cut_last2]
      have f2 := SqT.of (K := K) (Sc _ _ (Se _ _ ha))
      generalize upd H1 pc (.lst (cutV ((p0 ++ [i] ++ [j]).map V.int) none (some (-2)))) = H2 at Sc ec f2
      have hp2 := Sc _ _ hp1
      refine ⟨_, rfl, _, _, _, _, rfl, rfl, f2, at0, _, rfl, _, rfl, _, _, _, _, rfl, rfl, SqL.of hp2, at_last2 _ _ _, _, rfl, _, rfl, _, _, _, _, rfl, rfl, SqL.of hp2, atI_map_last _ _, ?_⟩
      refine ⟨"same", i, j, b2n (decide (i = j)), rfl, .same, one, fun p3 hp3 => ?_⟩
      have S3 := same_new hp3 (.lst [V.int (b2n (decide (i = j)))])
      refine ⟨_, _, _, _, rfl, rfl, S3 _ _ ec, upd_same, by rw [List.length_map, sizeLine_eq]; show _ + 1 ≤ _; omega, fun p4 hp4 => ?_⟩
      exact q p4 _ (Se.trans (Sc.trans (S3.trans (same_new hp4 _)))) ((Se.trans (Sc.trans S3)).free hp4) (by rw [upd_same, List.map_append]; rfl)
  · cases hj with
    | @load k _ hk =>
      have f : SqT K H a [.str "load", .int k] := SqT.of ha
      refine ⟨_, rfl, _, _, _, _, rfl, rfl, f, at0, rfl, _, rfl, iteF' (by decide +kernel) ?_⟩
      refine ⟨_, rfl, _, _, _, _, rfl, rfl, f, at0, rfl, _, rfl, iteT' (by decide +kernel) ?_⟩
      refine ⟨_, rfl, _, _, _, _, rfl, rfl, f, rfl, _, _, rfl, rfl, _, rfl, ?_⟩
      by_cases h0 : k < 0
      · exact iteT' (decide_eq_true h0) (iteT (q _ (refl H)))
      refine iteF' (decide_eq_false h0) ?_
      exact ⟨_, rfl, _, _, _, _, rfl, rfl, f, rfl, _, rfl, _, _, rfl, .inl (SqL.of hp), _, _, rfl, rfl, _, rfl, iteT' (decide_eq_true (by rw [List.length_map]; omega)) (q _ (refl H))⟩
    | @store0 k =>
      have f : SqT K H a [.str "store", .int k] := SqT.of ha
      refine ⟨_, rfl, _, _, _, _, rfl, rfl, f, at0, rfl, _, rfl, iteF' (by decide +kernel) ?_⟩
      refine ⟨_, rfl, _, _, _, _, rfl, rfl, f, at0, rfl, _, rfl, iteF' (by decide +kernel) ?_⟩
      exact ⟨_, rfl, Nat.zero_le _, fun pe hpe => ⟨_, _, _, rfl, rfl, SqL.of (same_new hpe _ _ _ hp), SqL.of upd_same, _, rfl, iteT' rfl (q _ (same_new hpe _))⟩⟩
    | drop =>
      have f : SqT K H a [.str "drop"] := SqT.of ha
      refine ⟨_, rfl, _, _, _, _, rfl, rfl, f, at0, rfl, _, rfl, iteF' (by decide +kernel) ?_⟩
      refine ⟨_, rfl, _, _, _, _, rfl, rfl, f, at0, rfl, _, rfl, iteF' (by decide +kernel) ?_⟩
      exact ⟨_, rfl, Nat.zero_le _, fun pe hpe => ⟨_, _, _, rfl, rfl, SqL.of (same_new hpe _ _ _ hp), SqL.of upd_same, _, rfl, iteT' rfl (q _ (same_new hpe _))⟩⟩
    | say =>
      have f : SqT K H a [.str "say"] := SqT.of ha
      refine ⟨_, rfl, _, _, _, _, rfl, rfl, f, at0, rfl, _, rfl, iteF' (by decide +kernel) ?_⟩
      refine ⟨_, rfl, _, _, _, _, rfl, rfl, f, at0, rfl, _, rfl, iteF' (by decide +kernel) ?_⟩
      exact ⟨_, rfl, Nat.zero_le _, fun pe hpe => ⟨_, _, _, rfl, rfl, SqL.of (same_new hpe _ _ _ hp), SqL.of upd_same, _, rfl, iteT' rfl (q _ (same_new hpe _))⟩⟩
    | flip =>
      have f : SqT K H a [.str "flip"] := SqT.of ha
      refine ⟨_, rfl, _, _, _, _, rfl, rfl, f, at0, rfl, _, rfl, iteF' (by decide +kernel) ?_⟩
      refine ⟨_, rfl, _, _, _, _, rfl, rfl, f, at0, rfl, _, rfl, iteF' (by decide +kernel) ?_⟩
      exact ⟨_, rfl, Nat.zero_le _, fun pe hpe => ⟨_, _, _, rfl, rfl, SqL.of (same_new hpe _ _ _ hp), SqL.of upd_same, _, rfl, iteT' rfl (q _ (same_new hpe _))⟩⟩
    | @op0 o =>
      have f : SqT K H a [.str o.w] := SqT.of ha
      refine ⟨_, rfl, _, _, _, _, rfl, rfl, f, at0, rfl, _, rfl, iteF' (by cases o <;> decide +kernel) ?_⟩
      refine ⟨_, rfl, _, _, _, _, rfl, rfl, f, at0, rfl, _, rfl, iteF' (by cases o <;> decide +kernel) ?_⟩
      exact ⟨_, rfl, Nat.zero_le _, fun pe hpe => ⟨_, _, _, rfl, rfl, SqL.of (same_new hpe _ _ _ hp), SqL.of upd_same, _, rfl, iteT' rfl (q _ (same_new hpe _))⟩⟩
    | less0 =>
      have f : SqT K H a [.str "less"] := SqT.of ha
      refine ⟨_, rfl, _, _, _, _, rfl, rfl, f, at0, rfl, _, rfl, iteF' (by decide +kernel) ?_⟩
      refine ⟨_, rfl, _, _, _, _, rfl, rfl, f, at0, rfl, _, rfl, iteF' (by decide +kernel) ?_⟩
      exact ⟨_, rfl, Nat.zero_le _, fun pe hpe => ⟨_, _, _, rfl, rfl, SqL.of (same_new hpe _ _ _ hp), SqL.of upd_same, _, rfl, iteT' rfl (q _ (same_new hpe _))⟩⟩
    | same0 =>
      have f : SqT K H a [.str "same"] := SqT.of ha
      refine ⟨_, rfl, _, _, _, _, rfl, rfl, f, at0, rfl, _, rfl, iteF' (by decide +kernel) ?_⟩
      refine ⟨_, rfl, _, _, _, _, rfl, rfl, f, at0, rfl, _, rfl, iteF' (by decide +kernel) ?_⟩
      exact ⟨_, rfl, Nat.zero_le _, fun pe hpe => ⟨_, _, _, rfl, rfl, SqL.of (same_new hpe _ _ _ hp), SqL.of upd_same, _, rfl, iteT' rfl (q _ (same_new hpe _))⟩⟩
    | @store k i p0 hk =>
      have f : SqT K H a [.str "store", .int k] := SqT.of ha
      refine ⟨_, rfl, _, _, _, _, rfl, rfl, f, at0, rfl, _, rfl, iteF' (by decide +kernel) ?_⟩
      refine ⟨_, rfl, _, _, _, _, rfl, rfl, f, at0, rfl, _, rfl, iteF' (by decide +kernel) ?_⟩
      refine ⟨_, rfl, Nat.zero_le _, fun pe hpe => ⟨_, _, _, rfl, rfl, SqL.of (same_new hpe _ _ _ hp), SqL.of upd_same, _, rfl, iteF' (by simp) ?_⟩⟩
      have Se := same_new hpe (.lst [])
      have hp1 := Se _ _ hp
      have f1 := SqT.of (K := K) (Se _ _ ha)
      generalize upd H pe (.lst []) = H1 at Se hp1 f1
      refine ⟨_, rfl, _, _, _, _, rfl, rfl, f1, at0, rfl, _, rfl, iteF' (by decide +kernel) ?_⟩
      refine ⟨_, rfl, _, _, _, _, rfl, rfl, f1, at0, rfl, _, rfl, iteF' (by decide +kernel) ?_⟩
      refine ⟨_, rfl, _, _, _, _, rfl, rfl, f1, at0, rfl, _, rfl, iteF' (by decide +kernel) ?_⟩
      refine ⟨_, rfl, _, _, _, _, rfl, rfl, f1, at0, rfl, _, rfl, iteT' (by decide +kernel) ?_⟩
      have hl2 : ((p0 ++ [i]).map V.int).length = p0.length + 1 := by simp
      refine ⟨_, rfl, _, _, _, _, rfl, rfl, f1, rfl, _, _, rfl, rfl, _, rfl, ?_⟩
      by_cases h0 : k < 0
      · exact iteT' (decide_eq_true h0) (iteT (q _ Se))
      refine iteF' (decide_eq_false h0) ?_
      exact ⟨_, rfl, _, _, _, _, rfl, rfl, f1, rfl, _, rfl, _, _, rfl, .inl (SqL.of hp1), _, _, rfl, rfl, _, _, rfl, rfl, _, rfl, iteT' (decide_eq_true (by rw [hl2]; omega)) (q _ Se)⟩
    | @op1 o i =>
      have f : SqT K H a [.str o.w] := SqT.of ha
      refine ⟨_, rfl, _, _, _, _, rfl, rfl, f, at0, rfl, _, rfl, iteF' (by cases o <;> decide +kernel) ?_⟩
      refine ⟨_, rfl, _, _, _, _, rfl, rfl, f, at0, rfl, _, rfl, iteF' (by cases o <;> decide +kernel) ?_⟩
      refine ⟨_, rfl, Nat.zero_le _, fun pe hpe => ⟨_, _, _, rfl, rfl, SqL.of (same_new hpe _ _ _ hp), SqL.of upd_same, _, rfl, iteF' (by simp) ?_⟩⟩
      have Se := same_new hpe (.lst [])
      have hp1 := Se _ _ hp
      have f1 := SqT.of (K := K) (Se _ _ ha)
      generalize upd H pe (.lst []) = H1 at Se hp1 f1
      refine ⟨_, rfl, _, _, _, _, rfl, rfl, f1, at0, rfl, _, rfl, iteF' (by cases o <;> decide +kernel) ?_⟩
      refine ⟨_, rfl, _, _, _, _, rfl, rfl, f1, at0, rfl, _, rfl, iteF' (by cases o <;> decide +kernel) ?_⟩
      refine ⟨_, rfl, _, _, _, _, rfl, rfl, f1, at0, rfl, _, rfl, iteF' (by cases o <;> decide +kernel) ?_⟩
      refine ⟨_, rfl, _, _, _, _, rfl, rfl, f1, at0, rfl, _, rfl, iteF' (by cases o <;> decide +kernel) ?_⟩
      exact ⟨_, rfl, _, _, rfl, .inl (SqL.of hp1), _, _, rfl, rfl, _, rfl, iteT' (decide_eq_true (by simp)) (q _ Se)⟩
    | @less1 i =>
      have f : SqT K H a [.str "less"] := SqT.of ha
      refine ⟨_, rfl, _, _, _, _, rfl, rfl, f, at0, rfl, _, rfl, iteF' (by decide +kernel) ?_⟩
      refine ⟨_, rfl, _, _, _, _, rfl, rfl, f, at0, rfl, _, rfl, iteF' (by decide +kernel) ?_⟩
      refine ⟨_, rfl, Nat.zero_le _, fun pe hpe => ⟨_, _, _, rfl, rfl, SqL.of (same_new hpe _ _ _ hp), SqL.of upd_same, _, rfl, iteF' (by simp) ?_⟩⟩
      have Se := same_new hpe (.lst [])
      have hp1 := Se _ _ hp
      have f1 := SqT.of (K := K) (Se _ _ ha)
      generalize upd H pe (.lst []) = H1 at Se hp1 f1
      refine ⟨_, rfl, _, _, _, _, rfl, rfl, f1, at0, rfl, _, rfl, iteF' (by decide +kernel) ?_⟩
      refine ⟨_, rfl, _, _, _, _, rfl, rfl, f1, at0, rfl, _, rfl, iteF' (by decide +kernel) ?_⟩
      refine ⟨_, rfl, _, _, _, _, rfl, rfl, f1, at0, rfl, _, rfl, iteF' (by decide +kernel) ?_⟩
      refine ⟨_, rfl, _, _, _, _, rfl, rfl, f1, at0, rfl, _, rfl, iteF' (by decide +kernel) ?_⟩
      exact ⟨_, rfl, _, _, rfl, .inl (SqL.of hp1), _, _, rfl, rfl, _, rfl, iteT' (decide_eq_true (by simp)) (q _ Se)⟩
    | @same1 i =>
      have f : SqT K H a [.str "same"] := SqT.of ha
      refine ⟨_, rfl, _, _, _, _, rfl, rfl, f, at0, rfl, _, rfl, iteF' (by decide +kernel) ?_⟩
      refine ⟨_, rfl, _, _, _, _, rfl, rfl, f, at0, rfl, _, rfl, iteF' (by decide +kernel) ?_⟩
      refine ⟨_, rfl, Nat.zero_le _, fun pe hpe => ⟨_, _, _, rfl, rfl, SqL.of (same_new hpe _ _ _ hp), SqL.of upd_same, _, rfl, iteF' (by simp) ?_⟩⟩
      have Se := same_new hpe (.lst [])
      have hp1 := Se _ _ hp
      have f1 := SqT.of (K := K) (Se _ _ ha)
      generalize upd H pe (.lst []) = H1 at Se hp1 f1
      refine ⟨_, rfl, _, _, _, _, rfl, rfl, f1, at0, rfl, _, rfl, iteF' (by decide +kernel) ?_⟩
      refine ⟨_, rfl, _, _, _, _, rfl, rfl, f1, at0, rfl, _, rfl, iteF' (by decide +kernel) ?_⟩
      refine ⟨_, rfl, _, _, _, _, rfl, rfl, f1, at0, rfl, _, rfl, iteF' (by decide +kernel) ?_⟩
      refine ⟨_, rfl, _, _, _, _, rfl, rfl, f1, at0, rfl, _, rfl, iteF' (by decide +kernel) ?_⟩
      exact ⟨_, rfl, _, _, rfl, .inl (SqL.of hp1), _, _, rfl, rfl, _, rfl, iteT' (decide_eq_true (by simp)) (q _ Se)⟩
end
end W08

set_option Elab.async false
set_option linter.all false
set_option maxRecDepth 100000
set_option maxHeartbeats 4000000
namespace W08
open PySem L2 J
section
variable {P : Program} {w : World} {K : PySem.W.Frag} {mg : Str → Option Value} {base : Heap}
/-! ### _law_hop, _law_behind_it -/
inductive Hop (N : Nat) : Cd → Nat → List Int → Option (Nat × List Int) → Prop where
  | skip {n k : Nat} {p : List Int} : k + 1 + n ≤ N → Hop N (.skip (n : Int)) k p (some (k + 1 + n, p))
  | skipJ {n : Int} {k : Nat} {p : List Int} : ¬ (0 ≤ n ∧ (k : Int) + 1 + n ≤ (N : Int)) → Hop N (.skip n) k p none
  | fork0 {n : Int} {k : Nat} : Hop N (.fork n) k [] none
  | fork1 {n i : Int} {k : Nat} {p : List Int} : i ≠ 0 → Hop N (.fork n) k (p ++ [i]) (some (k + 1, p))
  | fork2 {n k : Nat} {p : List Int} : k + 1 + n ≤ N → Hop N (.fork (n : Int)) k (p ++ [0]) (some (k + 1 + n, p))
  | forkJ {n : Int} {k : Nat} {p : List Int} : ¬ (0 ≤ n ∧ (k : Int) + 1 + n ≤ (N : Int)) → Hop N (.fork n) k (p ++ [0]) none
def spHop (K : PySem.W.Frag) : Sp := fun vs H Q _ => ∃ (a lp : Addr) (c : Cd) (k l N : Nat) (pile : List Int) (o : Option (Nat × List Int)), vs = [.ref a, .int (k : Int), .ref lp, .int (l : Int), .int (N : Int)] ∧ H a = some (.tup c.vs) ∧ H lp = some (.lst (pile.map V.int)) ∧ Hop N c k pile o ∧
  (∀ k' p', o = some (k', p') → ∀ b lq H', Same H H' → H' b = some (.tup [.int (k' : Int), .ref lq, .int (l : Int)]) → (lq = lp ∨ H lq = none) → H' lq = some (.lst (p'.map V.int)) → Q (.ref b) H') ∧ (o = none → ∀ H', Same H H' → Q .non H')
theorem ok_law_hop (T : Txt K mg) : FnOk P w K mg base CX0 1 T.f_law_hop T.fd_law_hop ["_law_card", "_law_place", "_law_pile", "_law_left", "_law_size"] (spHop K) := by
  refine T.law_hop.F.ok sc_law_hop (fun vs H Q E h => ?_) (fun cdv A outer s H vs Q E hr h => ?_)
  · obtain ⟨a, lp, c, k, l, N, pile, o, rfl, _⟩ := h; rfl
  obtain ⟨a, lp, c, k, l, N, pile, o, rfl, ha, hp, hh, q, qn⟩ := h
  refine ⟨_, (pss_consM (ps_if (pt_cmpR op_eq (pe_ix ix_tup (pv 0) pe_int (fun _ _ => rfl)) pe_str (nomark _)) (pss_cons (ps_if (pt_cmpR (op_eqNil hr.units0) (pv 2) (pe_lst pa_nil) (nomark _)) (pss_one (ps_ret pe_non)) pss_nil)
    (pss_cons (ps_if (pt_cmpR op_ne (pe_ix ix_list (pv 2) (pe_un un_neg pe_int) (fun _ _ => rfl)) pe_int (nomark _)) (pss_one (ps_ret (pe_tup (pa_cons (pe_op op_add (pv 1) pe_int) (pa_cons (pe_slice sl_list (pv 2) po_none (po_some (pe_un un_neg pe_int))) (pa_cons (pv 3) pa_nil)))))) pss_nil)
    (pss_one (ps_set (i := 2) sc_law_hop.nd rfl (Or.inl rfl) (pe_slice sl_list (pv 2) po_none (po_some (pe_un un_neg pe_int))))))) pss_nil)
    (pss_cons (ps_if (PW.pt (pw_or (pt_cmpR op_lt (pe_ix ix_tup (pv 0) pe_int (fun _ _ => rfl)) pe_int (nomark _)) (pw_or1 (pt_cmpR op_gt (pe_op op_add (pe_op op_add (pv 1) pe_int) (pe_ix ix_tup (pv 0) pe_int (fun _ _ => rfl))) (pv 4) (nomark _))))) (pss_one (ps_ret pe_non)) pss_nil)
    (pss_one (ps_ret (pe_tup (pa_cons (pe_op op_add (pe_op op_add (pv 1) pe_int) (pe_ix ix_tup (pv 0) pe_int (fun _ _ => rfl))) (pa_cons (pv 2) (pa_cons (pv 3) pa_nil)))))))), ?_⟩
  try dsimp only [kx, kxb]
  have three : (3 : Nat) ≤ sizeLine := by decide
  have refl : ∀ G : Hp, Same G G := fun _ _ _ h => h
  -- the end of it
  have fin : ∀ {G : Hp} {lq : Addr} {n : Nat} {p' : List Int} {wd : Str}, Same H G → G a = some (.tup [.str wd, .int (n : Int)]) → G lq = some (.lst (p'.map V.int)) → (lq = lp ∨ H lq = none) → k + 1 + n ≤ N → o = some (k + 1 + n, p') →
      tSeq (tIfS (tOr (tTest (tOp (rI0 fun i j => V.bl (decide (i < j))) (tOp (rIxT K) (tVar 0) (tC (V.int 1))) (tC (V.int 0)))) (tTest (tOp (rI0 fun i j => V.bl (decide (i > j))) (tOp (rI0 fun i j => V.int (i + j)) (tOp (rI0 fun i j => V.int (i + j)) (tVar 1) (tC (V.int 1))) (tOp (rIxT K) (tVar 0) (tC (V.int 1)))) (tVar 4)))) (tRet (tC V.non)) tNext)
        (tRet (tTup (tCons (tOp (rI0 fun i j => V.int (i + j)) (tOp (rI0 fun i j => V.int (i + j)) (tVar 1) (tC (V.int 1))) (tOp (rIxT K) (tVar 0) (tC (V.int 1)))) (tCons (tVar 2) (tCons (tVar 3) tNil)))))
        { nx := fun _ H' => Q V.non H', rt := Q } [some (.ref a), some (.int (k : Int)), some (.ref lq), some (.int (l : Int)), some (.int (N : Int))] G := fun {G lq n p' wd} S ea ep hq hle ho => by
    have f : SqT K G a [.str wd, .int (n : Int)] := SqT.of ea
    refine ⟨_, rfl, _, _, _, _, rfl, rfl, f, rfl, _, _, rfl, rfl, _, rfl, iteF' (decide_eq_false (by omega)) ?_⟩
    refine ⟨_, rfl, _, _, rfl, rfl, _, rfl, _, _, _, _, rfl, rfl, f, rfl, _, _, rfl, rfl, _, rfl, _, _, rfl, rfl, _, rfl, iteF' (decide_eq_false (by omega)) ?_⟩
    refine ⟨_, rfl, _, _, rfl, rfl, _, rfl, _, _, _, _, rfl, rfl, f, rfl, _, _, rfl, rfl, _, rfl, _, rfl, three, fun b hb => ?_⟩
    have Sb := same_new hb (.tup [.int ((k : Int) + 1 + (n : Int)), .ref lq, .int (l : Int)])
    have ek : ((k : Int) + 1 + (n : Int)) = ((k + 1 + n : Nat) : Int) := by omega
    exact q _ _ ho b lq _ (S.trans Sb) (by rw [upd_same]; show some (HO.tup [V.int ((k:Int)+1+(n:Int)), .ref lq, .int (l:Int)]) = _; rw [ek]) hq (Sb _ _ ep)
  have finJ : ∀ {G : Hp} {lq : Addr} {n : Int} {wd : Str}, Same H G → G a = some (.tup [.str wd, .int n]) → ¬ (0 ≤ n ∧ (k : Int) + 1 + n ≤ (N : Int)) → o = none →
      tSeq (tIfS (tOr (tTest (tOp (rI0 fun i j => V.bl (decide (i < j))) (tOp (rIxT K) (tVar 0) (tC (V.int 1))) (tC (V.int 0)))) (tTest (tOp (rI0 fun i j => V.bl (decide (i > j))) (tOp (rI0 fun i j => V.int (i + j)) (tOp (rI0 fun i j => V.int (i + j)) (tVar 1) (tC (V.int 1))) (tOp (rIxT K) (tVar 0) (tC (V.int 1)))) (tVar 4)))) (tRet (tC V.non)) tNext)
        (tRet (tTup (tCons (tOp (rI0 fun i j => V.int (i + j)) (tOp (rI0 fun i j => V.int (i + j)) (tVar 1) (tC (V.int 1))) (tOp (rIxT K) (tVar 0) (tC (V.int 1)))) (tCons (tVar 2) (tCons (tVar 3) tNil)))))
        { nx := fun _ H' => Q V.non H', rt := Q } [some (.ref a), some (.int (k : Int)), some (.ref lq), some (.int (l : Int)), some (.int (N : Int))] G := fun {G lq n wd} S ea hn ho => by
    have f : SqT K G a [.str wd, .int n] := SqT.of ea
    refine ⟨_, rfl, _, _, _, _, rfl, rfl, f, rfl, _, _, rfl, rfl, _, rfl, ?_⟩
    by_cases h0 : n < 0
    · exact iteT' (decide_eq_true h0) (iteT (qn ho _ S))
    refine iteF' (decide_eq_false h0) ?_
    exact ⟨_, rfl, _, _, rfl, rfl, _, rfl, _, _, _, _, rfl, rfl, f, rfl, _, _, rfl, rfl, _, rfl, _, _, rfl, rfl, _, rfl, iteT' (decide_eq_true (by omega)) (qn ho _ S)⟩
  cases hh with
  | @skip n _ _ hle =>
    have f : SqT K H a [.str "skip", .int (n : Int)] := SqT.of ha
    refine ⟨fun σ' H' => σ' = [some (.ref a), some (.int (k : Int)), some (.ref lp), some (.int (l : Int)), some (.int (N : Int))] ∧ H' = H, ⟨_, rfl, _, _, _, _, rfl, rfl, f, at0, rfl, _, rfl, iteF' (by decide +kernel) ⟨rfl, rfl⟩⟩, ?_⟩
    rintro σ' H' ⟨rfl, rfl⟩
    exact fin (refl _) ha hp (.inl rfl) hle rfl
  | @skipJ n _ _ hn =>
    have f : SqT K H a [.str "skip", .int n] := SqT.of ha
    refine ⟨fun σ' H' => σ' = [some (.ref a), some (.int (k : Int)), some (.ref lp), some (.int (l : Int)), some (.int (N : Int))] ∧ H' = H, ⟨_, rfl, _, _, _, _, rfl, rfl, f, at0, rfl, _, rfl, iteF' (by decide +kernel) ⟨rfl, rfl⟩⟩, ?_⟩
    rintro σ' H' ⟨rfl, rfl⟩
    exact finJ (refl _) ha hn rfl
  | @fork0 n _ =>
    have f : SqT K H a [.str "fork", .int n] := SqT.of ha
    refine ⟨fun _ _ => False, ?_, fun _ _ z => z.elim⟩
    refine ⟨_, rfl, _, _, _, _, rfl, rfl, f, at0, rfl, _, rfl, iteT' (by decide +kernel) ?_⟩
    exact ⟨_, rfl, Nat.zero_le _, fun pe hpe => ⟨_, _, _, rfl, rfl, SqL.of (same_new hpe _ _ _ hp), SqL.of upd_same, _, rfl, iteT' rfl (qn rfl _ (same_new hpe _))⟩⟩
  | @fork1 n i _ p0 hi =>
    have f : SqT K H a [.str "fork", .int n] := SqT.of ha
    refine ⟨fun _ _ => False, ?_, fun _ _ z => z.elim⟩
    refine ⟨_, rfl, _, _, _, _, rfl, rfl, f, at0, rfl, _, rfl, iteT' (by decide +kernel) ?_⟩
    refine ⟨_, rfl, Nat.zero_le _, fun pe hpe => ⟨_, _, _, rfl, rfl, SqL.of (same_new hpe _ _ _ hp), SqL.of upd_same, _, rfl, iteF' (by simp) ?_⟩⟩
    have Se := same_new hpe (.lst [])
    have hp1 := Se _ _ hp
    generalize upd H pe (.lst []) = H1 at Se hp1
    have dn : (!decide (V.int i = V.int 0)) = true := by
      rw [decide_eq_false (fun z => hi (by injection z))]; rfl
    refine ⟨_, rfl, _, rfl, _, _, _, _, rfl, rfl, SqL.of hp1, atI_map_last _ _, rfl, _, rfl, iteT' dn ?_⟩
    refine ⟨_, rfl, _, _, rfl, rfl, _, rfl, _, rfl, _, rfl, _, _, rfl, SqL.of hp1, fun pc hpc => ?_⟩
    have Sc := same_new hpc (.lst (cutV ((p0 ++ [i]).map V.int) none (some (-1))))
    have ec : upd H1 pc (.lst (cutV ((p0 ++ [i]).map V.int) none (some (-1)))) pc = some (.lst (p0.map V.int)) := by rw [upd_same, cut_last]
    generalize upd H1 pc (.lst (cutV ((p0 ++ [i]).map V.int) none (some (-1)))) = H2 at Sc ec
    refine ⟨_, rfl, three, fun b hb => ?_⟩
    have Sb := same_new hb (.tup [.int ((k : Int) + 1), .ref pc, .int (l : Int)])
    exact q _ _ rfl b pc _ (Se.trans (Sc.trans Sb)) upd_same (.inr (Se.free hpc)) (Sb _ _ ec)
  | @fork2 n _ p0 hle =>
    have f : SqT K H a [.str "fork", .int (n : Int)] := SqT.of ha
    refine ⟨fun σ' H' => ∃ lq, σ' = [some (.ref a), some (.int (k : Int)), some (.ref lq), some (.int (l : Int)), some (.int (N : Int))] ∧ Same H H' ∧ H lq = none ∧ H' lq = some (.lst (p0.map V.int)), ?_, ?_⟩
    · refine ⟨_, rfl, _, _, _, _, rfl, rfl, f, at0, rfl, _, rfl, iteT' (by decide +kernel) ?_⟩
      refine ⟨_, rfl, Nat.zero_le _, fun pe hpe => ⟨_, _, _, rfl, rfl, SqL.of (same_new hpe _ _ _ hp), SqL.of upd_same, _, rfl, iteF' (by simp) ?_⟩⟩
      have Se := same_new hpe (.lst [])
      have hp1 := Se _ _ hp
      generalize upd H pe (.lst []) = H1 at Se hp1
      refine ⟨_, rfl, _, rfl, _, _, _, _, rfl, rfl, SqL.of hp1, atI_map_last _ _, rfl, _, rfl, iteF' (by simp) ?_⟩
      refine ⟨_, rfl, _, rfl, _, rfl, _, _, rfl, SqL.of hp1, fun pc hpc => ?_⟩
      exact ⟨pc, rfl, Se.trans (same_new hpc _), Se.free hpc, by rw [upd_same, cut_last]⟩
    · rintro σ' H' ⟨lq, rfl, S, hq, eq⟩
      exact fin S (S _ _ ha) eq (.inr hq) hle rfl
  | @forkJ n _ p0 hn =>
    have f : SqT K H a [.str "fork", .int n] := SqT.of ha
    refine ⟨fun σ' H' => ∃ lq, σ' = [some (.ref a), some (.int (k : Int)), some (.ref lq), some (.int (l : Int)), some (.int (N : Int))] ∧ Same H H', ?_, ?_⟩
    · refine ⟨_, rfl, _, _, _, _, rfl, rfl, f, at0, rfl, _, rfl, iteT' (by decide +kernel) ?_⟩
      refine ⟨_, rfl, Nat.zero_le _, fun pe hpe => ⟨_, _, _, rfl, rfl, SqL.of (same_new hpe _ _ _ hp), SqL.of upd_same, _, rfl, iteF' (by simp) ?_⟩⟩
      have Se := same_new hpe (.lst [])
      have hp1 := Se _ _ hp
      generalize upd H pe (.lst []) = H1 at Se hp1
      refine ⟨_, rfl, _, rfl, _, _, _, _, rfl, rfl, SqL.of hp1, atI_map_last _ _, rfl, _, rfl, iteF' (by simp) ?_⟩
      refine ⟨_, rfl, _, rfl, _, rfl, _, _, rfl, SqL.of hp1, fun pc hpc => ?_⟩
      exact ⟨pc, rfl, Se.trans (same_new hpc _)⟩
    · rintro σ' H' ⟨lq, rfl, S⟩
      exact finJ S (S _ _ ha) hn rfl
def spBeh (K : PySem.W.Frag) : Sp := fun vs H Q _ => ∃ (lc lp : Addr) (ws : List V) (cs : List Cd) (k l : Nat) (pile said : List Int), vs = [.ref lc, .int (k : Int), .ref lp, .int (l : Int)] ∧ H lc = some (.lst ws) ∧ Cds H ws cs ∧ H lp = some (.lst (pile.map V.int)) ∧ pile.length ≤ 1000000 ∧
  ((∃ k' p' l' s', MStp cs k pile l said k' p' l' s' ∧ ∀ b lq H', Same H H' → H' b = some (.tup [.int (k' : Int), .ref lq, .int (l' : Int)]) → (lq = lp ∨ H lq = none) → H' lq = some (.lst (p'.map V.int)) → Q (.ref b) H') ∨ (JStp cs k pile l ∧ ∀ H', Same H H' → Q .non H'))
theorem ok_law_behind_it (T : Txt K mg) : FnOk P w K mg base CX0 3 T.f_law_behind_it T.fd_law_behind_it ["_law_cards", "_law_place", "_law_pile", "_law_left"] (spBeh K) := by
  have G_law_on_pile := ok_law_on_pile (P := P) (w := w) (base := base) T
  have G_law_hop := (ok_law_hop (P := P) (w := w) (base := base) T).mono (show 1 ≤ 2 by omega)
  refine T.law_behind_it.F.ok sc_law_behind_it (fun vs H Q E h => ?_) (fun cdv A outer s H vs Q E hr h => ?_)
  · obtain ⟨lc, lp, ws, cs, k, l, pile, said, rfl, _⟩ := h; rfl
  obtain ⟨lc, lp, ws, cs, k, l, pile, said, rfl, hc, hC, hp, hpl, hway⟩ := h
  refine ⟨_, (pss_cons (ps_set (i := 4) sc_law_behind_it.nd rfl (Or.inl rfl) (pe_ix ix_list (pv 0) (pv 1) (fun _ _ => rfl)))
    (pss_cons (ps_if (pt_cmpR op_eq (pe_ix ix_tup (pv 4) pe_int (fun _ _ => rfl)) pe_str (nomark _)) (pss_one (ps_ret (pe_tup (pa_cons (pe_op op_add (pv 1) pe_int) (pa_cons (pv 2) (pa_cons (pe_op op_sub (pv 3) pe_int) pa_nil)))))) pss_nil)
    (pss_cons (ps_if (pt_cmpR op_eq (pe_ix ix_tup (pv 4) pe_int (fun _ _ => rfl)) pe_str (nomark _)) (pss_cons (ps_if (PW.pt (pw_or (pt_cmpR op_lt (pe_ix ix_tup (pv 4) pe_int (fun _ _ => rfl)) pe_int (nomark _)) (pw_or1 (pt_cmpR op_gt (pe_ix ix_tup (pv 4) pe_int (fun _ _ => rfl)) (pv 1) (nomark _))))) (pss_one (ps_ret pe_non)) pss_nil)
    (pss_one (ps_ret (pe_tup (pa_cons (pe_op op_sub (pv 1) (pe_ix ix_tup (pv 4) pe_int (fun _ _ => rfl))) (pa_cons (pv 2) (pa_cons (pe_op op_sub (pv 3) pe_int) pa_nil))))))) pss_nil)
    (pss_cons (ps_if (PW.pt (pw_or (pt_cmpR op_eq (pe_ix ix_tup (pv 4) pe_int (fun _ _ => rfl)) pe_str (nomark _)) (pw_or1 (pt_cmpR op_eq (pe_ix ix_tup (pv 4) pe_int (fun _ _ => rfl)) pe_str (nomark _))))) (pss_one (ps_ret (pe_call G_law_hop hr rfl T.law_hop.m T.law_hop.F.kp T.law_hop.b .nil pass0 (pa_cons (pv 4) (pa_cons (pv 1) (pa_cons (pv 2) (pa_cons (pv 3) (pa_cons (pe_callB call_len_seq rfl T.b_len PySem.boot_len (pa_cons (pv 0) pa_nil)) pa_nil)))))))) pss_nil)
    (pss_cons (ps_set (i := 5) sc_law_behind_it.nd rfl (Or.inl rfl) (pe_call G_law_on_pile hr rfl T.law_on_pile.m T.law_on_pile.F.kp T.law_on_pile.b .nil pass0 (pa_cons (pv 4) (pa_cons (pv 2) pa_nil))))
    (pss_cons (ps_if (pt_cmpR op_isN (pv 5) pe_non (nomark _)) (pss_one (ps_ret pe_non)) pss_nil)
    (pss_one (ps_ret (pe_tup (pa_cons (pe_op op_add (pv 1) pe_int) (pa_cons (pv 5) (pa_cons (pv 3) pa_nil)))))))))))), ?_⟩
  try dsimp only [kx, kxb]
  have three : (3 : Nat) ≤ sizeLine := by decide
  have refl : ∀ G : Hp, Same G G := fun _ _ _ h => h
  have hlen := hC.len
  have hlt : ∃ c, cs[k]? = some c := by
    rcases hway with ⟨_, _, _, _, st, _⟩ | ⟨j, _⟩
    · obtain ⟨c, e, _⟩ := st.lt; exact ⟨c, e⟩
    · obtain ⟨c, e, _⟩ := j.lt; exact ⟨c, e⟩
  obtain ⟨c, hck⟩ := hlt
  obtain ⟨v, hv, ca, rfl, hca⟩ := Cds.get' hC hck
  obtain ⟨rr, ev⟩ := Cd.hd c
  have f0 : SqT K H ca (.str c.wd :: rr) := by rw [← ev]; exact SqT.of hca
  refine ⟨_, rfl, _, rfl, _, _, _, _, rfl, rfl, SqL.of hc, atI_nat hv, ?_⟩
  rcases hway with ⟨k', p', l', s', st, q⟩ | ⟨j, q⟩
  · cases st with
    | pile e ho =>
      rw [hck] at e; cases e
      obtain ⟨h1, h2, h3, h4⟩ := ho.hops
      refine ⟨_, rfl, _, _, _, _, rfl, rfl, f0, at0, rfl, _, rfl, iteF' h3 ?_⟩
      refine ⟨_, rfl, _, _, _, _, rfl, rfl, f0, at0, rfl, _, rfl, iteF' h4 ?_⟩
      refine ⟨_, rfl, _, _, _, _, rfl, rfl, f0, at0, rfl, _, rfl, iteF' h2 ?_⟩
      refine ⟨_, rfl, _, _, _, _, rfl, rfl, f0, at0, rfl, _, rfl, iteF' h1 ?_⟩
      refine ⟨_, rfl, _, rfl, ca, lp, c, pile, said, rfl, hca, hp, hpl, ?_⟩
      refine .inl ⟨p', s', ho, fun qa H1 S1 fq eq => ?_⟩
      refine ⟨_, rfl, rfl, _, rfl, iteF' (by simp) ?_⟩
      refine ⟨_, rfl, _, _, rfl, rfl, _, rfl, _, rfl, three, fun b hb => ?_⟩
      have Sb := same_new hb (.tup [.int ((k : Int) + 1), .ref qa, .int (l : Int)])
      exact q b qa _ (S1.trans Sb) upd_same (.inr fq) (Sb _ _ eq)
    | burn e =>
      rw [hck] at e; cases e
      have f : SqT K H ca [.str "burn"] := SqT.of hca
      refine ⟨_, rfl, _, _, _, _, rfl, rfl, f, at0, rfl, _, rfl, iteT' (by decide +kernel) ?_⟩
      refine ⟨_, rfl, _, _, rfl, rfl, _, rfl, _, rfl, _, _, rfl, rfl, three, fun b hb => ?_⟩
      have Sb := same_new hb (.tup [.int ((k : Int) + 1), .ref lp, .int (((l' + 1 : Nat) : Int) - 1)])
      have el : (((l' + 1 : Nat) : Int) - 1) = (l' : Int) := by omega
      exact q b lp _ Sb (by rw [upd_same]; show some (HO.tup [V.int ((k:Int)+1), .ref lp, .int (((l' + 1 : Nat) : Int) - 1)]) = _; rw [el]; rfl) (.inl rfl) (Sb _ _ hp)
    | back e hn =>
      rename_i n
      rw [hck] at e; cases e
      have f : SqT K H ca [.str "back", .int (n : Int)] := SqT.of hca
      refine ⟨_, rfl, _, _, _, _, rfl, rfl, f, at0, rfl, _, rfl, iteF' (by decide +kernel) ?_⟩
      refine ⟨_, rfl, _, _, _, _, rfl, rfl, f, at0, rfl, _, rfl, iteT' (by decide +kernel) ?_⟩
      refine ⟨_, rfl, _, _, _, _, rfl, rfl, f, rfl, _, _, rfl, rfl, _, rfl, iteF' (decide_eq_false (by omega)) ?_⟩
      refine ⟨_, rfl, _, _, _, _, rfl, rfl, f, rfl, _, rfl, _, _, rfl, rfl, _, rfl, iteF' (decide_eq_false (by omega)) ?_⟩
      refine ⟨_, rfl, _, rfl, _, _, _, _, rfl, rfl, f, rfl, _, _, rfl, rfl, _, rfl, _, rfl, _, _, rfl, rfl, three, fun b hb => ?_⟩
      have Sb := same_new hb (.tup [.int ((k : Int) - (n : Int)), .ref lp, .int (((l' + 1 : Nat) : Int) - 1)])
      have el : (((l' + 1 : Nat) : Int) - 1) = (l' : Int) := by omega
      have ek : ((k : Int) - (n : Int)) = ((k - n : Nat) : Int) := by omega
      exact q b lp _ Sb (by rw [upd_same]; show some (HO.tup [V.int ((k:Int) - (n : Int)), .ref lp, .int (((l' + 1 : Nat) : Int) - 1)]) = _; rw [el, ek]) (.inl rfl) (Sb _ _ hp)
    | skip e hn =>
      rename_i n
      rw [hck] at e; cases e
      have f : SqT K H ca [.str "skip", .int (n : Int)] := SqT.of hca
      refine ⟨_, rfl, _, _, _, _, rfl, rfl, f, at0, rfl, _, rfl, iteF' (by decide +kernel) ?_⟩
      refine ⟨_, rfl, _, _, _, _, rfl, rfl, f, at0, rfl, _, rfl, iteF' (by decide +kernel) ?_⟩
      refine ⟨_, rfl, _, _, _, _, rfl, rfl, f, at0, rfl, _, rfl, iteT' (by decide +kernel) (iteT ?_)⟩
      refine ⟨_, rfl, _, rfl, _, rfl, _, rfl, _, rfl, _, _, rfl, .inl (SqL.of hc), ca, lp, _, k, l, ws.length, _, _, rfl, hca, hp, .skip (by omega), fun k1 p1 eo b lq H' S e1 e2 e3 => by cases eo; exact q b lq H' S e1 e2 e3, (fun eo => nomatch eo)⟩
    | fork0 e hn =>
      rename_i n
      rw [hck] at e; cases e
      have f : SqT K H ca [.str "fork", .int (n : Int)] := SqT.of hca
      refine ⟨_, rfl, _, _, _, _, rfl, rfl, f, at0, rfl, _, rfl, iteF' (by decide +kernel) ?_⟩
      refine ⟨_, rfl, _, _, _, _, rfl, rfl, f, at0, rfl, _, rfl, iteF' (by decide +kernel) ?_⟩
      refine ⟨_, rfl, _, _, _, _, rfl, rfl, f, at0, rfl, _, rfl, iteF' (by decide +kernel) ?_⟩
      refine ⟨_, rfl, _, _, _, _, rfl, rfl, f, at0, rfl, _, rfl, iteT' (by decide +kernel) ?_⟩
      refine ⟨_, rfl, _, rfl, _, rfl, _, rfl, _, rfl, _, _, rfl, .inl (SqL.of hc), ca, lp, _, k, l, ws.length, _, _, rfl, hca, hp, .fork2 (by omega), fun k1 p1 eo b lq H' S e1 e2 e3 => by cases eo; exact q b lq H' S e1 e2 e3, (fun eo => nomatch eo)⟩
    | fork1 e hn =>
      rename_i n i
      rw [hck] at e; cases e
      have f : SqT K H ca [.str "fork", .int n] := SqT.of hca
      refine ⟨_, rfl, _, _, _, _, rfl, rfl, f, at0, rfl, _, rfl, iteF' (by decide +kernel) ?_⟩
      refine ⟨_, rfl, _, _, _, _, rfl, rfl, f, at0, rfl, _, rfl, iteF' (by decide +kernel) ?_⟩
      refine ⟨_, rfl, _, _, _, _, rfl, rfl, f, at0, rfl, _, rfl, iteF' (by decide +kernel) ?_⟩
      refine ⟨_, rfl, _, _, _, _, rfl, rfl, f, at0, rfl, _, rfl, iteT' (by decide +kernel) ?_⟩
      refine ⟨_, rfl, _, rfl, _, rfl, _, rfl, _, rfl, _, _, rfl, .inl (SqL.of hc), ca, lp, _, k, l, ws.length, _, _, rfl, hca, hp, .fork1 hn, fun k1 p1 eo b lq H' S e1 e2 e3 => by cases eo; exact q b lq H' S e1 e2 e3, (fun eo => nomatch eo)⟩
  · cases j with
    | pile e hj =>
      rw [hck] at e; cases e
      obtain ⟨h1, h2, h3, h4⟩ := hj.hops
      refine ⟨_, rfl, _, _, _, _, rfl, rfl, f0, at0, rfl, _, rfl, iteF' h3 ?_⟩
      refine ⟨_, rfl, _, _, _, _, rfl, rfl, f0, at0, rfl, _, rfl, iteF' h4 ?_⟩
      refine ⟨_, rfl, _, _, _, _, rfl, rfl, f0, at0, rfl, _, rfl, iteF' h2 ?_⟩
      refine ⟨_, rfl, _, _, _, _, rfl, rfl, f0, at0, rfl, _, rfl, iteF' h1 ?_⟩
      refine ⟨_, rfl, _, rfl, ca, lp, c, pile, said, rfl, hca, hp, hpl, ?_⟩
      exact .inr ⟨hj, fun H1 S1 => ⟨_, rfl, rfl, _, rfl, iteT' rfl (q _ S1)⟩⟩
    | back e hn =>
      rename_i n l0
      rw [hck] at e; cases e
      have f : SqT K H ca [.str "back", .int n] := SqT.of hca
      refine ⟨_, rfl, _, _, _, _, rfl, rfl, f, at0, rfl, _, rfl, iteF' (by decide +kernel) ?_⟩
      refine ⟨_, rfl, _, _, _, _, rfl, rfl, f, at0, rfl, _, rfl, iteT' (by decide +kernel) ?_⟩
      refine ⟨_, rfl, _, _, _, _, rfl, rfl, f, rfl, _, _, rfl, rfl, _, rfl, ?_⟩
      by_cases h0 : n < 0
      · exact iteT' (decide_eq_true h0) (iteT (q _ (refl _)))
      refine iteF' (decide_eq_false h0) ?_
      exact ⟨_, rfl, _, _, _, _, rfl, rfl, f, rfl, _, rfl, _, _, rfl, rfl, _, rfl, iteT' (decide_eq_true (by omega)) (q _ (refl _))⟩
    | skip e hn =>
      rename_i n
      rw [hck] at e; cases e
      have f : SqT K H ca [.str "skip", .int n] := SqT.of hca
      refine ⟨_, rfl, _, _, _, _, rfl, rfl, f, at0, rfl, _, rfl, iteF' (by decide +kernel) ?_⟩
      refine ⟨_, rfl, _, _, _, _, rfl, rfl, f, at0, rfl, _, rfl, iteF' (by decide +kernel) ?_⟩
      refine ⟨_, rfl, _, _, _, _, rfl, rfl, f, at0, rfl, _, rfl, iteT' (by decide +kernel) (iteT ?_)⟩
      refine ⟨_, rfl, _, rfl, _, rfl, _, rfl, _, rfl, _, _, rfl, .inl (SqL.of hc), ca, lp, _, k, l, ws.length, _, _, rfl, hca, hp, .skipJ (by omega), (fun k1 p1 eo => nomatch eo), fun _ H' S => q H' S⟩
    | fork0 e =>
      rename_i n
      rw [hck] at e; cases e
      have f : SqT K H ca [.str "fork", .int n] := SqT.of hca
      refine ⟨_, rfl, _, _, _, _, rfl, rfl, f, at0, rfl, _, rfl, iteF' (by decide +kernel) ?_⟩
      refine ⟨_, rfl, _, _, _, _, rfl, rfl, f, at0, rfl, _, rfl, iteF' (by decide +kernel) ?_⟩
      refine ⟨_, rfl, _, _, _, _, rfl, rfl, f, at0, rfl, _, rfl, iteF' (by decide +kernel) ?_⟩
      refine ⟨_, rfl, _, _, _, _, rfl, rfl, f, at0, rfl, _, rfl, iteT' (by decide +kernel) ?_⟩
      refine ⟨_, rfl, _, rfl, _, rfl, _, rfl, _, rfl, _, _, rfl, .inl (SqL.of hc), ca, lp, _, k, l, ws.length, _, _, rfl, hca, hp, .fork0, (fun k1 p1 eo => nomatch eo), fun _ H' S => q H' S⟩
    | fork e hn =>
      rename_i n p0
      rw [hck] at e; cases e
      have f : SqT K H ca [.str "fork", .int n] := SqT.of hca
      refine ⟨_, rfl, _, _, _, _, rfl, rfl, f, at0, rfl, _, rfl, iteF' (by decide +kernel) ?_⟩
      refine ⟨_, rfl, _, _, _, _, rfl, rfl, f, at0, rfl, _, rfl, iteF' (by decide +kernel) ?_⟩
      refine ⟨_, rfl, _, _, _, _, rfl, rfl, f, at0, rfl, _, rfl, iteF' (by decide +kernel) ?_⟩
      refine ⟨_, rfl, _, _, _, _, rfl, rfl, f, at0, rfl, _, rfl, iteT' (by decide +kernel) ?_⟩
      refine ⟨_, rfl, _, rfl, _, rfl, _, rfl, _, rfl, _, _, rfl, .inl (SqL.of hc), ca, lp, _, k, l, ws.length, _, _, rfl, hca, hp, .forkJ (by omega), (fun k1 p1 eo => nomatch eo), fun _ H' S => q H' S⟩
end
end W08

set_option Elab.async false
set_option linter.all false
set_option maxRecDepth 100000
set_option maxHeartbeats 4000000
namespace W08
open PySem L2 J
section
variable {P : Program} {w : World} {K : PySem.W.Frag} {mg : Str → Option Value} {base : Heap}
/-! ### _law_run -/
def spRun8 (K : PySem.W.Frag) : Sp := fun vs H Q _ => ∃ (lc lp : Addr) (ws : List V) (cs : List Cd) (pile : List Int) (oil n : Nat) (r : List S8) (o : Option Bool), vs = [.ref lc, .ref lp, .int (oil : Int)] ∧ H lc = some (.lst ws) ∧ Cds H ws cs ∧ H lp = some (.lst (pile.map V.int)) ∧ Tr cs n ⟨0, pile, oil, []⟩ r o ∧ r.length ≤ 1000000 ∧
  (o ≠ none → ∀ b D Ts vs H', Same H H' → H' b = some (.tup [.ref D, .ref Ts]) → H' D = some (.lst vs) → Paired (IsSt noM H') vs (⟨0, pile, oil, []⟩ :: r) → H' Ts = some (.lst ((lastS ⟨0, pile, oil, []⟩ r).s.map V.int)) → Q (.ref b) H') ∧ (o = none → ∀ H', Same H H' → Q .non H')
def WRun8 (H : Hp) (lc Ts D : Addr) (oil : Nat) (ws : List V) (cs : List Cd) (all : List S8) (fin : S8) (o : Option Bool) (m : Nat) (σ : St) (H' : Hp) : Prop :=
  ∃ (pile said : List Int) (k l : Nat) (r acc : List S8) (vs : List V) (lq : Addr) (x : Option V), σ = [some (.ref lc), some (.ref lq), some (.int (oil : Int)), some (.int (k : Int)), some (.int (l : Int)), some (.ref Ts), some (.ref D), x] ∧ Same H H' ∧ Cds H' ws cs ∧ H' lq = some (.lst (pile.map V.int)) ∧ lq ≠ Ts ∧ lq ≠ D ∧ Tr cs m ⟨k, pile, l, said⟩ r o ∧ H' Ts = some (.lst (said.map V.int)) ∧ H' D = some (.lst vs) ∧ Paired (IsSt (fun b => b = Ts ∨ b = D) H') vs acc ∧ all = acc ++ r ∧ fin = lastS ⟨k, pile, l, said⟩ r
theorem MStp_say8 {cs : List Cd} {k k' l l' : Nat} {p s p' s' : List Int} {c : Cd} (h : MStp cs k p l s k' p' l' s') (e : cs[k]? = some c) : (c = .say ∧ ∃ p0 i, p = p0 ++ [i] ∧ s' = s ++ [i]) ∨ (decide (V.str c.wd = V.str "say") = false ∧ s' = s) := by
  cases h with
  | pile e2 ho =>
    rw [e] at e2; cases e2
    cases ho with
    | say => exact .inl ⟨rfl, _, _, rfl, rfl⟩
    | push => exact .inr ⟨(by decide +kernel : decide (V.str "push" = V.str "say") = false), rfl⟩
    | load _ => exact .inr ⟨(by decide +kernel : decide (V.str "load" = V.str "say") = false), rfl⟩
    | store _ => exact .inr ⟨(by decide +kernel : decide (V.str "store" = V.str "say") = false), rfl⟩
    | drop => exact .inr ⟨by decide +kernel, rfl⟩
    | flip => exact .inr ⟨by decide +kernel, rfl⟩
    | @op o _ _ _ _ _ => exact .inr ⟨by cases o <;> decide +kernel, rfl⟩
    | less => exact .inr ⟨by decide +kernel, rfl⟩
    | same => exact .inr ⟨by decide +kernel, rfl⟩
  | burn e2 => rw [e] at e2; cases e2; exact .inr ⟨by decide +kernel, rfl⟩
  | back e2 _ => rw [e] at e2; cases e2; exact .inr ⟨(by decide +kernel : decide (V.str "back" = V.str "say") = false), rfl⟩
  | skip e2 _ => rw [e] at e2; cases e2; exact .inr ⟨(by decide +kernel : decide (V.str "skip" = V.str "say") = false), rfl⟩
  | fork0 e2 _ => rw [e] at e2; cases e2; exact .inr ⟨(by decide +kernel : decide (V.str "fork" = V.str "say") = false), rfl⟩
  | fork1 e2 _ => rw [e] at e2; cases e2; exact .inr ⟨(by decide +kernel : decide (V.str "fork" = V.str "say") = false), rfl⟩
theorem ok_law_run (T : Txt K mg) : FnOk P w K mg base CX0 4 T.f_law_run T.fd_law_run ["_law_cards", "_law_pile", "_law_oil"] (spRun8 K) := by
  have G_law_behind_it := ok_law_behind_it (P := P) (w := w) (base := base) T
  refine T.law_run.F.ok sc_law_run (fun vs H Q E h => ?_) (fun cdv A outer s H vs Q E hr h => ?_)
  · obtain ⟨lc, lp, ws, cs, pile, oil, n, r, o, rfl, _⟩ := h; rfl
  obtain ⟨lc, lp, ws, cs, pile, oil, n, r, o, rfl, hc, hC, hp, hrun, hrl, q, qn⟩ := h
  refine ⟨_, (pss_cons (ps_set (i := 3) sc_law_run.nd rfl (Or.inl rfl) pe_int)
    (pss_cons (ps_set (i := 4) sc_law_run.nd rfl (Or.inl rfl) (pv 2))
    (pss_cons (ps_set (i := 5) sc_law_run.nd rfl (Or.inl rfl) (pe_lst pa_nil))
    (pss_cons (ps_set (i := 6) sc_law_run.nd rfl (Or.inl rfl) (pe_lst (pa_cons (pe_tup (pa_cons (pv 3) (pa_cons (pv 1) (pa_cons (pv 4) pa_nil)))) pa_nil)))
    (pss_cons (ps_while PassesOwn.never (PW.pt (pw_and (pt_cmpR op_lt (pv 3) (pe_callB call_len_seq rfl T.b_len PySem.boot_len (pa_cons (pv 0) pa_nil)) (nomark _)) (pw_and1 (PW.pt (pw_or (pt_cmpR op_gt (pv 4) pe_int (nomark _)) (pw_or1 (pt_cmpR op_notIn_seq (pe_ix ix_tup (pe_ix ix_list (pv 0) (pv 3) (fun _ _ => rfl)) pe_int (fun _ _ => rfl)) (pe_lst (pa_cons pe_str (pa_cons pe_str pa_nil))) (by with_unfolding_all rfl)))))))) (pss_cons (ps_set (i := 7) sc_law_run.nd rfl (Or.inl rfl) (pe_call G_law_behind_it hr rfl T.law_behind_it.m T.law_behind_it.F.kp T.law_behind_it.b .nil pass0 (pa_cons (pv 0) (pa_cons (pv 3) (pa_cons (pv 1) (pa_cons (pv 4) pa_nil))))))
    (pss_cons (ps_if (pt_cmpR op_isN (pv 7) pe_non (nomark _)) (pss_one (ps_ret pe_non)) pss_nil)
    (pss_consM (ps_if (pt_cmpR op_eq (pe_ix ix_tup (pe_ix ix_list (pv 0) (pv 3) (fun _ _ => rfl)) pe_int (fun _ _ => rfl)) pe_str (nomark _)) (pss_one (ps_expr (pe_bm PySem.F.plainAttrs_list PySem.F.slot_list_append PySem.F.type_list_append mt_append (pv 5) (pa_cons (pe_ix ix_list (pv 1) (pe_un un_neg pe_int) (fun _ _ => rfl)) pa_nil)))) pss_nil)
    (pss_cons (ps_asg (pv 7) (pg_tup rfl (pgs_cons (pg_name (i := 3) sc_law_run.nd rfl (Or.inl rfl)) (pgs_cons (pg_name (i := 1) sc_law_run.nd rfl (Or.inl rfl)) (pgs_cons (pg_name (i := 4) sc_law_run.nd rfl (Or.inl rfl)) pgs_nil)))))
    (pss_one (ps_expr (pe_bm PySem.F.plainAttrs_list PySem.F.slot_list_append PySem.F.type_list_append mt_append (pv 6) (pa_cons (pv 7) pa_nil)))))))))
    (pss_one (ps_ret (pe_tup (pa_cons (pv 6) (pa_cons (pv 5) pa_nil)))))))))), ?_⟩
  try dsimp only [kx, kxb]
  have three : (3 : Nat) ≤ sizeLine := by decide
  have one : (1 : Nat) ≤ sizeLine := by decide
  refine ⟨_, rfl, Nat.zero_le _, fun Ts hTs => ?_⟩
  have S1 := same_new hTs (.lst [])
  have eT : upd H Ts (.lst []) Ts = some (.lst []) := upd_same
  generalize upd H Ts (.lst []) = H1 at S1 eT
  refine ⟨_, rfl, _, rfl, _, rfl, three, fun a0 ha0 => ?_⟩
  have S2 := same_new ha0 (.tup [.int 0, .ref lp, .int (oil : Int)])
  have ea0 : upd H1 a0 (.tup [.int 0, .ref lp, .int (oil : Int)]) a0 = some (.tup [.int 0, .ref lp, .int (oil : Int)]) := upd_same
  generalize upd H1 a0 (.tup [.int 0, .ref lp, .int (oil : Int)]) = H2 at S2 ea0
  refine ⟨one, fun D hD => ?_⟩
  have S3 := same_new hD (.lst [.ref a0])
  have eD : upd H2 D (.lst [.ref a0]) D = some (.lst [.ref a0]) := upd_same
  generalize upd H2 D (.lst [.ref a0]) = H3 at S3 eD
  have two : (2 : Nat) ≤ sizeLine := by decide
  have tst : ∀ {H4 : Hp} {k l : Nat} {c : Cd} {ca lq : Addr} {y z x : Option V} (R : Bool → Hp → Prop), H4 lc = some (.lst ws) → ws[k]? = some (.ref ca) → H4 ca = some (.tup c.vs) → (∀ H5, Same H4 H5 → R (decide (0 < l) || !c.oil) H5) →
      tOr (tTest (tOp (rI0 fun i j => V.bl (decide (j < i))) (tVar 4) (tC (V.int 0)))) (tTest (tOp (rIn K true) (tOp (rIxT K) (tOp (rIxL K) (tVar 0) (tVar 3)) (tC (V.int 0))) (tLst (tCons (tC (V.str "burn")) (tCons (tC (V.str "back")) tNil)))))
        [some (.ref lc), some (.ref lq), some (.int (oil : Int)), some (.int (k : Int)), some (.int (l : Int)), y, z, x] H4 R := fun {H4 k l c ca lq y z x} R e1 e2 e3 h => by
    obtain ⟨rr, ev⟩ := Cd.hd c
    have f0 : SqT K H4 ca (.str c.wd :: rr) := by rw [← ev]; exact SqT.of e3
    refine ⟨_, rfl, _, _, rfl, rfl, _, rfl, ?_⟩
    by_cases hl : 0 < l
    · have h' := h H4 (fun _ _ z => z)
      rw [decide_eq_true hl] at h'
      exact iteT' (decide_eq_true (by omega)) h'
    refine iteF' (decide_eq_false (by omega)) ?_
    refine ⟨_, rfl, _, rfl, _, _, _, _, rfl, rfl, SqL.of e1, atI_nat e2, _, _, _, _, rfl, rfl, f0, at0, two, fun pl hpl => ?_⟩
    have h' := h _ (same_new hpl (.lst [.str "burn", .str "back"]))
    rw [decide_eq_false hl, ← Cd.oil_in c] at h'
    exact ⟨_, _, rfl, .inl (SqL.of upd_same), rfl, rfl, _, rfl, h'⟩
  have S12 := S1.trans S2
  have hD0 : H D = none := S12.free hD
  have hTD : Ts ≠ D := fun z => by rw [← z, S2 _ _ eT] at hD; cases hD
  have nlT : lp ≠ Ts := ne_of_none hp hTs
  have nlD : lp ≠ D := ne_of_none hp hD0
  have S13 := S12.trans S3
  refine ⟨WRun8 H lc Ts D oil ws cs (⟨0, pile, oil, []⟩ :: r) (lastS ⟨0, pile, oil, []⟩ r) o, ⟨n, pile, [], 0, oil, r, [⟨0, pile, oil, []⟩], [.ref a0], lp, _, rfl, S13, hC.mono S13.tup, S13 _ _ hp, nlT, nlD, hrun, S3 _ _ (S2 _ _ eT), eD, .cons ⟨a0, lp, rfl, (fun z => z.elim nlT nlD), S3 _ _ ea0, S13 _ _ hp⟩ .nil, rfl, rfl⟩, ?_⟩
  rintro m σ H4 ⟨pile4, said4, k, l, r4, acc, vs4, lq, x, rfl, S4, hC4, hq4, n1, n2, hr4, eT4, eD4, hP4, hall, hfin⟩
  have hc4 := S4 _ _ hc
  have hwl := hC4.len
  have hk := hr4.last.2
  have hal : acc.length + r4.length = r.length + 1 := by
    have := congrArg List.length hall
    rw [List.length_cons, List.length_append] at this
    omega
  have hpl := plen hP4
  have stop : ∀ {H5 : Hp}, Same H4 H5 → r4 = [] → o ≠ none → ∀ b, H5 b = none → Q (.ref b) (upd H5 b (.tup [.ref D, .ref Ts])) := fun {H5} S5 hr0 ho b hb => by
    subst hr0
    rw [List.append_nil] at hall
    have S6 := same_new hb (.tup [.ref D, .ref Ts])
    have S56 := S5.trans S6
    refine q ho b D Ts vs4 _ (S4.trans S56) upd_same (S56 _ _ eD4) (by rw [hall]; exact Paired.mapP hP4 fun _ _ z => (z.mono (.of S56) S56.tup).less) ?_
    rw [hfin, lastS_nil]
    exact S56 _ _ eT4
  refine ⟨_, rfl, _, rfl, _, _, rfl, .inl (SqL.of hc4), _, _, rfl, rfl, _, rfl, ?_⟩
  cases hr4 with
  | done =>
    exact iteF' (decide_eq_false (by omega)) (iteF ⟨_, rfl, _, rfl, two, fun b hb => stop (fun _ _ z => z) rfl (fun z => nomatch z) b hb⟩)
  | @dry _ c _ _ e ho2 =>
    have hlt := (List.getElem?_eq_some_iff.mp e).1
    obtain ⟨v, hv, ca, rfl, hca⟩ := Cds.get' hC4 e
    refine iteT' (decide_eq_true (by omega)) (tst _ hc4 hv hca fun H5 S5 => ?_)
    rw [ho2]
    exact iteF ⟨_, rfl, _, rfl, two, fun b hb => stop S5 rfl (fun z => nomatch z) b hb⟩
  | jam j hb =>
    obtain ⟨c, e, hno⟩ := j.lt
    have hlt := (List.getElem?_eq_some_iff.mp e).1
    obtain ⟨v, hv, ca, rfl, hca⟩ := Cds.get' hC4 e
    refine iteT' (decide_eq_true (by omega)) (tst _ hc4 hv hca fun H5 S5 => ?_)
    refine iteT' (by cases l with | zero => rw [hno rfl]; rfl | succ l => simp) ?_
    refine ⟨fun σ' H'' => ∃ m2, m2 < 0 ∧ WRun8 H lc Ts D oil ws cs (⟨0, pile, oil, []⟩ :: r) (lastS ⟨0, pile, oil, []⟩ r) none m2 σ' H'', fun _ _ z => z, ?_⟩
    refine ⟨_, rfl, _, rfl, _, rfl, _, rfl, lc, lq, ws, cs, k, l, pile4, said4, rfl, S5 _ _ hc4, hC4.mono S5.tup, S5 _ _ hq4, hb, .inr ⟨j, fun H6 S6 => ?_⟩⟩
    exact ⟨_, rfl, rfl, _, rfl, iteT' rfl (qn rfl _ (S4.trans (S5.trans S6)))⟩
  | @step m' _ k' _ p' _ l' _ s' r5 _ st hb1 hb2 t5 =>
    obtain ⟨c, e, hno⟩ := st.lt
    have hlt := (List.getElem?_eq_some_iff.mp e).1
    obtain ⟨v, hv, ca, rfl, hca⟩ := Cds.get' hC4 e
    refine iteT' (decide_eq_true (by omega)) (tst _ hc4 hv hca fun H5 S5 => ?_)
    refine iteT' (by cases l with | zero => rw [hno rfl]; rfl | succ l => simp) ?_
    refine ⟨fun σ' H'' => ∃ m2, m2 < m' + 1 ∧ WRun8 H lc Ts D oil ws cs (⟨0, pile, oil, []⟩ :: r) (lastS ⟨0, pile, oil, []⟩ r) o m2 σ' H'', fun _ _ z => z, ?_⟩
    refine ⟨_, rfl, _, rfl, _, rfl, _, rfl, lc, lq, ws, cs, k, l, pile4, said4, rfl, S5 _ _ hc4, hC4.mono S5.tup, S5 _ _ hq4, hb1, .inl ⟨k', p', l', s', st, fun b lq' H6 S6 eb hfr elq => ?_⟩⟩
    have S56 := S5.trans S6
    have S46 := S4.trans S56
    have g1 : lq' ≠ Ts := by
      rcases hfr with rfl | hf
      · exact n1
      · exact fun z => by rw [z, S5 _ _ eT4] at hf; cases hf
    have g2 : lq' ≠ D := by
      rcases hfr with rfl | hf
      · exact n2
      · exact fun z => by rw [z, S5 _ _ eD4] at hf; cases hf
    have eT6 := S56 _ _ eT4
    have eD6 := S56 _ _ eD4
    have hP6 := Paired.mapP hP4 fun _ _ z => z.mono (.of S56) S56.tup
    have hC6 := hC4.mono S56.tup
    obtain ⟨rr, ev⟩ := Cd.hd c
    have f0 : SqT K H6 ca (.str c.wd :: rr) := by rw [← ev]; exact SqT.of (S56 _ _ hca)
    refine ⟨_, rfl, rfl, _, rfl, iteF' (by simp) ?_⟩
    refine ⟨fun σ' H' => σ' = [some (.ref lc), some (.ref lq), some (.int (oil : Int)), some (.int (k : Int)), some (.int (l : Int)), some (.ref Ts), some (.ref D), some (.ref b)] ∧ H' Ts = some (.lst (s'.map V.int)) ∧ (∀ b o, b ≠ Ts → H6 b = some o → H' b = some o) ∧ TupLe H6 H', ?_, ?_⟩
    · refine ⟨_, rfl, _, rfl, _, _, _, _, rfl, rfl, SqL.of (S56 _ _ hc4), atI_nat hv, _, _, _, _, rfl, rfl, f0, at0, rfl, _, rfl, ?_⟩
      rcases MStp_say8 st e with ⟨rfl, p0, i, rfl, rfl⟩ | ⟨hw, rfl⟩
      · refine iteT' (by decide +kernel) ?_
        refine ⟨_, rfl, .inl ⟨rfl, _, SqL.of eT6⟩, _, rfl, _, rfl, _, _, _, _, rfl, rfl, SqL.of (S56 _ _ hq4), atI_map_last _ _, _, _, _, rfl, rfl, eT6, by rw [List.length_map, sizeLine_eq]; omega, rfl, ?_, fun b o nb h => by rw [upd_ne nb]; exact h, (but_upd (H := H6) (l := Ts) _).tup eT6⟩
        rw [upd_same, List.map_append]; rfl
      · exact iteF' hw ⟨rfl, eT6, fun _ _ _ h => h, fun _ _ h => h⟩
    · rintro σ' H7 ⟨rfl, eT7, B7, L7⟩
      have eb7 := B7 _ _ (ne_of eb eT6 (fun z => by cases z)) eb
      have eD7 := B7 _ _ hTD.symm eD6
      rw [List.length_cons] at hal
      refine ⟨_, rfl, _, _, rfl, SqT.of eb7, rfl, _, _, rfl, _, _, rfl, _, _, rfl, rfl, ?_⟩
      refine ⟨_, rfl, .inl ⟨rfl, _, SqL.of eD7⟩, _, rfl, _, _, _, rfl, rfl, eD7, by rw [hpl, sizeLine_eq]; omega, ?_⟩
      have B8 : ∀ b' o, b' ≠ D → H7 b' = some o → upd H7 D (.lst (vs4 ++ [.ref b])) b' = some o := fun b' o nb h => by rw [upd_ne nb]; exact h
      have L8 : TupLe H6 (upd H7 D (.lst (vs4 ++ [.ref b]))) := fun a xs h => (but_upd (H := H7) (l := D) (.lst (vs4 ++ [.ref b]))).tup eD7 _ _ (L7 _ _ h)
      rw [lastS_cons] at hfin
      refine ⟨m', Nat.lt_succ_self _, p', s', k', l', r5, acc ++ [⟨k', p', l', s'⟩], vs4 ++ [.ref b], lq', _, rfl, fun b' o h => B8 _ _ (ne_of_none h hD0) (B7 _ _ (ne_of_none h hTs) (S46 _ _ h)), hC6.mono L8, B8 _ _ g2 (B7 _ _ g1 elq), g1, g2, t5, B8 _ _ hTD eT7, upd_same, ?_, by rw [hall, List.append_assoc]; rfl, hfin⟩
      exact psnoc (Paired.mapP hP6 fun _ _ z => z.mono (fun b' o nb h => B8 b' o (fun z => nb (.inr z)) (B7 b' o (fun z => nb (.inl z)) h)) L8) ⟨b, lq', rfl, fun z => z.elim g1 g2, L8 _ _ eb, B8 _ _ g2 (B7 _ _ g1 elq)⟩
end
end W08

set_option Elab.async false
set_option linter.all false
set_option maxRecDepth 100000
set_option maxHeartbeats 4000000
namespace W08
open PySem L2 J
section
variable {P : Program} {w : World} {K : PySem.W.Frag} {mg : Str → Option Value} {base : Heap}
/-! ### _law_odd_card, _law_card_of, _law_row_of -/
def MkI (e : TE) (σ : St) (i : Int) : Prop := ∀ (H : Hp) (Q : VK), Q (.int i) H → e σ H Q
def MkCds (t : TA) (σ : St) (cs : List Cd) : Prop := ∀ (H : Hp) (Q : List V → Hp → Prop), (∀ vs H', Same H H' → Cds H' vs cs → Q vs H') → t σ H Q
theorem mkNil {σ : St} : MkCds tNil σ [] := fun H Q h => h [] H (fun _ _ z => z) .nil
theorem mkCons {σ : St} {wd : Str} {e : TE} {i : Int} {u : TA} {cs : List Cd} (c : Cd) (he : MkI e σ i) (hu : MkCds u σ cs) (hc : c.vs = [.str wd, .int i] := by rfl) : MkCds (tCons (tTup (tCons (tC (.str wd)) (tCons e tNil))) u) σ (c :: cs) := fun H Q h =>
  he _ _ ⟨(by show 2 ≤ sizeLine; decide), fun a ha => hu _ _ fun vs H' S hC => h _ _ ((same_new ha _).trans S) (.cons ⟨a, rfl, S _ _ (by rw [upd_same, hc])⟩ hC)⟩
theorem mkCons1 {σ : St} {wd : Str} {u : TA} {cs : List Cd} (c : Cd) (hu : MkCds u σ cs) (hc : c.vs = [.str wd] := by rfl) : MkCds (tCons (tTup (tCons (tC (.str wd)) tNil)) u) σ (c :: cs) := fun H Q h =>
  ⟨(by show 1 ≤ sizeLine; decide), fun a ha => hu _ _ fun vs H' S hC => h _ _ ((same_new ha _).trans S) (.cons ⟨a, rfl, S _ _ (by rw [upd_same, hc])⟩ hC)⟩
theorem mkLst {σ : St} {t : TA} {cs : List Cd} {H : Hp} {Q : VK} (h : MkCds t σ cs) (hl : cs.length ≤ 100) (q : ∀ p vs H', Same H H' → H' p = some (.lst vs) → Cds H' vs cs → Q (.ref p) H') : tLst t σ H Q :=
  h _ _ fun vs H1 S1 C1 => ⟨by rw [C1.len, sizeLine_eq]; omega, fun p hp => q _ _ _ (S1.trans (same_new hp _)) upd_same (C1.mono (same_new hp _).tup)⟩
theorem mkCat {σ : St} {t : TA} {cs cs2 : List Cd} {H : Hp} {Q : VK} {l : Addr} {vs : List V} {j : Nat} (hj : σ[j]? = some (some (.ref l))) (e : H l = some (.lst vs)) (C : Cds H vs cs) (h : MkCds t σ cs2) (hl : cs.length + cs2.length ≤ 100) (q : ∀ p vs H', Same H H' → H' p = some (.lst vs) → Cds H' vs (cs ++ cs2) → Q (.ref p) H') : tOp rCat (tVar j) (tLst t) σ H Q :=
  ⟨_, hj, mkLst h (by omega) fun p v2 H2 S2 e2 C2 => ⟨_, _, _, _, rfl, rfl, S2 _ _ e, e2, by rw [C.len, C2.len, sizeLine_eq]; omega, fun p2 hp2 => q _ _ _ (S2.trans (same_new hp2 _)) upd_same (papp (C.mono (S2.tup.trans (same_new hp2 _).tup)) (C2.mono (same_new hp2 _).tup))⟩⟩
theorem mkLstS {σ : St} {t : TA} {g : TG} {u : TS} {D : _} {cs : List Cd} {H : Hp} (h : MkCds t σ cs) (hl : cs.length ≤ 100) (q : ∀ p vs H', Same H H' → H' p = some (.lst vs) → Cds H' vs cs → g (.ref p) σ H' (u D)) : tSeq (tAsg (tLst t) g) u D σ H := by
  show tLst t σ H (fun x H1 => g x σ H1 (u D))
  exact mkLst h hl q
theorem mkCatS {σ : St} {t : TA} {g : TG} {u : TS} {D : _} {cs cs2 : List Cd} {H : Hp} {l : Addr} {vs : List V} {j : Nat} (hj : σ[j]? = some (some (.ref l))) (e : H l = some (.lst vs)) (C : Cds H vs cs) (h : MkCds t σ cs2) (hl : cs.length + cs2.length ≤ 100) (q : ∀ p vs H', Same H H' → H' p = some (.lst vs) → Cds H' vs (cs ++ cs2) → g (.ref p) σ H' (u D)) : tSeq (tAsg (tOp rCat (tVar j) (tLst t)) g) u D σ H := mkCat hj e C h hl q
def calm8 : Cd → Bool
  | .push _ => false
  | .op _ => false
  | _ => true
theorem calm_ok {c : Cd} {n : Nat} (h : calm8 c = true) : c.ok8 n := by
  cases c with
  | push i => cases h
  | op o => cases h
  | _ => trivial
def spOdd (K : PySem.W.Frag) : Sp := fun vs H Q _ => ∃ (salt high k size : Int), vs = [.int salt, .int high, .int k, .int size] ∧ ∀ (a : Addr) (c : Cd) H', Same H H' → H' a = some (.tup c.vs) → calm8 c = true → Q (.ref a) H'
theorem ok_law_odd_card (T : Txt K mg) : FnOk P w K mg base CX0 1 T.f_law_odd_card T.fd_law_odd_card ["_law_salt", "_law_high", "_law_k", "_law_size"] (spOdd K) := by
  refine T.law_odd_card.F.ok sc_law_odd_card (fun vs H Q E h => ?_) (fun cdv A outer s H vs Q E hr h => ?_)
  · obtain ⟨salt, high, k, size, rfl, _⟩ := h; rfl
  obtain ⟨salt, high, k, size, rfl, q⟩ := h
  refine ⟨_, (pss_cons (ps_set (i := 4) sc_law_odd_card.nd rfl (Or.inl rfl) (pe_lst (pa_cons (pe_tup (pa_cons pe_str (pa_cons (pv 1) pa_nil))) (pa_cons (pe_tup (pa_cons pe_str (pa_cons (pe_op op_sub (pv 1) pe_int) pa_nil))) (pa_cons (pe_tup (pa_cons pe_str (pa_cons (pe_un un_neg pe_int) pa_nil))) (pa_cons (pe_tup (pa_cons pe_str (pa_cons (pe_un un_neg pe_int) pa_nil))) pa_nil))))))
    (pss_cons (ps_set (i := 4) sc_law_odd_card.nd rfl (Or.inl rfl) (pe_op op_cat (pv 4) (pe_lst (pa_cons (pe_tup (pa_cons pe_str (pa_cons (pe_op op_sub (pv 3) (pv 2)) pa_nil))) (pa_cons (pe_tup (pa_cons pe_str (pa_cons (pe_op op_add (pv 2) pe_int) pa_nil))) (pa_cons (pe_tup (pa_cons pe_str (pa_cons (pe_op op_sub (pv 3) (pv 2)) pa_nil))) (pa_cons (pe_tup (pa_cons pe_str pa_nil)) pa_nil)))))))
    (pss_cons (ps_set (i := 4) sc_law_odd_card.nd rfl (Or.inl rfl) (pe_op op_cat (pv 4) (pe_lst (pa_cons (pe_tup (pa_cons pe_str (pa_cons (pe_un un_neg pe_int) pa_nil))) (pa_cons (pe_tup (pa_cons pe_str (pa_cons (pe_un un_neg pe_int) pa_nil))) (pa_cons (pe_tup (pa_cons pe_str (pa_cons (pe_un un_neg pe_int) pa_nil))) (pa_cons (pe_tup (pa_cons pe_str (pa_cons pe_int pa_nil))) pa_nil)))))))
    (pss_cons (ps_set (i := 4) sc_law_odd_card.nd rfl (Or.inl rfl) (pe_op op_cat (pv 4) (pe_lst (pa_cons (pe_tup (pa_cons pe_str (pa_cons pe_int pa_nil))) (pa_cons (pe_tup (pa_cons pe_str (pa_cons pe_int pa_nil))) pa_nil)))))
    (pss_cons (ps_set (i := 4) sc_law_odd_card.nd rfl (Or.inl rfl) (pe_op op_cat (pv 4) (pe_lst (pa_cons (pe_tup (pa_cons pe_str (pa_cons (pe_un un_neg pe_int) pa_nil))) (pa_cons (pe_tup (pa_cons pe_str (pa_cons (pe_un un_neg pe_int) pa_nil))) pa_nil)))))
    (pss_one (ps_ret (pe_ix ix_list (pv 4) (pe_op op_mod (pv 0) pe_int) (fun _ _ => rfl))))))))), ?_⟩
  try dsimp only [kx, kxb]
  have neg : ∀ {σ : St}, MkI (tUn (rU fun i => V.int (-i)) (tC (V.int 1))) σ (-1) := fun H Q h => ⟨_, rfl, h⟩
  have big : ∀ {σ : St}, MkI (tC (V.int 1000000000000)) σ 1000000000000 := fun H Q h => h
  refine mkLstS (cs := [Cd.load high, .store (high - 1), .store (-1), .load (-1)]) ?m (show 4 ≤ 100 by decide) fun l1 v1 H1 S1 e1 C1 => ?_
  case m => exact mkCons (.load high) (fun H Q h => ⟨_, rfl, h⟩) (mkCons (.store (high - 1)) (fun H Q h => ⟨_, rfl, _, _, rfl, rfl, h⟩) (mkCons (.store (-1)) neg (mkCons (.load (-1)) neg mkNil)))
  refine mkCatS (cs2 := [.skip (size - k), .back (k + 1), .fork (size - k), .drop]) rfl e1 C1 ?m (show 4 + 4 ≤ 100 by decide) fun l2 v2 H2 S2 e2 C2 => ?_
  case m => exact mkCons (.skip (size - k)) (fun H Q h => ⟨_, rfl, _, rfl, _, _, rfl, rfl, h⟩) (mkCons (.back (k + 1)) (fun H Q h => ⟨_, rfl, _, _, rfl, rfl, h⟩) (mkCons (.fork (size - k)) (fun H Q h => ⟨_, rfl, _, rfl, _, _, rfl, rfl, h⟩) (mkCons1 .drop mkNil)))
  refine mkCatS (cs2 := [.skip (-1), .back (-1), .fork (-1), .load 1000000000000]) rfl e2 C2 ?m (show 8 + 4 ≤ 100 by decide) fun l3 v3 H3 S3 e3 C3 => ?_
  case m => exact mkCons (.skip (-1)) neg (mkCons (.back (-1)) neg (mkCons (.fork (-1)) neg (mkCons (.load 1000000000000) big mkNil)))
  refine mkCatS (cs2 := [.skip 1000000000000, .back 1000000000000]) rfl e3 C3 ?m (show 12 + 2 ≤ 100 by decide) fun l4 v4 H4 S4 e4 C4 => ?_
  case m => exact mkCons (.skip 1000000000000) big (mkCons (.back 1000000000000) big mkNil)
  refine mkCatS (cs2 := [.back (-1), .back (-1)]) rfl e4 C4 ?m (show 14 + 2 ≤ 100 by decide) fun l5 v5 H5 S5 e5 C5 => ?_
  case m => exact mkCons (.back (-1)) neg (mkCons (.back (-1)) neg mkNil)
  have S := S1.trans (S2.trans (S3.trans (S4.trans S5)))
  obtain ⟨j, ej⟩ := Int.eq_ofNat_of_zero_le (Int.emod_nonneg salt (show (16 : Int) ≠ 0 by decide))
  have hj : j < 16 := by have := Int.emod_lt_of_pos salt (show (0 : Int) < 16 by decide); omega
  obtain ⟨c, hc⟩ : ∃ c, ([Cd.load high, .store (high - 1), .store (-1), .load (-1)] ++ [.skip (size - k), .back (k + 1), .fork (size - k), .drop] ++ [.skip (-1), .back (-1), .fork (-1), .load 1000000000000] ++ [.skip 1000000000000, .back 1000000000000] ++ [.back (-1), .back (-1)])[j]? = some c := ⟨_, List.getElem?_eq_getElem (show j < 16 from hj)⟩
  have hall : ∀ c ∈ ([Cd.load high, .store (high - 1), .store (-1), .load (-1)] ++ [.skip (size - k), .back (k + 1), .fork (size - k), .drop] ++ [.skip (-1), .back (-1), .fork (-1), .load 1000000000000] ++ [.skip 1000000000000, .back 1000000000000] ++ [.back (-1), .back (-1)]), calm8 c = true := List.all_eq_true.mp rfl
  obtain ⟨v, hv, a, rfl, ha⟩ := Cds.get' C5 hc
  exact ⟨_, rfl, _, rfl, _, _, rfl, rfl, (show (0 : Int) < 16 by decide), _, _, _, _, rfl, rfl, SqL.of e5, (by show atI v5 (salt % 16) = _; rw [ej]; exact atI_nat hv), q a c _ S ha (hall c (List.mem_of_getElem? hc))⟩
theorem pand {A B : TT} {σ : St} {H : Hp} {a b : Bool} (ha : ∀ R : Bool → Hp → Prop, R a H → A σ H R) (hb : ∀ R : Bool → Hp → Prop, R b H → B σ H R) : ∀ R : Bool → Hp → Prop, R (a && b) H → tAnd A B σ H R := fun R h => by
  refine ha _ ?_
  cases a with
  | false => exact iteF h
  | true => exact iteT (hb _ h)
theorem ifAnd {A B : TT} {t v : TS} {D : _} {σ : St} {H : Hp} {a b : Bool} (ha : ∀ R : Bool → Hp → Prop, R a H → A σ H R) (hb : ∀ R : Bool → Hp → Prop, R b H → B σ H R) (h1 : (a && b) = true → t { D with nx := v D } σ H) (h2 : v D σ H) : tSeq (tIfS (tAnd A B) t tNext) v D σ H := by
  show tAnd A B σ H _
  refine pand ha hb _ ?_
  exact ite2 h1 (fun _ => h2)
theorem far8 (salt : Int) : (salt * 48271 % (10 ^ (30 : Int).toNat) - 5 * 10 ^ (29 : Int).toNat).natAbs < 2 ^ 110 := by
  have e1 : (10 : Int) ^ (30 : Int).toNat = 1000000000000000000000000000000 := by decide +kernel
  have e2 : (10 : Int) ^ (29 : Int).toNat = 100000000000000000000000000000 := by decide +kernel
  have e3 : (2 : Nat) ^ 110 = 1298074214633706907132624082305024 := by decide +kernel
  rw [e1, e2, e3]
  have h0 := Int.emod_nonneg (salt * 48271) (show (1000000000000000000000000000000 : Int) ≠ 0 by decide)
  have h1 := Int.emod_lt_of_pos (salt * 48271) (show (0 : Int) < 1000000000000000000000000000000 by decide)
  omega
theorem pick8 (salt f : Int) (hf : f.natAbs < 2 ^ 110) : ∃ i, atI [V.int 0, V.int (-1), V.int 1, V.int 2, V.int (-2), V.int 3, V.int (-4), V.int 4, V.int 1000000000003, V.int f] (salt % 10) = some (V.int i) ∧ i.natAbs < 2 ^ 110 := by
  have h0 := Int.emod_nonneg salt (show (10 : Int) ≠ 0 by decide)
  have h1 := Int.emod_lt_of_pos salt (show (0 : Int) < 10 by decide)
  have : salt % 10 = (0 : Nat) ∨ salt % 10 = (1 : Nat) ∨ salt % 10 = (2 : Nat) ∨ salt % 10 = (3 : Nat) ∨ salt % 10 = (4 : Nat) ∨ salt % 10 = (5 : Nat) ∨ salt % 10 = (6 : Nat) ∨ salt % 10 = (7 : Nat) ∨ salt % 10 = (8 : Nat) ∨ salt % 10 = (9 : Nat) := by omega
  rcases this with h | h | h | h | h | h | h | h | h | h <;> rw [h]
  · exact ⟨_, atI_nat rfl, by decide +kernel⟩
  · exact ⟨_, atI_nat rfl, by decide +kernel⟩
  · exact ⟨_, atI_nat rfl, by decide +kernel⟩
  · exact ⟨_, atI_nat rfl, by decide +kernel⟩
  · exact ⟨_, atI_nat rfl, by decide +kernel⟩
  · exact ⟨_, atI_nat rfl, by decide +kernel⟩
  · exact ⟨_, atI_nat rfl, by decide +kernel⟩
  · exact ⟨_, atI_nat rfl, by decide +kernel⟩
  · exact ⟨_, atI_nat rfl, by decide +kernel⟩
  · exact ⟨_, atI_nat rfl, hf⟩
theorem in8 {i : Int} (h : inV (.int i) [.int 5, .int 6, .int 7, .int 8] = true) : i = 5 ∨ i = 6 ∨ i = 7 ∨ i = 8 := by
  simp [inV, eqV] at h
  omega
theorem in9 {i : Int} (h : inV (.int i) [.int 9, .int 10, .int 15] = true) : i = 9 ∨ i = 10 ∨ i = 15 := by
  simp [inV, eqV] at h
  omega
def spCof (K : PySem.W.Frag) : Sp := fun vs H Q _ => ∃ (way salt high : Int) (k size : Nat), vs = [.int way, .int salt, .int high, .int (k : Int), .int (size : Int)] ∧ k < size ∧ ∀ (a : Addr) (c : Cd) H', Same H H' → H' a = some (.tup c.vs) → c.ok8 k → Q (.ref a) H'
theorem ok_law_card_of (T : Txt K mg) : FnOk P w K mg base CX0 1 T.f_law_card_of T.fd_law_card_of ["_law_way", "_law_salt", "_law_high", "_law_k", "_law_size"] (spCof K) := by
  refine T.law_card_of.F.ok sc_law_card_of (fun vs H Q E h => ?_) (fun cdv A outer s H vs Q E hr h => ?_)
  · obtain ⟨way, salt, high, k, size, rfl, _⟩ := h; rfl
  obtain ⟨way, salt, high, k, size, rfl, hk, q⟩ := h
  refine ⟨_, (pss_cons (ps_if (pt_cmpR op_eq (pv 0) pe_int (nomark _)) (pss_one (ps_ret (pe_tup (pa_cons pe_str (pa_cons (pe_op op_mod (pv 1) (pe_callB (call_min2 rfl) rfl T.b_min (by decide +kernel) (pa_cons pe_int (pa_cons (pe_op op_sub (pv 4) (pv 3)) pa_nil)))) pa_nil))))) pss_nil)
    (pss_cons (ps_if (pt_cmpR op_eq (pv 0) pe_int (nomark _)) (pss_one (ps_ret (pe_tup (pa_cons pe_str pa_nil)))) pss_nil)
    (pss_cons (ps_if (pt_cmpR op_eq (pv 0) pe_int (nomark _)) (pss_one (ps_ret (pe_tup (pa_cons pe_str (pa_cons (pe_op op_mod (pv 1) (pe_callB (call_min2 rfl) rfl T.b_min (by decide +kernel) (pa_cons (pe_op op_add (pv 3) pe_int) (pa_cons pe_int pa_nil)))) pa_nil))))) pss_nil)
    (pss_cons (ps_ifM (PW.pt (pw_and (pt_cmpR op_gt (pv 2) pe_int (nomark _)) (pw_and1 (pt_cmpR op_in_seq (pv 0) (pe_lst (pa_cons pe_int (pa_cons pe_int pa_nil))) (by with_unfolding_all rfl))))) (pss_one (ps_ret (pe_tup (pa_cons pe_str (pa_cons (pe_op op_mod (pv 1) (pv 2)) pa_nil))))) pss_nil)
    (pss_cons (ps_if (PW.pt (pw_and (pt_cmpR op_gt (pv 2) pe_int (nomark _)) (pw_and1 (pt_cmpR op_eq (pv 0) pe_int (nomark _))))) (pss_one (ps_ret (pe_tup (pa_cons pe_str (pa_cons (pe_op op_mod (pv 1) (pe_op op_sub (pv 2) pe_int)) pa_nil))))) pss_nil)
    (pss_cons (ps_if (PW.pt (pw_and (pt_cmpR op_gt (pv 2) pe_int (nomark _)) (pw_and (pt_cmpR op_eq (pv 0) pe_int (nomark _)) (pw_and1 (pt_cmpR op_eq (pv 3) pe_int (nomark _)))))) (pss_one (ps_ret (pe_tup (pa_cons pe_str pa_nil)))) pss_nil)
    (pss_cons (ps_ifM (PW.pt (pw_and (pt_cmpR op_gt (pv 2) pe_int (nomark _)) (pw_and1 (pt_cmpR op_in_seq (pv 0) (pe_lst (pa_cons pe_int (pa_cons pe_int (pa_cons pe_int (pa_cons pe_int pa_nil))))) (by with_unfolding_all rfl))))) (pss_one (ps_ret (pe_tup (pa_cons (pe_ix ix_list (pe_lst (pa_cons pe_str (pa_cons pe_str (pa_cons pe_str (pa_cons pe_str pa_nil))))) (pe_op op_sub (pv 0) pe_int) (fun _ _ => rfl)) pa_nil)))) pss_nil)
    (pss_cons (ps_ifM (PW.pt (pw_and (pt_cmpR op_gt (pv 2) pe_int (nomark _)) (pw_and1 (pt_cmpR op_in_seq (pv 0) (pe_lst (pa_cons pe_int (pa_cons pe_int (pa_cons pe_int pa_nil)))) (by with_unfolding_all rfl))))) (pss_one (ps_ret (pe_tup (pa_cons (pe_ix ix_list (pe_lst (pa_cons pe_str (pa_cons pe_str (pa_cons pe_str pa_nil)))) (pe_bm PySem.F.plainAttrs_list PySem.F.slot_list_index PySem.F.type_list_index mt_indexI (pe_lst (pa_cons pe_int (pa_cons pe_int (pa_cons pe_int pa_nil)))) (pa_cons (pv 0) pa_nil)) (fun _ _ => rfl)) pa_nil)))) pss_nil)
    (pss_cons (ps_if (PW.pt (pw_and (pt_cmpR op_gt (pv 2) pe_int (nomark _)) (pw_and1 (pt_cmpR op_eq (pv 0) pe_int (nomark _))))) (pss_one (ps_ret (pe_tup (pa_cons pe_str (pa_cons (pe_op op_mod (pv 1) (pe_callB (call_min2 rfl) rfl T.b_min (by decide +kernel) (pa_cons pe_int (pa_cons (pe_op op_sub (pv 4) (pv 3)) pa_nil)))) pa_nil))))) pss_nil)
    (pss_cons (ps_set (i := 5) sc_law_card_of.nd rfl (Or.inl rfl) (pe_op op_sub (pe_op op_mod (pe_op op_mulB (pv 1) pe_int) (pe_op op_pow pe_int pe_int)) (pe_op op_mulB pe_int (pe_op op_pow pe_int pe_int))))
    (pss_one (ps_ret (pe_tup (pa_cons pe_str (pa_cons (pe_ix ix_list (pe_lst (pa_cons pe_int (pa_cons (pe_un un_neg pe_int) (pa_cons pe_int (pa_cons pe_int (pa_cons (pe_un un_neg pe_int) (pa_cons pe_int (pa_cons (pe_un un_neg pe_int) (pa_cons pe_int (pa_cons pe_int (pa_cons (pv 5) pa_nil))))))))))) (pe_op op_mod (pv 1) pe_int) (fun _ _ => rfl)) pa_nil))))))))))))))), ?_⟩
  try dsimp only [kx, kxb]
  have one : (1 : Nat) ≤ sizeLine := by decide
  have two : (2 : Nat) ≤ sizeLine := by decide
  have refl : ∀ G : Hp, Same G G := fun _ _ _ h => h
  have m3 : (0 : Int) < (if (size : Int) - (k : Int) < 3 then (size : Int) - (k : Int) else 3) := by split <;> omega
  have m6 : (0 : Int) < (if 6 < (k : Int) + 1 then 6 else (k : Int) + 1) := by split <;> omega
  refine ⟨_, rfl, rfl, _, rfl, ?_⟩
  by_cases h : way = 11
  · exact iteT' (by simp [h]) ⟨_, rfl, _, rfl, _, rfl, _, _, rfl, rfl, _, _, rfl, _, _, rfl, rfl, m3, two, fun a ha => q a (.skip _) _ (same_new ha _) upd_same trivial⟩
  refine iteF' (by simp [h]) ?_
  clear h
  refine ⟨_, rfl, rfl, _, rfl, ?_⟩
  by_cases h : way = 13
  · exact iteT' (by simp [h]) ⟨one, fun a ha => q a .burn _ (same_new ha _) upd_same trivial⟩
  refine iteF' (by simp [h]) ?_
  clear h
  refine ⟨_, rfl, rfl, _, rfl, ?_⟩
  by_cases h : way = 14
  · exact iteT' (by simp [h]) ⟨_, rfl, _, rfl, _, _, rfl, rfl, _, _, rfl, _, _, rfl, rfl, m6, two, fun a ha => q a (.back _) _ (same_new ha _) upd_same trivial⟩
  refine iteF' (by simp [h]) ?_
  clear h
  refine ⟨fun H1 => Same H H1 ∧ 0 < high, fun H1 => Same H H1, ?_, ?_, ?_⟩
  · refine ⟨_, rfl, _, _, rfl, rfl, _, rfl, ?_⟩
    by_cases hh : 0 < high
    · exact iteT' (by simp [hh]) ⟨_, rfl, two, fun pl hpl => ⟨_, _, rfl, .inl (SqL.of upd_same), rfl, rfl, _, rfl, ite2 (fun _ => ⟨same_new hpl _, hh⟩) (fun _ => same_new hpl _)⟩⟩
    · exact iteF' (by simp [hh]) (iteF (refl _))
  · rintro H1 ⟨S1, hh⟩
    exact ⟨_, rfl, _, rfl, _, _, rfl, rfl, hh, two, fun a ha => q a (.load _) _ (S1.trans (same_new ha _)) upd_same trivial⟩
  intro H1 S1
  have three : (3 : Nat) ≤ sizeLine := by decide
  have four : (4 : Nat) ≤ sizeLine := by decide
  have ten : (10 : Nat) ≤ sizeLine := by decide
  dsimp only [tNext]
  refine ifAnd (a := decide (1 < high)) (b := decide (V.int way = V.int 4)) (fun R h => ⟨_, rfl, _, _, rfl, rfl, _, rfl, h⟩) (fun R h => ⟨_, rfl, rfl, _, rfl, h⟩) (fun hc => ?_) ?_
  · have hh : 1 < high := by simp at hc; exact hc.1
    exact ⟨_, rfl, _, rfl, _, _, rfl, rfl, _, _, rfl, rfl, (show 0 < high - 1 by omega), two, fun a ha => q a (.store _) _ (S1.trans (same_new ha _)) upd_same trivial⟩
  refine ifAnd (a := decide (1 < high)) (b := decide (V.int way = V.int 8) && decide (V.int (k : Int) = V.int 7)) (fun R h => ⟨_, rfl, _, _, rfl, rfl, _, rfl, h⟩) (pand (fun R h => ⟨_, rfl, rfl, _, rfl, h⟩) (fun R h => ⟨_, rfl, rfl, _, rfl, h⟩)) (fun hc => ?_) ?_
  · have h7 : k = 7 := by simp at hc; omega
    exact ⟨one, fun a ha => q a (.op .mul) _ (S1.trans (same_new ha _)) upd_same h7⟩
  refine ⟨fun H2 => Same H H2 ∧ inV (.int way) [.int 5, .int 6, .int 7, .int 8] = true, fun H2 => Same H H2, ?_, ?_, ?_⟩
  · refine ⟨_, rfl, _, _, rfl, rfl, _, rfl, ?_⟩
    refine ite2 (fun _ => ?_) (fun _ => iteF S1)
    exact ⟨_, rfl, four, fun pl hpl => ⟨_, _, rfl, .inl (SqL.of upd_same), rfl, rfl, _, rfl, ite2 (fun hi => ⟨S1.trans (same_new hpl _), hi⟩) (fun _ => S1.trans (same_new hpl _))⟩⟩
  · rintro H2 ⟨S2, hi⟩
    have hw : way = 5 ∨ way = 6 ∨ way = 7 ∨ way = 8 := in8 hi
    rcases hw with rfl | rfl | rfl | rfl
    · exact ⟨four, fun pl hpl => ⟨_, rfl, _, _, rfl, rfl, _, _, _, _, rfl, rfl, SqL.of upd_same, atI_nat (j := 0) rfl, one, fun a ha => q a (.op .add) _ (S2.trans ((same_new hpl _).trans (same_new ha _))) upd_same trivial⟩⟩
    · exact ⟨four, fun pl hpl => ⟨_, rfl, _, _, rfl, rfl, _, _, _, _, rfl, rfl, SqL.of upd_same, atI_nat (j := 1) rfl, one, fun a ha => q a (.op .sub) _ (S2.trans ((same_new hpl _).trans (same_new ha _))) upd_same trivial⟩⟩
    · exact ⟨four, fun pl hpl => ⟨_, rfl, _, _, rfl, rfl, _, _, _, _, rfl, rfl, SqL.of upd_same, atI_nat (j := 2) rfl, one, fun a ha => q a .less _ (S2.trans ((same_new hpl _).trans (same_new ha _))) upd_same trivial⟩⟩
    · exact ⟨four, fun pl hpl => ⟨_, rfl, _, _, rfl, rfl, _, _, _, _, rfl, rfl, SqL.of upd_same, atI_nat (j := 3) rfl, one, fun a ha => q a .same _ (S2.trans ((same_new hpl _).trans (same_new ha _))) upd_same trivial⟩⟩
  clear S1 H1
  intro H1 S1
  refine ⟨fun H2 => Same H H2 ∧ inV (.int way) [.int 9, .int 10, .int 15] = true, fun H2 => Same H H2, ?_, ?_, ?_⟩
  · refine ⟨_, rfl, _, _, rfl, rfl, _, rfl, ?_⟩
    refine ite2 (fun _ => ?_) (fun _ => iteF S1)
    exact ⟨_, rfl, three, fun pl hpl => ⟨_, _, rfl, .inl (SqL.of upd_same), rfl, rfl, _, rfl, ite2 (fun hi => ⟨S1.trans (same_new hpl _), hi⟩) (fun _ => S1.trans (same_new hpl _))⟩⟩
  · rintro H2 ⟨S2, hi⟩
    have hw : way = 9 ∨ way = 10 ∨ way = 15 := in9 hi
    rcases hw with rfl | rfl | rfl
    · exact ⟨three, fun pl hpl => ⟨three, fun p2 hp2 => ⟨.inl ⟨rfl, _, SqL.of upd_same⟩, _, rfl, _, [9, 10, 15], 9, 0, rfl, rfl, upd_same, rfl, (fun m hm => absurd hm (Nat.not_lt_zero _)), _, _, _, _, rfl, rfl, SqL.of (same_new hp2 _ _ _ upd_same), atI_nat (j := 0) rfl, one, fun a ha => q a .flip _ (S2.trans ((same_new hpl _).trans ((same_new hp2 _).trans (same_new ha _)))) upd_same trivial⟩⟩⟩
    · exact ⟨three, fun pl hpl => ⟨three, fun p2 hp2 => ⟨.inl ⟨rfl, _, SqL.of upd_same⟩, _, rfl, _, [9, 10, 15], 10, 1, rfl, rfl, upd_same, rfl, (fun m hm => by rcases (show m = 0 ∨ m = 0 by omega) with rfl | rfl <;> decide), _, _, _, _, rfl, rfl, SqL.of (same_new hp2 _ _ _ upd_same), atI_nat (j := 1) rfl, one, fun a ha => q a .say _ (S2.trans ((same_new hpl _).trans ((same_new hp2 _).trans (same_new ha _)))) upd_same trivial⟩⟩⟩
    · exact ⟨three, fun pl hpl => ⟨three, fun p2 hp2 => ⟨.inl ⟨rfl, _, SqL.of upd_same⟩, _, rfl, _, [9, 10, 15], 15, 2, rfl, rfl, upd_same, rfl, (fun m hm => by rcases (show m = 0 ∨ m = 1 by omega) with rfl | rfl <;> decide), _, _, _, _, rfl, rfl, SqL.of (same_new hp2 _ _ _ upd_same), atI_nat (j := 2) rfl, one, fun a ha => q a .drop _ (S2.trans ((same_new hpl _).trans ((same_new hp2 _).trans (same_new ha _)))) upd_same trivial⟩⟩⟩
  clear S1 H1
  intro H1 S1
  dsimp only [tNext]
  refine ifAnd (a := decide (0 < high)) (b := decide (V.int way = V.int 12)) (fun R h => ⟨_, rfl, _, _, rfl, rfl, _, rfl, h⟩) (fun R h => ⟨_, rfl, rfl, _, rfl, h⟩) (fun hc => ?_) ?_
  · exact ⟨_, rfl, _, rfl, _, rfl, _, _, rfl, rfl, _, _, rfl, _, _, rfl, rfl, m3, two, fun a ha => q a (.fork _) _ (S1.trans (same_new ha _)) upd_same trivial⟩
  have hf := far8 salt
  obtain ⟨i, ei, hi⟩ := pick8 salt _ hf
  refine ⟨_, rfl, _, _, rfl, rfl, CMul.ok (.inr ⟨by decide +kernel, by decide +kernel⟩), _, _, rfl, rfl, (show CPow 10 30 from ⟨by decide, by decide, by decide⟩), _, _, rfl, rfl, (show (0 : Int) < 10 ^ (30 : Int).toNat by decide +kernel), _, _, rfl, rfl, (show CPow 10 29 from ⟨by decide, by decide, by decide⟩), _, _, rfl, rfl, CMul.ok (.inl ⟨by decide +kernel, by decide +kernel⟩), _, _, rfl, rfl, ?_⟩
  exact ⟨_, rfl, _, rfl, _, rfl, _, rfl, ten, fun pl hpl => ⟨_, rfl, _, _, rfl, rfl, (show (0 : Int) < 10 by decide), _, _, _, _, rfl, rfl, SqL.of upd_same, ei, two, fun a ha => q a (.push i) _ (S1.trans ((same_new hpl _).trans (same_new ha _))) upd_same hi⟩⟩
def spRow8 (K : PySem.W.Frag) : Sp := fun vs H Q _ => ∃ (ls : Addr) (ns : List Int) (high odd : Int), vs = [.ref ls, .int high, .int odd] ∧ H ls = some (.lst (ns.map V.int)) ∧ ns.length ≤ 61 ∧ ∀ l vs cs H', Same H H' → H l = none → H' l = some (.lst vs) → Cds H' vs cs → cs.length = ns.length → (∀ (k : Nat) (c : Cd), cs[k]? = some c → c.ok8 k) → Q (.ref l) H'
def PRow8 (H : Hp) (ls D : Addr) (odd : Int) (k : Nat) (σ : St) (H' : Hp) : Prop := ∃ (hi : Int) (o4 o5 o6 o7 : Option V) (vs : List V) (cs : List Cd), σ = [some (.ref ls), some (.int hi), some (.int odd), some (.ref D), o4, o5, o6, o7] ∧ Same H H' ∧ H' D = some (.lst vs) ∧ Cds H' vs cs ∧ cs.length = k ∧ ∀ (j : Nat) (c : Cd), cs[j]? = some c → c.ok8 j
theorem ok_law_row_of (T : Txt K mg) : FnOk P w K mg base CX0 2 T.f_law_row_of T.fd_law_row_of ["_law_cells", "_law_high", "_law_odd_place"] (spRow8 K) := by
  have G_law_odd_card := ok_law_odd_card (P := P) (w := w) (base := base) T
  have G_law_card_of := ok_law_card_of (P := P) (w := w) (base := base) T
  refine T.law_row_of.F.ok sc_law_row_of (fun vs H Q E h => ?_) (fun cdv A outer s H vs Q E hr h => ?_)
  · obtain ⟨ls, ns, high, odd, rfl, _⟩ := h; rfl
  obtain ⟨ls, ns, high, odd, rfl, hs, hn, q⟩ := h
  refine ⟨_, (pss_cons (ps_set (i := 3) sc_law_row_of.nd rfl (Or.inl rfl) (pe_lst pa_nil))
    (pss_cons (ps_for PassesOwn.never rfl (pi_range1 rfl T.b_range (pa_cons (pe_callB call_len_seq rfl T.b_len PySem.boot_len (pa_cons (pv 0) pa_nil)) pa_nil)) (pg_name (i := 4) sc_law_row_of.nd rfl (Or.inl rfl)) (pss_cons (ps_set (i := 5) sc_law_row_of.nd rfl (Or.inl rfl) (pe_op op_mod (pe_ix ix_list (pv 0) (pv 4) (fun _ _ => rfl)) pe_int))
    (pss_cons (ps_set (i := 6) sc_law_row_of.nd rfl (Or.inl rfl) (pe_op op_add (pe_op op_fdiv (pe_ix ix_list (pv 0) (pv 4) (fun _ _ => rfl)) pe_int) (pe_op op_mulB pe_int (pv 4))))
    (pss_consM (ps_if (pt_cmpR op_lt (pv 4) (pv 2) (nomark _)) (pss_one (ps_set (i := 5) sc_law_row_of.nd rfl (Or.inl rfl) (pe_op op_mod (pv 5) pe_int))) pss_nil)
    (pss_cons (ps_set (i := 7) sc_law_row_of.nd rfl (Or.inl rfl) (pe_call G_law_card_of hr rfl T.law_card_of.m T.law_card_of.F.kp T.law_card_of.b .nil pass0 (pa_cons (pv 5) (pa_cons (pv 6) (pa_cons (pv 1) (pa_cons (pv 4) (pa_cons (pe_callB call_len_seq rfl T.b_len PySem.boot_len (pa_cons (pv 0) pa_nil)) pa_nil)))))))
    (pss_consM (ps_if (pt_cmpR op_eq (pv 4) (pv 2) (nomark _)) (pss_one (ps_set (i := 7) sc_law_row_of.nd rfl (Or.inl rfl) (pe_call G_law_odd_card hr rfl T.law_odd_card.m T.law_odd_card.F.kp T.law_odd_card.b .nil pass0 (pa_cons (pv 6) (pa_cons (pv 1) (pa_cons (pv 4) (pa_cons (pe_callB call_len_seq rfl T.b_len PySem.boot_len (pa_cons (pv 0) pa_nil)) pa_nil))))))) pss_nil)
    (pss_consM (ps_if (pt_cmpR op_in_seq (pe_ix ix_tup (pv 7) pe_int (fun _ _ => rfl)) (pe_lst (pa_cons pe_str (pa_cons pe_str pa_nil))) (by with_unfolding_all rfl)) (pss_one (ps_set (i := 1) sc_law_row_of.nd rfl (Or.inl rfl) (pe_op op_add (pv 1) pe_int))) (pss_one (ps_if (pt_cmpR op_notIn_seq (pe_ix ix_tup (pv 7) pe_int (fun _ _ => rfl)) (pe_lst (pa_cons pe_str (pa_cons pe_str (pa_cons pe_str (pa_cons pe_str pa_nil))))) (by with_unfolding_all rfl)) (pss_one (ps_set (i := 1) sc_law_row_of.nd rfl (Or.inl rfl) (pe_callB (call_max2 rfl) rfl T.b_max (by decide +kernel) (pa_cons pe_int (pa_cons (pe_op op_sub (pv 1) pe_int) pa_nil))))) pss_nil)))
    (pss_one (ps_expr (pe_bm PySem.F.plainAttrs_list PySem.F.slot_list_append PySem.F.type_list_append mt_append (pv 3) (pa_cons (pv 7) pa_nil)))))))))))
    (pss_one (ps_ret (pv 3))))), ?_⟩
  try dsimp only [kx, kxb]
  have two : (2 : Nat) ≤ sizeLine := by decide
  have four : (4 : Nat) ≤ sizeLine := by decide
  refine ⟨Nat.zero_le _, fun D hD => ?_⟩
  have S0 := same_new hD (.lst [])
  have eD : upd H D (.lst []) D = some (.lst []) := upd_same
  generalize upd H D (.lst []) = H0 at S0 eD
  have hml : (ns.map V.int).length = ns.length := List.length_map _
  refine ⟨_, rfl, _, _, rfl, .inl (SqL.of (S0 _ _ hs)), _, rfl, by omega, by omega, ?_⟩
  refine for_range (PRow8 H ls D odd) ⟨high, none, none, none, none, [], [], rfl, S0, eD, .nil, rfl, fun j c h => by simp at h⟩ ?_ ?_
  · rintro k σ H2 hk ⟨hi, o4, o5, o6, o7, vs, cs, rfl, S2, hD2, hC2, hlen, hok2⟩
    have hk' : k < ns.length := by
      have : (((ns.map V.int).length : Nat) : Int).toNat = ns.length := by rw [hml]; rfl
      omega
    have hat : atI (ns.map V.int) ((k : Nat) : Int) = some (.int ns[k]) := atI_nat (by rw [List.getElem?_map, List.getElem?_eq_getElem hk']; rfl)
    have hs2 : SqL K H2 ls (ns.map V.int) := SqL.of (S2 _ _ hs)
    rw [Int.zero_add]
    refine ⟨_, rfl, _, rfl, _, _, _, _, rfl, rfl, hs2, hat, _, _, rfl, rfl, (show (0 : Int) < 16 by decide), ?_⟩
    refine ⟨_, rfl, _, rfl, _, _, _, _, rfl, rfl, hs2, hat, _, _, rfl, rfl, cdiv rfl, _, rfl, _, _, rfl, rfl, CMul.ok (.inl ⟨by decide +kernel, by decide +kernel⟩), _, _, rfl, rfl, ?_⟩
    refine ⟨fun σ' H' => ∃ w salt, σ' = [some (.ref ls), some (.int hi), some (.int odd), some (.ref D), some (.int (k : Int)), some (.int w), some (.int salt), o7] ∧ H' = H2, ?_, ?_⟩
    · exact ⟨_, rfl, _, rfl, _, _, rfl, rfl, _, rfl, ite2 (fun _ => ⟨_, rfl, _, _, rfl, rfl, (show (0 : Int) < 4 by decide), _, _, rfl, rfl⟩) (fun _ => ⟨_, _, rfl, rfl⟩)⟩
    rintro σ' H' ⟨w, salt, rfl, rfl⟩
    refine ⟨_, rfl, _, rfl, _, rfl, _, rfl, _, rfl, _, _, rfl, .inl hs2, w, salt, hi, k, (ns.map V.int).length, rfl, by omega, fun a c H3 S3 ha hok => ?_⟩
    refine ⟨fun σ' H4 => ∃ (a : Addr) (c : Cd), σ' = [some (.ref ls), some (.int hi), some (.int odd), some (.ref D), some (.int (k : Int)), some (.int w), some (.int salt), some (.ref a)] ∧ Same H' H4 ∧ H4 a = some (.tup c.vs) ∧ c.ok8 k, ?_, ?_⟩
    · refine ⟨_, rfl, _, rfl, rfl, _, rfl, ite2 (fun _ => ?_) (fun _ => ⟨a, c, rfl, S3, ha, hok⟩)⟩
      exact ⟨_, rfl, _, rfl, _, rfl, _, rfl, _, _, rfl, .inl (SqL.of (S3 _ _ (S2 _ _ hs))), salt, hi, k, _, rfl, fun a' c' H4 S4 ha' hc' => ⟨a', c', rfl, S3.trans S4, ha', calm_ok hc'⟩⟩
    clear ha hok S3 H3 a c
    rintro σ' H3 ⟨a, c, rfl, S3, ha, hok⟩
    obtain ⟨rr, ev⟩ := Cd.hd c
    have fa : ∀ {G : Hp}, Same H3 G → SqT K G a (.str c.wd :: rr) := fun S => by rw [← ev]; exact SqT.of (S _ _ ha)
    refine ⟨fun σ' H4 => ∃ hi', σ' = [some (.ref ls), some (.int hi'), some (.int odd), some (.ref D), some (.int (k : Int)), some (.int w), some (.int salt), some (.ref a)] ∧ Same H3 H4, ?_, ?_⟩
    · refine ⟨_, rfl, _, _, _, _, rfl, rfl, fa (fun _ _ z => z), at0, two, fun pl hpl => ⟨_, _, rfl, .inl (SqL.of upd_same), rfl, rfl, _, rfl, ite2 (fun _ => ⟨_, rfl, _, _, rfl, rfl, _, rfl, same_new hpl _⟩) (fun _ => ?_)⟩⟩
      exact ⟨_, rfl, _, _, _, _, rfl, rfl, fa (same_new hpl _), at0, four, fun p2 hp2 => ⟨_, _, rfl, .inl (SqL.of upd_same), rfl, rfl, _, rfl, ite2 (fun _ => ⟨_, rfl, _, _, rfl, rfl, _, _, rfl, _, rfl, (same_new hpl _).trans (same_new hp2 _)⟩) (fun _ => ⟨_, rfl, (same_new hpl _).trans (same_new hp2 _)⟩)⟩⟩
    rintro σ' H4 ⟨hi', rfl, S4⟩
    have S34 := S3.trans S4
    have eD4 := S34 _ _ hD2
    have hvl := hC2.len
    refine ⟨_, rfl, .inl ⟨rfl, _, SqL.of eD4⟩, _, rfl, _, _, _, rfl, rfl, eD4, by rw [hvl, hlen, sizeLine_eq]; omega, ?_⟩
    have L5 := (but_upd (H := H4) (l := D) (.lst (vs ++ [.ref a]))).tup eD4
    refine ⟨hi', _, _, _, _, vs ++ [.ref a], cs ++ [c], rfl, Same.at (S2.trans S34) hD _, upd_same, psnoc ((hC2.mono S34.tup).mono L5) ⟨a, rfl, L5 _ _ (S4 _ _ ha)⟩, by rw [List.length_append, hlen]; rfl, fun j c' hj => ?_⟩
    rcases Nat.lt_or_ge j cs.length with h | h
    · rw [List.getElem?_append_left h] at hj
      exact hok2 j c' hj
    · rw [List.getElem?_append_right h] at hj
      cases e : j - cs.length with
      | zero =>
        rw [e] at hj
        cases hj
        have : j = k := by omega
        rw [this]; exact hok
      | succ n => rw [e] at hj; cases hj
  · rintro σ H2 ⟨hi, o4, o5, o6, o7, vs, cs, rfl, S2, hD2, hC2, hlen, hok2⟩
    exact ⟨_, rfl, q D vs cs H2 S2 hD hD2 hC2 (by rw [hlen, hml]; rfl) hok2⟩
end
end W08

set_option Elab.async false
set_option linter.all false
namespace L2
open PySem PySem.Spec PyProof.Rows PySem.W
theorem psx_ret {X : Cx} {e : Expr} {pos : Pos} {t : St → Hp → VK → (Value → Hp → Prop) → Prop} (he : PEx X e t) : PSx X [.Return (some e) pos] (fun D σ H EX => t σ H D.rt EX) := by
  intro pins s σ H D EX I h
  refine wpAny_execs_cons (wpAny_Return_some (wpAny_mono (he pins s σ H _ EX I h) (fun v s1 ⟨x, H1, I1, r1, q1⟩ => ?_) fun _ _ z => z))

  exact ⟨x, σ, H1, I1, r1, q1⟩
end L2

set_option Elab.async false
set_option linter.all false
set_option maxRecDepth 100000
set_option maxHeartbeats 4000000
namespace W08
open PySem L2 J
section
variable {P : Program} {w : World} {K : PySem.W.Frag} {mg : Str → Option Value} {base : Heap}
/-! ### _law_diary_or, _law_told_of -/
def spDor (K : PySem.W.Frag) : Sp := fun vs H Q _ => ∃ (lc lq : Addr) (ws : List V) (cs : List Cd) (pile : List Int) (oil n : Nat) (r : List S8) (o : Option Bool), vs = [.ref lc, .ref lq, .int (oil : Int)] ∧ H lc = some (.lst ws) ∧ Cds H ws cs ∧ H lq = some (.lst (pile.map V.int)) ∧ Tr cs n ⟨0, pile, oil, []⟩ r o ∧ r.length ≤ 1000000 ∧
  (o ≠ none → ∀ D vs H', Same H H' → H' D = some (.lst vs) → Paired (IsSt noM H') vs (⟨0, pile, oil, []⟩ :: r) → Q (.ref D) H') ∧ (o = none → ∀ H', Same H H' → Q .non H')
theorem ok_law_diary_or (T : Txt K mg) : FnOk P w K mg base CX0 7 T.f_law_diary_or T.fd_law_diary_or ["_law_cards", "_law_pile", "_law_oil"] (spDor K) := by
  have G_diary := ok_diary (P := P) (w := w) (base := base) T
  refine T.law_diary_or.F.ok sc_law_diary_or (fun vs H Q E h => ?_) (fun cdv A outer s H vs Q E hr h => ?_)
  · obtain ⟨lc, lq, ws, cs, pile, oil, n, r, o, rfl, _⟩ := h; rfl
  obtain ⟨lc, lq, ws, cs, pile, oil, n, r, o, rfl, hc, hC, hq, hrun, hrl, q, qn⟩ := h
  refine ⟨_, (pss_one (ps_try (hit := fun c => c = .ref T.er.cJam) rfl rfl (psx_ret (pex_call G_diary hr (fun _ _ z => z) rfl T.diary.m T.diary.F.kp T.diary.b (pa_cons (pv 0) (pa_cons (pv 1) (pa_cons (pv 2) pa_nil))))) rfl T.er.mJam (fun c e => e ▸ takes_self T.er.qJam (by decide)) (fun x => (pss_one (ps_ret pe_non))))), ?_⟩
  try dsimp only [kx, kxb]
  exact ⟨_, rfl, _, rfl, _, rfl, lc, lq, ws, cs, pile, oil, n, r, o, rfl, hc, hC, hq, hrun, hrl, q, fun ho H' S => ⟨rfl, qn ho H' S⟩⟩
def spTold (K : PySem.W.Frag) : Sp := fun vs H Q _ => ∃ (lc lq : Addr) (ws : List V) (cs : List Cd) (pile : List Int) (oil n : Nat) (r : List S8) (o : Option Bool), vs = [.ref lc, .ref lq, .int (oil : Int)] ∧ H lc = some (.lst ws) ∧ Cds H ws cs ∧ H lq = some (.lst (pile.map V.int)) ∧ Tr cs n ⟨0, pile, oil, []⟩ r o ∧
  (∀ b, o = some b → ∀ t ld lp H', Same H H' → H' t = some (.tup [.str (if b = true then "done" else "dry"), .ref ld, .ref lp, .int ((oil : Int) - ((lastS ⟨0, pile, oil, []⟩ r).l : Int))]) → H' ld = some (.lst ((lastS ⟨0, pile, oil, []⟩ r).s.map V.int)) → H' lp = some (.lst ((lastS ⟨0, pile, oil, []⟩ r).p.map V.int)) → Q (.ref t) H') ∧ (o = none → ∀ H', Same H H' → Q .non H')
theorem ok_law_told_of (T : Txt K mg) : FnOk P w K mg base CX0 7 T.f_law_told_of T.fd_law_told_of ["_law_cards", "_law_pile", "_law_oil"] (spTold K) := by
  have G_ran := (ok_ran (P := P) (w := w) (base := base) T).or (ok_ranJ T)
  refine T.law_told_of.F.ok sc_law_told_of (fun vs H Q E h => ?_) (fun cdv A outer s H vs Q E hr h => ?_)
  · obtain ⟨lc, lq, ws, cs, pile, oil, n, r, o, rfl, _⟩ := h; rfl
  obtain ⟨lc, lq, ws, cs, pile, oil, n, r, o, rfl, hc, hC, hq, hrun, q, qn⟩ := h
  refine ⟨_, (pss_one (ps_try (hit := fun c => c = .ref T.er.cJam) rfl rfl (psx_ret (pex_call G_ran hr (fun _ _ z => z) rfl T.ran.m T.ran.F.kp T.ran.b (pa_cons (pv 0) (pa_cons (pv 1) (pa_cons (pv 2) pa_nil))))) rfl T.er.mJarError (fun c e => e ▸ takes_base T.er.qJam T.er.qJarError (by decide) T.er.mro) (fun x => (pss_one (ps_ret pe_non))))), ?_⟩
  try dsimp only [kx, kxb]
  refine ⟨_, rfl, _, rfl, _, rfl, ?_⟩
  cases o with
  | some b => exact .inl ⟨lc, lq, ws, cs, pile, oil, n, _, rfl, hc, hC, hq, hrun.run rfl, fun t ld lp H' S e1 e2 e3 => q b rfl t ld lp H' S (by rw [e1]; cases b <;> rfl) e2 e3⟩
  | none => exact .inr ⟨lc, lq, ws, cs, pile, oil, n, r, rfl, hc, hC, hq, hrun, fun H' S => ⟨rfl, qn rfl H' S⟩⟩
end
section
variable {P : Program} {w : World} {K : PySem.W.Frag} {mg : Str → Option Value} {base : Heap}
/-! ### _law_whole, _law_at -/
def spWhole (K : PySem.W.Frag) : Sp := fun vs H Q _ => ∃ i : Int, vs = [.int i] ∧ Q (.bl true) H
theorem ok_law_whole (T : Txt K mg) : FnOk P w K mg base CX0 1 T.f_law_whole T.fd_law_whole ["_law_found"] (spWhole K) := by
  refine T.law_whole.F.ok sc_law_whole (fun vs H Q E h => ?_) (fun cdv A outer s H vs Q E hr h => ?_)
  · obtain ⟨i, rfl, _⟩ := h; rfl
  obtain ⟨i, rfl, q⟩ := h
  refine ⟨_, (pss_one (ps_ret (pe_and (pe_callB call_isiP rfl T.b_isinstance bt_isinstance (pa_cons (pv 0) (pa_cons (pe_bltn (v := .ty "int") rfl T.b_int bt_int rfl) pa_nil))) (pe_one (pe_not (pe_callB call_isiP rfl T.b_isinstance bt_isinstance (pa_cons (pv 0) (pa_cons (pe_bltn (v := .ty "bool") rfl T.b_bool bt_bool rfl) pa_nil)))))))), ?_⟩
  try dsimp only [kx, kxb]
  refine ⟨_, rfl, _, _, _, _, rfl, .inl (.int i), (by decide +kernel : isT "int" "int" = some true), _, rfl, iteT' rfl ?_⟩
  exact ⟨_, rfl, _, _, _, _, rfl, .inl (.int i), (by decide +kernel : isT "int" "bool" = some false), _, rfl, q⟩
end
section
variable {P : Program} {w : World} {K : PySem.W.Frag} {mg : Str → Option Value} {base : Heap}
def spAt (K : PySem.W.Frag) : Sp := fun vs H Q _ => ∃ (a : Addr) (ns : List Int) (k : Nat), vs = [.ref a, .int k] ∧ SqL K H a (ns.map V.int) ∧ ns.length ≤ 63 ∧ Q (.int (ns.getD k 0)) H
theorem ok_law_at (T : Txt K mg) : FnOk P w K mg base CX0 1 T.f_law_at T.fd_law_at ["_law_script", "_law_k"] (spAt K) := by
  refine T.law_at.F.ok sc_law_at (fun vs H Q E h => ?_) (fun cdv A outer s H vs Q E hr h => ?_)
  · obtain ⟨a, ns, k, rfl, _⟩ := h; rfl
  obtain ⟨a, ns, k, rfl, hS, hn, q⟩ := h
  refine ⟨_, (pss_cons (ps_if (pt_cmpR op_lt (pv 1) (pe_callB call_len_seq rfl T.b_len PySem.boot_len (pa_cons (pv 0) pa_nil)) (nomark _)) (pss_one (ps_ret (pe_ix ix_list (pv 0) (pv 1) (fun _ _ => rfl)))) pss_nil)
    (pss_one (ps_ret pe_int))), ?_⟩
  try dsimp only [kx, kxb]
  have hl : (ns.map V.int).length = ns.length := List.length_map _
  refine ⟨_, rfl, _, rfl, a, _, rfl, .inl hS, _, _, rfl, rfl, _, rfl, ?_⟩
  refine ite2 (fun c => ?_) (fun c => ?_)
  · have c' : (k : Int) < ((ns.map V.int).length : Int) := of_decide_eq_true c
    rw [hl] at c'
    have hk : k < ns.length := by omega
    refine ⟨_, rfl, _, rfl, _, _, _, _, rfl, rfl, hS, atI_nat (by rw [List.getElem?_map, List.getElem?_eq_getElem hk]; rfl), ?_⟩
    rw [List.getD_eq_getElem?_getD, List.getElem?_eq_getElem hk] at q
    exact q
  · have c' : ¬ (k : Int) < ((ns.map V.int).length : Int) := of_decide_eq_false (Bool.eq_false_iff.mpr c)
    rw [hl] at c'
    rw [List.getD_eq_getElem?_getD, List.getElem?_eq_none (by omega)] at q
    exact q
end
section
variable {P : Program} {w : World} {K : PySem.W.Frag} {mg : Str → Option Value} {base : Heap}
/-! ### _law_alike -/
def spAlike (K : PySem.W.Frag) : Sp := fun vs H Q _ => ∃ (u v : V) (n : Nat), vs = [u, v] ∧ AlkL K H [u] [v] n ∧ n ≤ 10000000 ∧ ∀ H', Same H H' → Q (.bl true) H'
def WAlike (K : PySem.W.Frag) (H : Hp) (u v : V) (l r : Addr) (n m : Nat) (σ : St) (H' : Hp) : Prop :=
  ∃ left right o4 o5, σ = [some u, some v, some (.ref l), some (.ref r), o4, o5] ∧ Same H H' ∧ H' l = some (.lst left) ∧ H' r = some (.lst right) ∧ AlkL K H left right m ∧ m ≤ n
theorem ok_law_alike (T : Txt K mg) : FnOk P w K mg base CX0 2 T.f_law_alike T.fd_law_alike ["_law_found", "_law_due"] (spAlike K) := by
  have G_law_whole := ok_law_whole (P := P) (w := w) (base := base) T
  refine T.law_alike.F.ok sc_law_alike (fun vs H Q E h => ?_) (fun cdv A outer s H vs Q E hr h => ?_)
  · obtain ⟨u, v, n, rfl, _⟩ := h; rfl
  obtain ⟨u, v, n, rfl, ha, hn, q⟩ := h
  refine ⟨_, (pss_cons (ps_set (i := 2) sc_law_alike.nd rfl (Or.inl rfl) (pe_lst (pa_cons (pv 0) pa_nil)))
    (pss_cons (ps_set (i := 3) sc_law_alike.nd rfl (Or.inl rfl) (pe_lst (pa_cons (pv 1) pa_nil)))
    (pss_cons (ps_while PassesOwn.never (pt_cmpR (op_neNil hr.units0) (pv 3) (pe_lst pa_nil) (nomark _)) (pss_cons (ps_set (i := 4) sc_law_alike.nd rfl (Or.inl rfl) (pe_bm0 PySem.F.plainAttrs_list PySem.F.slot_list_pop PySem.F.type_list_pop mt_pop (pv 2)))
    (pss_cons (ps_set (i := 5) sc_law_alike.nd rfl (Or.inl rfl) (pe_bm0 PySem.F.plainAttrs_list PySem.F.slot_list_pop PySem.F.type_list_pop mt_pop (pv 3)))
    (pss_one (ps_if (pt_val (pe_callB call_isiTP rfl T.b_isinstance bt_isinstance (pa_cons (pv 5) (pa_cons (pe_tup (pa_cons (pe_bltn (v := .ty "list") rfl T.b_list bt_list rfl) (pa_cons (pe_bltn (v := .ty "tuple") rfl T.b_tuple bt_tuple rfl) pa_nil))) pa_nil)))) (pss_cons (ps_if (pt_cmpR op_ne (pe_callB call_isiP rfl T.b_isinstance bt_isinstance (pa_cons (pv 4) (pa_cons (pe_bltn (v := .ty "list") rfl T.b_list bt_list rfl) pa_nil))) (pe_callB call_isiP rfl T.b_isinstance bt_isinstance (pa_cons (pv 5) (pa_cons (pe_bltn (v := .ty "list") rfl T.b_list bt_list rfl) pa_nil))) (nomark _)) (pss_one (ps_ret pe_bl)) pss_nil)
    (pss_cons (ps_if (PW.pt (pw_or (pt_cmpR op_ne (pe_callB call_isiP rfl T.b_isinstance bt_isinstance (pa_cons (pv 4) (pa_cons (pe_bltn (v := .ty "tuple") rfl T.b_tuple bt_tuple rfl) pa_nil))) (pe_callB call_isiP rfl T.b_isinstance bt_isinstance (pa_cons (pv 5) (pa_cons (pe_bltn (v := .ty "tuple") rfl T.b_tuple bt_tuple rfl) pa_nil))) (nomark _)) (pw_or1 (pt_cmpR op_ne (pe_callB call_len_seq rfl T.b_len PySem.boot_len (pa_cons (pv 4) pa_nil)) (pe_callB call_len_seq rfl T.b_len PySem.boot_len (pa_cons (pv 5) pa_nil)) (nomark _))))) (pss_one (ps_ret pe_bl)) pss_nil)
    (pss_cons (ps_expr (pe_bm PySem.F.plainAttrs_list PySem.F.slot_list_extend PySem.F.type_list_extend mt_extendP (pv 2) (pa_cons (pv 4) pa_nil)))
    (pss_one (ps_expr (pe_bm PySem.F.plainAttrs_list PySem.F.slot_list_extend PySem.F.type_list_extend mt_extendP (pv 3) (pa_cons (pv 5) pa_nil))))))) (pss_one (ps_if (pt_val (pe_callB call_isiP rfl T.b_isinstance bt_isinstance (pa_cons (pv 5) (pa_cons (pe_bltn (v := .ty "str") rfl T.b_str bt_str rfl) pa_nil)))) (pss_one (ps_if (PW.pt (pw_or (pt_not (pt_val (pe_callB call_isiP rfl T.b_isinstance bt_isinstance (pa_cons (pv 4) (pa_cons (pe_bltn (v := .ty "str") rfl T.b_str bt_str rfl) pa_nil))))) (pw_or1 (pt_cmpR op_ne (pv 4) (pv 5) (nomark _))))) (pss_one (ps_ret pe_bl)) pss_nil)) (pss_one (ps_if (PW.pt (pw_or (pt_not (pt_val (pe_call G_law_whole hr rfl T.law_whole.m T.law_whole.F.kp T.law_whole.b .nil pass0 (pa_cons (pv 4) pa_nil)))) (pw_or1 (pt_cmpR op_ne (pv 4) (pv 5) (nomark _))))) (pss_one (ps_ret pe_bl)) pss_nil)))))))))
    (pss_one (ps_ret pe_bl))))), ?_⟩
  try dsimp only [kx, kxb]
  have one : (1 : Nat) ≤ sizeLine := by decide
  refine ⟨_, rfl, one, fun l hl => ?_⟩
  refine ⟨_, rfl, one, fun r hr' => ?_⟩
  have S1 : Same H (upd H l (.lst [u])) := same_new hl _
  have S2 : Same (upd H l (.lst [u])) (upd (upd H l (.lst [u])) r (.lst [v])) := same_new hr' _
  have hlr : l ≠ r := ne_of_none upd_same hr'
  have hrH : H r = none := S1.free hr'
  refine ⟨WAlike K H u v l r n, ⟨n, [u], [v], none, none, rfl, S1.trans S2, S2 _ _ upd_same, upd_same, ha, Nat.le_refl _⟩, ?_⟩
  rintro m σ H' ⟨left, right, o4, o5, rfl, S, hL, hR, hk, hm⟩
  refine ⟨_, rfl, Nat.zero_le _, fun p hp => ?_⟩
  have Sp : Same H' (upd H' p (.lst [])) := same_new hp _
  refine ⟨_, _, _, rfl, rfl, SqL.of (Sp _ _ hR), SqL.of upd_same, _, rfl, ?_⟩
  rcases hk.last with ⟨rfl, rfl⟩ | ⟨xs', ys', x, y, m1, k1, rfl, rfl, h1, h2, rfl⟩
  · exact iteF' rfl (q _ (S.trans Sp))
  refine iteT' (by simp) ?_
  refine ⟨fun σ' H'' => ∃ m', m' < m1 + k1 ∧ WAlike K H u v l r n m' σ' H'', fun σ' H'' z => z, ?_⟩
  have SH1 : Same H (upd H' p (.lst [])) := S.trans Sp
  have hL1 := Sp _ _ hL
  have hR1 := Sp _ _ hR
  generalize upd H' p (.lst []) = H1 at SH1 hL1 hR1
  refine ⟨_, rfl, .inl ⟨rfl, _, SqL.of hL1⟩, _, _, _, rfl, rfl, hL1, last_get xs' x, ?_⟩
  refine ⟨_, rfl, .inl ⟨rfl, _, SqL.of (by rw [upd_ne hlr.symm]; exact hR1)⟩, _, _, _, rfl, rfl, (by rw [upd_ne hlr.symm]; exact hR1), last_get ys' y, ?_⟩
  rw [List.dropLast_concat, List.dropLast_concat]
  have SH3 : Same H (upd (upd H1 l (.lst xs')) r (.lst ys')) := Same.at (Same.at SH1 hl _) hrH _
  have hL3 : upd (upd H1 l (.lst xs')) r (.lst ys') l = some (.lst xs') := by rw [upd_ne hlr]; exact upd_same
  have hR3 : upd (upd H1 l (.lst xs')) r (.lst ys') r = some (.lst ys') := upd_same
  generalize upd (upd H1 l (.lst xs')) r (.lst ys') = H3 at SH3 hL3 hR3
  have two : (2 : Nat) ≤ sizeLine := by decide
  refine ⟨_, rfl, two, fun p3 hp3 => ?_⟩
  have S3 : Same H3 (upd H3 p3 (.tup [V.ty "list", V.ty "tuple"])) := same_new hp3 _
  have SH4 := SH3.trans S3
  have hL4 := S3 _ _ hL3
  have hR4 := S3 _ _ hR3
  have hT4 : upd H3 p3 (.tup [V.ty "list", V.ty "tuple"]) p3 = some (.tup (["list", "tuple"].map V.ty)) := upd_same
  cases h2 with
  | int i =>
    refine ⟨_, "int", _, ["list", "tuple"], false, rfl, .inl (.int i), hT4, by decide +kernel, _, rfl, iteF' rfl ?_⟩
    refine ⟨_, rfl, _, "int", _, false, rfl, .inl (.int i), by decide +kernel, _, rfl, iteF' rfl ?_⟩
    refine ⟨_, rfl, i, rfl, _, rfl, iteF' rfl ?_⟩
    refine ⟨_, rfl, _, rfl, rfl, _, rfl, iteF' (by simp) ?_⟩
    exact ⟨m1, by omega, xs', ys', _, _, rfl, SH4, hL4, hR4, h1, by omega⟩
  | str z =>
    refine ⟨_, "str", _, ["list", "tuple"], false, rfl, .inl (.str z), hT4, by decide +kernel, _, rfl, iteF' rfl ?_⟩
    refine ⟨_, rfl, _, "str", _, true, rfl, .inl (.str z), by decide +kernel, _, rfl, iteT' rfl ?_⟩
    refine ⟨_, rfl, _, "str", _, true, rfl, .inl (.str z), by decide +kernel, _, rfl, iteF' rfl ?_⟩
    refine ⟨_, rfl, _, rfl, rfl, _, rfl, iteF' (by simp) ?_⟩
    exact ⟨m1, by omega, xs', ys', _, _, rfl, SH4, hL4, hR4, h1, by omega⟩
  | @tup a b us vs k e1 e2 h3 =>
    have f1 := e1.mono SH4.tup
    have f2 := e2.mono SH4.tup
    have lens := h3.len
    have lens1 := h1.len
    refine ⟨_, "tuple", _, ["list", "tuple"], true, rfl, .inr ⟨rfl, _, _, rfl, f2⟩, hT4, by decide +kernel, _, rfl, iteT' rfl ?_⟩
    refine ⟨_, rfl, _, "tuple", _, false, rfl, .inr ⟨rfl, _, _, rfl, f1⟩, by decide +kernel, _, rfl, _, "tuple", _, false, rfl, .inr ⟨rfl, _, _, rfl, f2⟩, by decide +kernel, rfl, _, rfl, iteF' rfl ?_⟩
    refine ⟨_, rfl, _, "tuple", _, true, rfl, .inr ⟨rfl, _, _, rfl, f1⟩, by decide +kernel, _, rfl, _, "tuple", _, true, rfl, .inr ⟨rfl, _, _, rfl, f2⟩, by decide +kernel, rfl, _, rfl, iteF' rfl ?_⟩
    refine ⟨_, rfl, _, _, rfl, .inr (f1.sq), _, rfl, _, _, rfl, .inr (f2.sq), rfl, _, rfl, iteF' (by rw [lens.1]; simp) ?_⟩
    refine ⟨_, rfl, .inl ⟨rfl, _, SqL.of hL4⟩, _, rfl, _, _, _, _, rfl, rfl, hL4, .inr f1, (by rw [sizeLine_eq]; omega), ?_⟩
    have rl : r ≠ l := hlr.symm
    refine ⟨_, rfl, .inl ⟨rfl, _, SqL.of (by rw [upd_ne rl]; exact hR4)⟩, _, rfl, _, _, _, _, rfl, rfl, (by rw [upd_ne rl]; exact hR4), .inr (f2.mono ((but_upd (l := l) _).tup hL4)), (by rw [sizeLine_eq]; omega), ?_⟩
    refine ⟨m1 + k, by omega, xs' ++ us, ys' ++ vs, _, _, rfl, Same.at (Same.at SH4 hl _) hrH _, ?_, upd_same, h1.app h3, by omega⟩
    rw [upd_ne hlr]; exact upd_same
  | @lst a b us vs k e1 e2 h3 =>
    have f1 := SH4 _ _ e1
    have f2 := SH4 _ _ e2
    have lens := h3.len
    have lens1 := h1.len
    refine ⟨_, "list", _, ["list", "tuple"], true, rfl, .inl (.lst f2), hT4, by decide +kernel, _, rfl, iteT' rfl ?_⟩
    refine ⟨_, rfl, _, "list", _, true, rfl, .inl (.lst f1), by decide +kernel, _, rfl, _, "list", _, true, rfl, .inl (.lst f2), by decide +kernel, rfl, _, rfl, iteF' rfl ?_⟩
    refine ⟨_, rfl, _, "list", _, false, rfl, .inl (.lst f1), by decide +kernel, _, rfl, _, "list", _, false, rfl, .inl (.lst f2), by decide +kernel, rfl, _, rfl, iteF' rfl ?_⟩
    refine ⟨_, rfl, _, _, rfl, .inl (SqL.of f1), _, rfl, _, _, rfl, .inl (SqL.of f2), rfl, _, rfl, iteF' (by rw [lens.1]; simp) ?_⟩
    refine ⟨_, rfl, .inl ⟨rfl, _, SqL.of hL4⟩, _, rfl, _, _, _, _, rfl, rfl, hL4, .inl f1, (by rw [sizeLine_eq]; omega), ?_⟩
    have bl : b ≠ l := ne_of_none e2 hl
    have rl : r ≠ l := hlr.symm
    refine ⟨_, rfl, .inl ⟨rfl, _, SqL.of (by rw [upd_ne rl]; exact hR4)⟩, _, rfl, _, _, _, _, rfl, rfl, (by rw [upd_ne rl]; exact hR4), .inl (by rw [upd_ne bl]; exact f2), (by rw [sizeLine_eq]; omega), ?_⟩
    refine ⟨m1 + k, by omega, xs' ++ us, ys' ++ vs, _, _, rfl, Same.at (Same.at SH4 hl _) hrH _, ?_, upd_same, h1.app h3, by omega⟩
    rw [upd_ne hlr]; exact upd_same
end
end W08

set_option Elab.async false
set_option linter.all false
set_option maxRecDepth 100000
set_option maxHeartbeats 4000000
namespace W08
open PySem L2 J
section
variable {P : Program} {w : World} {K : PySem.W.Frag} {mg : Str → Option Value} {base : Heap}
/-! ### law -/
theorem oil_nat {x : Int} {m : Int} {n : Nat} (h0 : 0 ≤ x) (h1 : x < m) (hm : m ≤ (n : Int) + 1) : ∃ o : Nat, o ≤ n ∧ x = (o : Int) := ⟨x.toNat, by omega, by omega⟩
theorem cut_from2 (ns : List Int) (h : ns.length ≤ 63) : ∃ cs : List Int, cutV (ns.map V.int) (some 2) none = cs.map V.int ∧ cs.length ≤ 61 := by
  refine ⟨(ns.drop (HT.sIx (ns.map V.int).length 0 (some 2))).take (HT.sIx (ns.map V.int).length (ns.map V.int).length none - HT.sIx (ns.map V.int).length 0 (some 2)), ?_, ?_⟩
  · unfold cutV
    rw [List.map_take, List.map_drop]
  · have e : HT.sIx (ns.map V.int).length 0 (some 2) = min 2 (ns.map V.int).length := HT.sIx_nat _ _ 2
    rw [List.length_take, List.length_drop, e, List.length_map]
    omega
theorem tr_len {cs : List Cd} {m : Nat} {s : S8} {r : List S8} {o : Option Bool} (h : Tr cs m s r o) : ∀ t ∈ s :: r, t.p.length ≤ s.p.length + r.length ∧ t.s.length ≤ s.s.length + r.length := by
  induction h with
  | done => intro t ht; rw [List.mem_singleton.mp ht]; exact ⟨Nat.le_refl _, Nat.le_refl _⟩
  | dry _ _ => intro t ht; rw [List.mem_singleton.mp ht]; exact ⟨Nat.le_refl _, Nat.le_refl _⟩
  | jam _ _ => intro t ht; rw [List.mem_singleton.mp ht]; exact ⟨Nat.le_refl _, Nat.le_refl _⟩
  | step st h1 h2 _ ih =>
    intro t ht
    have hl := st.len
    rw [List.length_cons]
    rcases List.mem_cons.mp ht with rfl | ht
    · exact ⟨Nat.le_add_right _ _, Nat.le_add_right _ _⟩
    · have := ih t ht
      dsimp only at this ⊢
      omega
theorem st_alk {K : PySem.W.Frag} {H : Hp} {B : Nat} : ∀ {sts : List S8} {vs ws : List V}, Paired (IsSt noM H) vs sts → Paired (IsSt noM H) ws sts → (∀ t ∈ sts, t.p.length ≤ B) → ∃ n, n ≤ sts.length * (B + 5) ∧ AlkL K H vs ws n
  | _, _, _, .nil, .nil, _ => ⟨0, Nat.zero_le _, .nil⟩
  | _, _, _, .cons (b := t) h t1, .cons g t2, hB => by
    obtain ⟨a, lq, rfl, _, h1, h2⟩ := h
    obtain ⟨b, lq', rfl, _, g1, g2⟩ := g
    obtain ⟨n, hn, al⟩ := st_alk t1 t2 (fun t ht => hB t (List.mem_cons_of_mem _ ht))
    refine ⟨_, ?_, .tup (.inl h1) (.inl g1) (.int (.lst h2 g2 (AlkL.ints _) (.int .nil))) al⟩
    have := hB t (List.mem_cons_self)
    rw [List.length_cons, Nat.succ_mul]
    omega
theorem p_last {F : V → S8 → Prop} : ∀ {r : List S8} {s : S8} {vs : List V}, Paired F vs (s :: r) → ∃ vs' v, vs = vs' ++ [v] ∧ F v (lastS s r)
  | [], s, _, .cons h .nil => ⟨[], _, rfl, h⟩
  | t :: r, s, _, .cons (a := x) h g => by
    obtain ⟨vs', v, e, hv⟩ := p_last g
    exact ⟨x :: vs', v, by rw [e]; rfl, by rw [lastS_cons]; exact hv⟩
def spLaw (K : PySem.W.Frag) : Sp := fun vs H Q _ => ∃ (a : Addr) (ns : List Int), vs = [.ref a] ∧ SqL K H a (ns.map V.int) ∧ ns.length ≤ 63 ∧ ∀ H', Q (.bl true) H'
theorem ok_law (T : Txt K mg) : FnOk P w K mg base CX0 60 T.f_law T.fd_law ["_law_script"] (spLaw K) := by
  have G_law_at := (ok_law_at (P := P) (w := w) (base := base) T).mono (show 1 ≤ 59 by omega)
  have G_law_row_of := (ok_law_row_of (P := P) (w := w) (base := base) T).mono (show 2 ≤ 59 by omega)
  have G_law_run := (ok_law_run (P := P) (w := w) (base := base) T).mono (show 4 ≤ 59 by omega)
  have G_law_diary_or := (ok_law_diary_or (P := P) (w := w) (base := base) T).mono (show 7 ≤ 59 by omega)
  have G_law_told_of := (ok_law_told_of (P := P) (w := w) (base := base) T).mono (show 7 ≤ 59 by omega)
  have G_law_alike := (ok_law_alike (P := P) (w := w) (base := base) T).mono (show 2 ≤ 59 by omega)
  refine T.law.F.ok sc_law (fun vs H Q E h => ?_) (fun cdv A outer s H vs Q E hr h => ?_)
  · obtain ⟨a, ns, rfl, _⟩ := h; rfl
  obtain ⟨a, sc, rfl, hS, h63, q⟩ := h
  refine ⟨_, (pss_cons (ps_set (i := 1) sc_law.nd rfl (Or.inl rfl) (pe_call G_law_at hr rfl T.law_at.m T.law_at.F.kp T.law_at.b .nil pass0 (pa_cons (pv 0) (pa_cons pe_int pa_nil))))
    (pss_cons (ps_set (i := 2) sc_law.nd rfl (Or.inr rfl) (pe_call G_law_at hr rfl T.law_at.m T.law_at.F.kp T.law_at.b .nil pass0 (pa_cons (pv 0) (pa_cons pe_int pa_nil))))
    (pss_cons (ps_set (i := 3) sc_law.nd rfl (Or.inl rfl) (pe_op op_mod (pe_op op_fdiv (pv 1) pe_int) pe_int))
    (pss_cons (ps_setComp (i := 4) sc_law.nd rfl rfl rfl (js := [2]) (ys := ["_law_head"]) (pi_range1 rfl T.b_range (pa_cons (pe_op op_mod (pv 2) pe_int) pa_nil)) (by rfl) (by rfl) (by decide +kernel) (fun _ _ _ _ => pts_nil) (fun _ _ _ _ => (pe_op op_sub (pe_op op_mod (pe_op op_add (pe_op op_fdiv (pv 1) pe_int) (pe_op op_mulB pe_int (pv 0))) pe_int) pe_int)))
    (pss_cons (ps_set (i := 5) sc_law.nd rfl (Or.inl rfl) (pe_un un_neg pe_int))
    (pss_consM (ps_if (pt_cmpR op_eq (pe_op op_mod (pv 1) pe_int) pe_int (nomark _)) (pss_one (ps_set (i := 5) sc_law.nd rfl (Or.inl rfl) (pe_op op_mod (pe_op op_add (pe_op op_fdiv (pv 1) pe_int) (pv 2)) (pe_callB (call_max2 rfl) rfl T.b_max (by decide +kernel) (pa_cons pe_int (pa_cons (pe_callB (call_min2 rfl) rfl T.b_min (by decide +kernel) (pa_cons pe_int (pa_cons (pe_op op_sub (pe_callB call_len_seq rfl T.b_len PySem.boot_len (pa_cons (pv 0) pa_nil)) pe_int) pa_nil))) pa_nil)))))) pss_nil)
    (pss_cons (ps_set (i := 6) sc_law.nd rfl (Or.inl rfl) (pe_call G_law_row_of hr rfl T.law_row_of.m T.law_row_of.F.kp T.law_row_of.b .nil pass0 (pa_cons (pe_slice sl_list (pv 0) (po_some pe_int) po_none) (pa_cons (pe_callB call_len_seq rfl T.b_len PySem.boot_len (pa_cons (pv 4) pa_nil)) (pa_cons (pv 5) pa_nil)))))
    (pss_cons (ps_set (i := 7) sc_law.nd rfl (Or.inl rfl) (pe_call G_law_run hr rfl T.law_run.m T.law_run.F.kp T.law_run.b .nil pass0 (pa_cons (pv 6) (pa_cons (pv 4) (pa_cons (pv 3) pa_nil)))))
    (pss_cons (ps_set (i := 8) sc_law.nd rfl (Or.inl rfl) (pe_callTy call_list_of rfl T.b_list bt_list (pa_cons (pv 6) pa_nil)))
    (pss_cons (ps_set (i := 9) sc_law.nd rfl (Or.inl rfl) (pe_callTy call_list_of rfl T.b_list bt_list (pa_cons (pv 4) pa_nil)))
    (pss_cons (ps_set (i := 10) sc_law.nd rfl (Or.inl rfl) (pe_call G_law_diary_or hr rfl T.law_diary_or.m T.law_diary_or.F.kp T.law_diary_or.b .nil pass0 (pa_cons (pv 8) (pa_cons (pv 9) (pa_cons (pv 3) pa_nil)))))
    (pss_cons (ps_set (i := 11) sc_law.nd rfl (Or.inl rfl) (pe_call G_law_told_of hr rfl T.law_told_of.m T.law_told_of.F.kp T.law_told_of.b .nil pass0 (pa_cons (pv 8) (pa_cons (pv 9) (pa_cons (pv 3) pa_nil)))))
    (pss_cons (ps_if (PW.pt (pw_or (pt_not (pt_val (pe_call G_law_alike hr rfl T.law_alike.m T.law_alike.F.kp T.law_alike.b .nil pass0 (pa_cons (pv 8) (pa_cons (pv 6) pa_nil))))) (pw_or1 (pt_not (pt_val (pe_call G_law_alike hr rfl T.law_alike.m T.law_alike.F.kp T.law_alike.b .nil pass0 (pa_cons (pv 9) (pa_cons (pv 4) pa_nil)))))))) (pss_one (ps_ret pe_bl)) pss_nil)
    (pss_cons (ps_if (PW.pt (pw_or (pt_cmpR op_isN (pv 7) pe_non (nomark _)) (pw_or (pt_cmpR op_isN (pv 10) pe_non (nomark _)) (pw_or1 (pt_cmpR op_isN (pv 11) pe_non (nomark _)))))) (pss_one (ps_ret (pe_and (pe_cmpR op_isN (pv 7) pe_non (nomark _)) (pe_and (pe_cmpR op_isN (pv 10) pe_non (nomark _)) (pe_one (pe_cmpR op_isN (pv 11) pe_non (nomark _))))))) pss_nil)
    (pss_cons (ps_if (PW.pt (pw_or (pt_not (pt_val (pe_callB call_isiP rfl T.b_isinstance bt_isinstance (pa_cons (pv 10) (pa_cons (pe_bltn (v := .ty "list") rfl T.b_list bt_list rfl) pa_nil))))) (pw_or1 (pt_not (pt_val (pe_call G_law_alike hr rfl T.law_alike.m T.law_alike.F.kp T.law_alike.b .nil pass0 (pa_cons (pv 10) (pa_cons (pe_ix ix_tup (pv 7) pe_int (fun _ _ => rfl)) pa_nil)))))))) (pss_one (ps_ret pe_bl)) pss_nil)
    (pss_cons (ps_asg (pe_ix ix_list (pe_ix ix_tup (pv 7) pe_int (fun _ _ => rfl)) (pe_un un_neg pe_int) (fun _ _ => rfl)) (pg_tup rfl (pgs_cons (pg_name (i := 12) sc_law.nd rfl (Or.inl rfl)) (pgs_cons (pg_name (i := 13) sc_law.nd rfl (Or.inl rfl)) (pgs_cons (pg_name (i := 14) sc_law.nd rfl (Or.inl rfl)) pgs_nil)))))
    (pss_cons (ps_set (i := 15) sc_law.nd rfl (Or.inl rfl) pe_str)
    (pss_consM (ps_if (pt_cmpR op_eq (pv 12) (pe_callB call_len_seq rfl T.b_len PySem.boot_len (pa_cons (pv 6) pa_nil)) (nomark _)) (pss_one (ps_set (i := 15) sc_law.nd rfl (Or.inl rfl) pe_str)) pss_nil)
    (pss_one (ps_ret (pe_call G_law_alike hr rfl T.law_alike.m T.law_alike.F.kp T.law_alike.b .nil pass0 (pa_cons (pv 11) (pa_cons (pe_tup (pa_cons (pv 15) (pa_cons (pe_ix ix_tup (pv 7) pe_int (fun _ _ => rfl)) (pa_cons (pv 13) (pa_cons (pe_op op_sub (pv 3) (pv 14)) pa_nil))))) pa_nil))))))))))))))))))))))), ?_⟩
  try dsimp only [kx, kxb]
  refine ⟨_, rfl, a, sc, 0, rfl, hS, h63, ?_⟩
  refine ⟨_, rfl, a, sc, 1, rfl, hS, h63, ?_⟩
  generalize sc.getD 0 0 = turn
  generalize sc.getD 1 0 = head
  have four : (4 : Nat) ≤ sizeLine := by decide
  refine ⟨_, rfl, _, _, rfl, rfl, cdiv rfl, _, _, rfl, rfl, (show (0 : Int) < 12 by decide), ?_⟩
  obtain ⟨oil, hoil, eo⟩ := oil_nat (x := turn / 2 % 12) (m := 12) (n := 11) (by omega) (by omega) (by omega)
  dsimp only
  rw [eo]
  obtain ⟨hn5, hn4, e5⟩ := oil_nat (x := head % 5) (m := 5) (n := 4) (by omega) (by omega) (by omega)
  refine ⟨_, rfl, _, _, rfl, rfl, (show (0 : Int) < 5 by decide), _, rfl, by omega, by omega, fun D hD => ?_⟩
  refine comp_range (fun i H' => Same H H' ∧ ∃ ps : List Int, H' D = some (.lst (ps.map V.int)) ∧ ps.length = i ∧ Big 110 ps) ⟨same_new hD _, [], upd_same, rfl, fun x hx => nomatch hx⟩ ?_ ?_
  · rintro i H' hi ⟨S, ps, hps, hlen, hbig⟩
    refine comp_all ?_
    refine ⟨_, rfl, _, _, rfl, rfl, cdiv rfl, _, rfl, _, _, rfl, rfl, mul_small rfl, _, _, rfl, rfl, _, _, rfl, rfl, (show (0 : Int) < 9 by decide), _, _, rfl, rfl, ?_⟩
    refine ⟨_, hps, ?_, Same.at S hD _, _, upd_snocI, ?_, hbig.app (.one ?_)⟩
    · rw [List.length_map, hlen, sizeLine_eq]; omega
    · rw [List.length_append, hlen]; rfl
    · have e3 : (2 : Nat) ^ 110 = 1298074214633706907132624082305024 := by decide +kernel
      rw [e3]; omega
  rintro H1 ⟨S1, ps, hps, hpl, hbig⟩
  have hpl4 : ps.length ≤ 4 := by omega
  refine ⟨_, rfl, ?_⟩
  refine ⟨fun σ' H' => ∃ odd : Int, σ' = [some (.ref a), some (.int turn), some (.int head), some (.int (oil : Int)), some (.ref D), some (.int odd), none, none, none, none, none, none, none, none, none, none] ∧ H' = H1, ?_, ?_⟩
  · exact ⟨_, rfl, _, _, rfl, rfl, (show (0 : Int) < 2 by decide), rfl, _, rfl, ite2 (fun _ => ⟨_, rfl, _, _, rfl, rfl, cdiv rfl, _, rfl, _, _, rfl, rfl, _, rfl, _, _, rfl, .inl (S1.seq hS), _, _, rfl, rfl, _, _, rfl, _, _, rfl, _, _, rfl, rfl, (by show (0 : Int) < (if _ > (1 : Int) then _ else 1); split <;> omega), _, rfl, rfl⟩) (fun _ => ⟨_, rfl, rfl⟩)⟩
  rintro σ' H' ⟨odd, rfl, rfl⟩
  obtain ⟨cs', ecs, hcs⟩ := cut_from2 sc h63
  refine ⟨_, rfl, _, rfl, _, _, rfl, S1.seq hS, fun pc fpc => ?_⟩
  have S2 : Same H' (upd H' pc (.lst (cutV (sc.map V.int) (some 2) none))) := same_new fpc _
  have ec : upd H' pc (.lst (cutV (sc.map V.int) (some 2) none)) pc = some (.lst (cs'.map V.int)) := by rw [upd_same, ecs]
  generalize upd H' pc (.lst (cutV (sc.map V.int) (some 2) none)) = H2 at S2 ec
  refine ⟨_, rfl, _, _, rfl, .inl (SqL.of (S2 _ _ hps)), _, rfl, pc, cs', _, odd, rfl, ec, hcs, fun lc ws cs H4 S4 flc elc hC hlen hok => ?_⟩
  have hcl : cs.length ≤ 61 := by omega
  have e4 := S4 _ _ (S2 _ _ hps)
  obtain ⟨n, r, o, htr, hrl⟩ := trs hcl hok (62 * oil + 61) (k := 0) (p := ps) (l := oil) (s := []) (B := 110) (by omega) (Nat.zero_le _) hbig (Nat.le_refl _) (by
    have : q8 0 oil ≤ 12 := by unfold q8; split <;> omega
    have h2 : 2 ^ q8 0 oil ≤ 2 ^ 12 := Nat.pow_le_pow_right (by decide) this
    exact Nat.le_trans (Nat.mul_le_mul (show 110 + (62 * oil + 61) ≤ 1000 by omega) h2) (by decide)) (by omega) (by show 0 + _ ≤ _; omega)
  have hr9 : r.length ≤ 743 := by omega
  have hrm : r.length ≤ 1000000 := by omega
  have hsz := tr_len htr
  have hal : ∀ {Hx : Hp} {v8 : Addr}, Same H4 Hx → Hx v8 = some (.lst ws) → ∃ m, m ≤ 1000 ∧ AlkL K Hx [.ref v8] [.ref lc] m := fun {Hx v8} S e => by
    obtain ⟨m, hm, al⟩ := Cds.alk (K := K) (hC.mono S.tup) (hC.mono S.tup)
    exact ⟨_, by omega, .lst e (S _ _ elc) al .nil⟩
  have hal2 : ∀ {Hx : Hp} {v9 : Addr}, Same H4 Hx → Hx v9 = some (.lst (ps.map V.int)) → ∃ m, m ≤ 1000 ∧ AlkL K Hx [.ref v9] [.ref D] m := fun {Hx v9} S e => ⟨_, by omega, .lst e (S _ _ e4) (AlkL.ints ps) .nil⟩
  cases o with
  | none =>
    refine ⟨_, rfl, _, rfl, _, rfl, lc, D, ws, cs, ps, oil, n, r, none, rfl, elc, hC, e4, htr, hrm, fun z => absurd rfl z, fun _ H5 S5 => ?_⟩
    refine ⟨_, rfl, _, _, rfl, .inl (SqL.of (S5 _ _ elc)), fun l8 h8 => ?_⟩
    have S6 := same_new h8 (.lst ws)
    have e8 : upd H5 l8 (.lst ws) l8 = some (.lst ws) := upd_same
    generalize upd H5 l8 (.lst ws) = H6 at S6 e8
    have S46 := S5.trans S6
    refine ⟨_, rfl, _, _, rfl, .inl (SqL.of (S46 _ _ e4)), fun l9 h9 => ?_⟩
    have S7 := same_new h9 (.lst (ps.map V.int))
    have e9 : upd H6 l9 (.lst (ps.map V.int)) l9 = some (.lst (ps.map V.int)) := upd_same
    generalize upd H6 l9 (.lst (ps.map V.int)) = H7 at S7 e9
    have S47 := S46.trans S7
    refine ⟨_, rfl, _, rfl, _, rfl, l8, l9, ws, cs, ps, oil, n, r, none, rfl, S7 _ _ e8, hC.mono S47.tup, e9, htr, hrm, fun z => absurd rfl z, fun _ H8 S8 => ?_⟩
    have S48 := S47.trans S8
    refine ⟨_, rfl, _, rfl, _, rfl, l8, l9, ws, cs, ps, oil, n, r, none, rfl, S8 _ _ (S7 _ _ e8), hC.mono S48.tup, S8 _ _ e9, htr, (fun b z => nomatch z), fun _ H9 S9 => ?_⟩
    have S49 := S48.trans S9
    obtain ⟨m1, hm1, al1⟩ := hal S49 (S9 _ _ (S8 _ _ (S7 _ _ e8)))
    refine ⟨_, rfl, _, rfl, _, _, _, rfl, al1, by omega, fun HA SA => ⟨_, rfl, iteF' rfl ?_⟩⟩
    obtain ⟨m2, hm2, al2⟩ := hal2 (S49.trans SA) (SA _ _ (S9 _ _ (S8 _ _ e9)))
    refine ⟨_, rfl, _, rfl, _, _, _, rfl, al2, by omega, fun HB SB => ⟨_, rfl, iteF' rfl ?_⟩⟩
    exact ⟨_, rfl, rfl, _, rfl, iteT' rfl (iteT ⟨_, rfl, rfl, _, rfl, iteT' rfl ⟨_, rfl, rfl, _, rfl, iteT' rfl ⟨_, rfl, rfl, q _⟩⟩⟩)⟩
  | some b =>
    refine ⟨_, rfl, _, rfl, _, rfl, lc, D, ws, cs, ps, oil, n, r, some b, rfl, elc, hC, e4, htr, hrm, fun _ db dD dT vs5 H5 S5 edb edD hP5 edT => ?_, fun z => nomatch z⟩
    refine ⟨_, rfl, _, _, rfl, .inl (SqL.of (S5 _ _ elc)), fun l8 h8 => ?_⟩
    have S6 := same_new h8 (.lst ws)
    have e8 : upd H5 l8 (.lst ws) l8 = some (.lst ws) := upd_same
    generalize upd H5 l8 (.lst ws) = H6 at S6 e8
    have S46 := S5.trans S6
    refine ⟨_, rfl, _, _, rfl, .inl (SqL.of (S46 _ _ e4)), fun l9 h9 => ?_⟩
    have S7 := same_new h9 (.lst (ps.map V.int))
    have e9 : upd H6 l9 (.lst (ps.map V.int)) l9 = some (.lst (ps.map V.int)) := upd_same
    generalize upd H6 l9 (.lst (ps.map V.int)) = H7 at S7 e9
    have S47 := S46.trans S7
    refine ⟨_, rfl, _, rfl, _, rfl, l8, l9, ws, cs, ps, oil, n, r, some b, rfl, S7 _ _ e8, hC.mono S47.tup, e9, htr, hrm, fun _ fD vs8 H8 S8 efD hP8 => ?_, fun z => nomatch z⟩
    have S48 := S47.trans S8
    refine ⟨_, rfl, _, rfl, _, rfl, l8, l9, ws, cs, ps, oil, n, r, some b, rfl, S8 _ _ (S7 _ _ e8), hC.mono S48.tup, S8 _ _ e9, htr, fun b' eb t ld lp H9 S9 et eld elp => ?_, fun z => nomatch z⟩
    cases eb
    have S49 := S48.trans S9
    obtain ⟨m1, hm1, al1⟩ := hal S49 (S9 _ _ (S8 _ _ (S7 _ _ e8)))
    refine ⟨_, rfl, _, rfl, _, _, _, rfl, al1, by omega, fun HA SA => ⟨_, rfl, iteF' rfl ?_⟩⟩
    obtain ⟨m2, hm2, al2⟩ := hal2 (S49.trans SA) (SA _ _ (S9 _ _ (S8 _ _ e9)))
    refine ⟨_, rfl, _, rfl, _, _, _, rfl, al2, by omega, fun HB SB => ⟨_, rfl, iteF' rfl ?_⟩⟩
    refine ⟨_, rfl, rfl, _, rfl, iteF' (by simp) ⟨_, rfl, rfl, _, rfl, iteF' (by simp) ⟨_, rfl, rfl, _, rfl, iteF' (by simp) ?_⟩⟩⟩
    have S4B := S49.trans (SA.trans SB)
    have S5B : Same H5 HB := S6.trans (S7.trans (S8.trans (S9.trans (SA.trans SB))))
    have S8B : Same H8 HB := S9.trans (SA.trans SB)
    have S9B : Same H9 HB := SA.trans SB
    refine ⟨_, rfl, _, _, _, _, rfl, .inl (.lst (S8B _ _ efD)), rfl, ⟨_, rfl, iteF' rfl ?_⟩⟩
    obtain ⟨m3, hm3, al3⟩ := st_alk (K := K) (Paired.mapP hP8 fun _ _ z => z.mono (.of S8B) S8B.tup) (Paired.mapP hP5 fun _ _ z => z.mono (.of S5B) S5B.tup) (B := 747) (fun t ht => by have := (hsz t ht).1; dsimp only at this; omega)
    have hm3' : m3 ≤ 744 * 752 := Nat.le_trans hm3 (Nat.mul_le_mul (by rw [List.length_cons]; omega) (Nat.le_refl _))
    refine ⟨_, rfl, _, rfl, _, _, _, _, rfl, rfl, SqT.of (S5B _ _ edb), at0, _, _, _, rfl, .lst (S8B _ _ efD) (S5B _ _ edD) al3 .nil, by omega, fun HC SC => ⟨_, rfl, iteF' rfl ?_⟩⟩
    have S5C := S5B.trans SC
    have S4C := S4B.trans SC
    have S9C := S9B.trans SC
    obtain ⟨vs', v, ev, la, lq, rfl, _, ela, elq⟩ := p_last hP5
    have hlz := (tr_len htr) (lastS ⟨0, ps, oil, []⟩ r) (by
      unfold lastS
      cases e : r.getLast? with
      | none => exact List.mem_cons_self
      | some t => exact List.mem_cons_of_mem _ (List.mem_of_getLast? e))
    have hw := htr.last.1
    have hwl := hC.len
    generalize lastS ⟨0, ps, oil, []⟩ r = z at hlz hw ela elq et eld elp edT
    dsimp only at hlz
    have hlz2 : z.s.length ≤ 0 + r.length := hlz.2
    refine ⟨_, rfl, _, _, _, _, rfl, rfl, SqT.of (S5C _ _ edb), at0, _, rfl, _, _, _, _, rfl, rfl, SqL.of (S5C _ _ edD), (by rw [ev]; exact atI_last _ _), _, _, rfl, SqT.of (S5C _ _ ela), rfl, _, _, rfl, _, _, rfl, _, _, rfl, rfl, ?_⟩
    refine ⟨fun σ' H' => σ' = [some (.ref a), some (.int turn), some (.int head), some (.int (oil : Int)), some (.ref D), some (.int odd), some (.ref lc), some (.ref db), some (.ref l8), some (.ref l9), some (.ref fD), some (.ref t), some (.int (z.k : Int)), some (.ref lq), some (.int (z.l : Int)), some (.str (if b = true then "done" else "dry"))] ∧ H' = HC, ?_, ?_⟩
    · refine ⟨_, rfl, _, rfl, _, _, rfl, .inl (SqL.of (S4C _ _ elc)), rfl, _, rfl, ?_⟩
      cases b with
      | true =>
        have hk : z.k = ws.length := by have := (hw.mp rfl).2; omega
        exact iteT' (by rw [hk]; simp) ⟨rfl, rfl⟩
      | false =>
        have hk : z.k ≠ ws.length := fun h => nomatch hw.mpr ⟨(fun z => nomatch z), by omega⟩
        exact iteF' (decide_eq_false (fun h => hk (by injection h with h; omega))) ⟨rfl, rfl⟩
    rintro σ' H'' ⟨rfl, rfl⟩
    refine ⟨_, rfl, _, rfl, _, rfl, _, _, _, _, rfl, rfl, SqT.of (S5C _ _ edb), atI_nat (j := 1) rfl, _, rfl, _, rfl, _, rfl, _, _, rfl, rfl, four, fun tp htp => ?_⟩
    have SD := same_new htp (.tup [.str (if b = true then "done" else "dry"), .ref dT, .ref lq, .int ((oil : Int) - (z.l : Int))])
    exact ⟨_, _, _, rfl, .tup (.inl (SD _ _ (S9C _ _ et))) (.inl upd_same) (.str (.lst (SD _ _ (S9C _ _ eld)) (SD _ _ (S5C _ _ edT)) (AlkL.ints _) (.lst (SD _ _ (S9C _ _ elp)) (SD _ _ (S5C _ _ elq)) (AlkL.ints _) (.int .nil)))) .nil, by omega, fun Hz Sz => q _⟩
end
end W08

set_option Elab.async false
set_option linter.all false
set_option maxRecDepth 100000
set_option maxHeartbeats 4000000
namespace W08
open PySem L2 J
theorem txt_mk {K : PySem.W.Frag} {h : Heap} {mg : Str → Option Value} (X : K.In h) (G : h.Ns mainGlobals mg)
    {cMachine : Addr}
    {f1 : Addr} {od1 an1 : Option Addr} {sl1 : Array (Option Value)} {oc1 kV1 dc1 pm1 cd1 ct1 : Value}
    {f2 : Addr} {od2 an2 : Option Addr} {sl2 : Array (Option Value)} {oc2 kV2 dc2 pm2 cd2 ct2 : Value}
    {f3 : Addr} {od3 an3 : Option Addr} {sl3 : Array (Option Value)} {oc3 kV3 dc3 pm3 cd3 ct3 : Value}
    {f4 : Addr} {od4 an4 : Option Addr} {sl4 : Array (Option Value)} {oc4 kV4 dc4 pm4 cd4 ct4 : Value}
    {f5 : Addr} {od5 an5 : Option Addr} {sl5 : Array (Option Value)} {oc5 kV5 dc5 pm5 cd5 ct5 : Value}
    {f6 : Addr} {od6 an6 : Option Addr} {sl6 : Array (Option Value)} {oc6 kV6 dc6 pm6 cd6 ct6 : Value}
    {f7 : Addr} {od7 an7 : Option Addr} {sl7 : Array (Option Value)} {oc7 kV7 dc7 pm7 cd7 ct7 : Value}
    {f8 : Addr} {od8 an8 : Option Addr} {sl8 : Array (Option Value)} {oc8 kV8 dc8 pm8 cd8 ct8 : Value}
    {f9 : Addr} {od9 an9 : Option Addr} {sl9 : Array (Option Value)} {oc9 kV9 dc9 pm9 cd9 ct9 : Value}
    {f10 : Addr} {od10 an10 : Option Addr} {sl10 : Array (Option Value)} {oc10 kV10 dc10 pm10 cd10 ct10 : Value}
    {f11 : Addr} {od11 an11 : Option Addr} {sl11 : Array (Option Value)} {oc11 kV11 dc11 pm11 cd11 ct11 : Value}
    {f12 : Addr} {od12 an12 : Option Addr} {sl12 : Array (Option Value)} {oc12 kV12 dc12 pm12 cd12 ct12 : Value}
    {f13 : Addr} {od13 an13 : Option Addr} {sl13 : Array (Option Value)} {oc13 kV13 dc13 pm13 cd13 ct13 : Value}
    {f14 : Addr} {od14 an14 : Option Addr} {sl14 : Array (Option Value)} {oc14 kV14 dc14 pm14 cd14 ct14 : Value}
    {f15 : Addr} {od15 an15 : Option Addr} {sl15 : Array (Option Value)} {oc15 kV15 dc15 pm15 cd15 ct15 : Value}
    {f16 : Addr} {od16 an16 : Option Addr} {sl16 : Array (Option Value)} {oc16 kV16 dc16 pm16 cd16 ct16 : Value}
    {f17 : Addr} {od17 an17 : Option Addr} {sl17 : Array (Option Value)} {oc17 kV17 dc17 pm17 cd17 ct17 : Value}
    {f18 : Addr} {od18 an18 : Option Addr} {sl18 : Array (Option Value)} {oc18 kV18 dc18 pm18 cd18 ct18 : Value}
    {f19 : Addr} {od19 an19 : Option Addr} {sl19 : Array (Option Value)} {oc19 kV19 dc19 pm19 cd19 ct19 : Value}
    {f20 : Addr} {od20 an20 : Option Addr} {sl20 : Array (Option Value)} {oc20 kV20 dc20 pm20 cd20 ct20 : Value}
    {f21 : Addr} {od21 an21 : Option Addr} {sl21 : Array (Option Value)} {oc21 kV21 dc21 pm21 cd21 ct21 : Value}
    {f22 : Addr} {od22 an22 : Option Addr} {sl22 : Array (Option Value)} {oc22 kV22 dc22 pm22 cd22 ct22 : Value}
    {f23 : Addr} {od23 an23 : Option Addr} {sl23 : Array (Option Value)} {oc23 kV23 dc23 pm23 cd23 ct23 : Value}
    {f24 : Addr} {od24 an24 : Option Addr} {sl24 : Array (Option Value)} {oc24 kV24 dc24 pm24 cd24 ct24 : Value}
    {f25 : Addr} {od25 an25 : Option Addr} {sl25 : Array (Option Value)} {oc25 kV25 dc25 pm25 cd25 ct25 : Value}
    {f26 : Addr} {od26 an26 : Option Addr} {sl26 : Array (Option Value)} {oc26 kV26 dc26 pm26 cd26 ct26 : Value}
    {f27 : Addr} {od27 an27 : Option Addr} {sl27 : Array (Option Value)} {oc27 kV27 dc27 pm27 cd27 ct27 : Value}
    {f28 : Addr} {od28 an28 : Option Addr} {sl28 : Array (Option Value)} {oc28 kV28 dc28 pm28 cd28 ct28 : Value}
    (aCMachine : PySem.W.nsIn K mainGlobals "Machine" = some (some (.ref cMachine))) (pgMachine : PySem.W.plainGet K cMachine Str.empty = true) (hdMachine : PySem.W.hasDictIn K cMachine = true) (poMachine : PySem.W.plainOver K cMachine = true) (saMachine : PySem.W.findIn K (.ref cMachine) "__setattr__" = some (some (.builtin "object.__setattr__"))) (mkMachine : PySem.W.makesIn K cMachine = true) (kcMachine : PySem.W.keepIn K (.ref cMachine) = true)
    (naMachine_cards : PySem.W.findIn K (.ref cMachine) "cards" = some none)
    (naMachine_pile : PySem.W.findIn K (.ref cMachine) "pile" = some none)
    (naMachine_left : PySem.W.findIn K (.ref cMachine) "left" = some none)
    (naMachine_place : PySem.W.findIn K (.ref cMachine) "place" = some none)
    (naMachine_said : PySem.W.findIn K (.ref cMachine) "said" = some none)
    (a1 : PySem.W.nsIn K mainGlobals "reckoned" = some (some (.ref f1))) (l1 : K.lookup f1 = some ⟨oc1, od1, .func (PySem.W.fnOf "reckoned" "reckoned" (defArgs s_reckoned) (defBody s_reckoned) (defScope s_reckoned) .none kV1 dc1 pm1 an1 cd1 ct1), sl1⟩) (c1 : PySem.W.codeIn K cd1 "reckoned" = true) (k1 : PySem.W.keepIn K (.ref f1) = true)
    (a2 : PySem.W.nsIn K mainGlobals "one_where" = some (some (.ref f2))) (l2 : K.lookup f2 = some ⟨oc2, od2, .func (PySem.W.fnOf "one_where" "one_where" (defArgs s_one_where) (defBody s_one_where) (defScope s_one_where) .none kV2 dc2 pm2 an2 cd2 ct2), sl2⟩) (c2 : PySem.W.codeIn K cd2 "one_where" = true) (k2 : PySem.W.keepIn K (.ref f2) = true)
    (a3 : PySem.W.nsIn K mainGlobals "made_of_two" = some (some (.ref f3))) (l3 : K.lookup f3 = some ⟨oc3, od3, .func (PySem.W.fnOf "made_of_two" "made_of_two" (defArgs s_made_of_two) (defBody s_made_of_two) (defScope s_made_of_two) .none kV3 dc3 pm3 an3 cd3 ct3), sl3⟩) (c3 : PySem.W.codeIn K cd3 "made_of_two" = true) (k3 : PySem.W.keepIn K (.ref f3) = true)
    (a4 : PySem.W.findIn K (.ref cMachine) "__init__" = some (some (.ref f4))) (i4 : PySem.W.isFn K (.ref f4) = true) (l4 : K.lookup f4 = some ⟨oc4, od4, .func (PySem.W.fnOf "__init__" "Machine.__init__" (defArgs s_Machine_init) (defBody s_Machine_init) (defScope s_Machine_init) .none kV4 dc4 pm4 an4 cd4 ct4), sl4⟩) (c4 : PySem.W.codeIn K cd4 "Machine.__init__" = true) (k4 : PySem.W.keepIn K (.ref f4) = true)
    (a5 : PySem.W.findIn K (.ref cMachine) "ending" = some (some (.ref f5))) (i5 : PySem.W.isFn K (.ref f5) = true) (l5 : K.lookup f5 = some ⟨oc5, od5, .func (PySem.W.fnOf "ending" "Machine.ending" (defArgs s_Machine_ending) (defBody s_Machine_ending) (defScope s_Machine_ending) .none kV5 dc5 pm5 an5 cd5 ct5), sl5⟩) (c5 : PySem.W.codeIn K cd5 "Machine.ending" = true) (k5 : PySem.W.keepIn K (.ref f5) = true)
    (a6 : PySem.W.findIn K (.ref cMachine) "state" = some (some (.ref f6))) (i6 : PySem.W.isFn K (.ref f6) = true) (l6 : K.lookup f6 = some ⟨oc6, od6, .func (PySem.W.fnOf "state" "Machine.state" (defArgs s_Machine_state) (defBody s_Machine_state) (defScope s_Machine_state) .none kV6 dc6 pm6 an6 cd6 ct6), sl6⟩) (c6 : PySem.W.codeIn K cd6 "Machine.state" = true) (k6 : PySem.W.keepIn K (.ref f6) = true)
    (a7 : PySem.W.findIn K (.ref cMachine) "do_card" = some (some (.ref f7))) (i7 : PySem.W.isFn K (.ref f7) = true) (l7 : K.lookup f7 = some ⟨oc7, od7, .func (PySem.W.fnOf "do_card" "Machine.do_card" (defArgs s_Machine_do_card) (defBody s_Machine_do_card) (defScope s_Machine_do_card) .none kV7 dc7 pm7 an7 cd7 ct7), sl7⟩) (c7 : PySem.W.codeIn K cd7 "Machine.do_card" = true) (k7 : PySem.W.keepIn K (.ref f7) = true)
    (a8 : PySem.W.findIn K (.ref cMachine) "do_on_pile" = some (some (.ref f8))) (i8 : PySem.W.isFn K (.ref f8) = true) (l8 : K.lookup f8 = some ⟨oc8, od8, .func (PySem.W.fnOf "do_on_pile" "Machine.do_on_pile" (defArgs s_Machine_do_on_pile) (defBody s_Machine_do_on_pile) (defScope s_Machine_do_on_pile) .none kV8 dc8 pm8 an8 cd8 ct8), sl8⟩) (c8 : PySem.W.codeIn K cd8 "Machine.do_on_pile" = true) (k8 : PySem.W.keepIn K (.ref f8) = true)
    (a9 : PySem.W.findIn K (.ref cMachine) "taken_off" = some (some (.ref f9))) (i9 : PySem.W.isFn K (.ref f9) = true) (l9 : K.lookup f9 = some ⟨oc9, od9, .func (PySem.W.fnOf "taken_off" "Machine.taken_off" (defArgs s_Machine_taken_off) (defBody s_Machine_taken_off) (defScope s_Machine_taken_off) .none kV9 dc9 pm9 an9 cd9 ct9), sl9⟩) (c9 : PySem.W.codeIn K cd9 "Machine.taken_off" = true) (k9 : PySem.W.keepIn K (.ref f9) = true)
    (a10 : PySem.W.findIn K (.ref cMachine) "place_on_pile" = some (some (.ref f10))) (i10 : PySem.W.isFn K (.ref f10) = true) (l10 : K.lookup f10 = some ⟨oc10, od10, .func (PySem.W.fnOf "place_on_pile" "Machine.place_on_pile" (defArgs s_Machine_place_on_pile) (defBody s_Machine_place_on_pile) (defScope s_Machine_place_on_pile) .none kV10 dc10 pm10 an10 cd10 ct10), sl10⟩) (c10 : PySem.W.codeIn K cd10 "Machine.place_on_pile" = true) (k10 : PySem.W.keepIn K (.ref f10) = true)
    (a11 : PySem.W.findIn K (.ref cMachine) "leave_out" = some (some (.ref f11))) (i11 : PySem.W.isFn K (.ref f11) = true) (l11 : K.lookup f11 = some ⟨oc11, od11, .func (PySem.W.fnOf "leave_out" "Machine.leave_out" (defArgs s_Machine_leave_out) (defBody s_Machine_leave_out) (defScope s_Machine_leave_out) .none kV11 dc11 pm11 an11 cd11 ct11), sl11⟩) (c11 : PySem.W.codeIn K cd11 "Machine.leave_out" = true) (k11 : PySem.W.keepIn K (.ref f11) = true)
    (a12 : PySem.W.findIn K (.ref cMachine) "go_back" = some (some (.ref f12))) (i12 : PySem.W.isFn K (.ref f12) = true) (l12 : K.lookup f12 = some ⟨oc12, od12, .func (PySem.W.fnOf "go_back" "Machine.go_back" (defArgs s_Machine_go_back) (defBody s_Machine_go_back) (defScope s_Machine_go_back) .none kV12 dc12 pm12 an12 cd12 ct12), sl12⟩) (c12 : PySem.W.codeIn K cd12 "Machine.go_back" = true) (k12 : PySem.W.keepIn K (.ref f12) = true)
    (a13 : PySem.W.nsIn K mainGlobals "ran" = some (some (.ref f13))) (l13 : K.lookup f13 = some ⟨oc13, od13, .func (PySem.W.fnOf "ran" "ran" (defArgs s_ran) (defBody s_ran) (defScope s_ran) .none kV13 dc13 pm13 an13 cd13 ct13), sl13⟩) (c13 : PySem.W.codeIn K cd13 "ran" = true) (k13 : PySem.W.keepIn K (.ref f13) = true)
    (a14 : PySem.W.nsIn K mainGlobals "diary" = some (some (.ref f14))) (l14 : K.lookup f14 = some ⟨oc14, od14, .func (PySem.W.fnOf "diary" "diary" (defArgs s_diary) (defBody s_diary) (defScope s_diary) .none kV14 dc14 pm14 an14 cd14 ct14), sl14⟩) (c14 : PySem.W.codeIn K cd14 "diary" = true) (k14 : PySem.W.keepIn K (.ref f14) = true)
    (a15 : PySem.W.nsIn K mainGlobals "_law_whole" = some (some (.ref f15))) (l15 : K.lookup f15 = some ⟨oc15, od15, .func (PySem.W.fnOf "_law_whole" "_law_whole" (defArgs s_law_whole) (defBody s_law_whole) (defScope s_law_whole) .none kV15 dc15 pm15 an15 cd15 ct15), sl15⟩) (c15 : PySem.W.codeIn K cd15 "_law_whole" = true) (k15 : PySem.W.keepIn K (.ref f15) = true)
    (a16 : PySem.W.nsIn K mainGlobals "_law_at" = some (some (.ref f16))) (l16 : K.lookup f16 = some ⟨oc16, od16, .func (PySem.W.fnOf "_law_at" "_law_at" (defArgs s_law_at) (defBody s_law_at) (defScope s_law_at) .none kV16 dc16 pm16 an16 cd16 ct16), sl16⟩) (c16 : PySem.W.codeIn K cd16 "_law_at" = true) (k16 : PySem.W.keepIn K (.ref f16) = true)
    (a17 : PySem.W.nsIn K mainGlobals "_law_alike" = some (some (.ref f17))) (l17 : K.lookup f17 = some ⟨oc17, od17, .func (PySem.W.fnOf "_law_alike" "_law_alike" (defArgs s_law_alike) (defBody s_law_alike) (defScope s_law_alike) .none kV17 dc17 pm17 an17 cd17 ct17), sl17⟩) (c17 : PySem.W.codeIn K cd17 "_law_alike" = true) (k17 : PySem.W.keepIn K (.ref f17) = true)
    (a18 : PySem.W.nsIn K mainGlobals "_law_odd_card" = some (some (.ref f18))) (l18 : K.lookup f18 = some ⟨oc18, od18, .func (PySem.W.fnOf "_law_odd_card" "_law_odd_card" (defArgs s_law_odd_card) (defBody s_law_odd_card) (defScope s_law_odd_card) .none kV18 dc18 pm18 an18 cd18 ct18), sl18⟩) (c18 : PySem.W.codeIn K cd18 "_law_odd_card" = true) (k18 : PySem.W.keepIn K (.ref f18) = true)
    (a19 : PySem.W.nsIn K mainGlobals "_law_card_of" = some (some (.ref f19))) (l19 : K.lookup f19 = some ⟨oc19, od19, .func (PySem.W.fnOf "_law_card_of" "_law_card_of" (defArgs s_law_card_of) (defBody s_law_card_of) (defScope s_law_card_of) .none kV19 dc19 pm19 an19 cd19 ct19), sl19⟩) (c19 : PySem.W.codeIn K cd19 "_law_card_of" = true) (k19 : PySem.W.keepIn K (.ref f19) = true)
    (a20 : PySem.W.nsIn K mainGlobals "_law_row_of" = some (some (.ref f20))) (l20 : K.lookup f20 = some ⟨oc20, od20, .func (PySem.W.fnOf "_law_row_of" "_law_row_of" (defArgs s_law_row_of) (defBody s_law_row_of) (defScope s_law_row_of) .none kV20 dc20 pm20 an20 cd20 ct20), sl20⟩) (c20 : PySem.W.codeIn K cd20 "_law_row_of" = true) (k20 : PySem.W.keepIn K (.ref f20) = true)
    (a21 : PySem.W.nsIn K mainGlobals "_law_two_joined" = some (some (.ref f21))) (l21 : K.lookup f21 = some ⟨oc21, od21, .func (PySem.W.fnOf "_law_two_joined" "_law_two_joined" (defArgs s_law_two_joined) (defBody s_law_two_joined) (defScope s_law_two_joined) .none kV21 dc21 pm21 an21 cd21 ct21), sl21⟩) (c21 : PySem.W.codeIn K cd21 "_law_two_joined" = true) (k21 : PySem.W.keepIn K (.ref f21) = true)
    (a22 : PySem.W.nsIn K mainGlobals "_law_on_pile" = some (some (.ref f22))) (l22 : K.lookup f22 = some ⟨oc22, od22, .func (PySem.W.fnOf "_law_on_pile" "_law_on_pile" (defArgs s_law_on_pile) (defBody s_law_on_pile) (defScope s_law_on_pile) .none kV22 dc22 pm22 an22 cd22 ct22), sl22⟩) (c22 : PySem.W.codeIn K cd22 "_law_on_pile" = true) (k22 : PySem.W.keepIn K (.ref f22) = true)
    (a23 : PySem.W.nsIn K mainGlobals "_law_hop" = some (some (.ref f23))) (l23 : K.lookup f23 = some ⟨oc23, od23, .func (PySem.W.fnOf "_law_hop" "_law_hop" (defArgs s_law_hop) (defBody s_law_hop) (defScope s_law_hop) .none kV23 dc23 pm23 an23 cd23 ct23), sl23⟩) (c23 : PySem.W.codeIn K cd23 "_law_hop" = true) (k23 : PySem.W.keepIn K (.ref f23) = true)
    (a24 : PySem.W.nsIn K mainGlobals "_law_behind_it" = some (some (.ref f24))) (l24 : K.lookup f24 = some ⟨oc24, od24, .func (PySem.W.fnOf "_law_behind_it" "_law_behind_it" (defArgs s_law_behind_it) (defBody s_law_behind_it) (defScope s_law_behind_it) .none kV24 dc24 pm24 an24 cd24 ct24), sl24⟩) (c24 : PySem.W.codeIn K cd24 "_law_behind_it" = true) (k24 : PySem.W.keepIn K (.ref f24) = true)
    (a25 : PySem.W.nsIn K mainGlobals "_law_run" = some (some (.ref f25))) (l25 : K.lookup f25 = some ⟨oc25, od25, .func (PySem.W.fnOf "_law_run" "_law_run" (defArgs s_law_run) (defBody s_law_run) (defScope s_law_run) .none kV25 dc25 pm25 an25 cd25 ct25), sl25⟩) (c25 : PySem.W.codeIn K cd25 "_law_run" = true) (k25 : PySem.W.keepIn K (.ref f25) = true)
    (a26 : PySem.W.nsIn K mainGlobals "_law_diary_or" = some (some (.ref f26))) (l26 : K.lookup f26 = some ⟨oc26, od26, .func (PySem.W.fnOf "_law_diary_or" "_law_diary_or" (defArgs s_law_diary_or) (defBody s_law_diary_or) (defScope s_law_diary_or) .none kV26 dc26 pm26 an26 cd26 ct26), sl26⟩) (c26 : PySem.W.codeIn K cd26 "_law_diary_or" = true) (k26 : PySem.W.keepIn K (.ref f26) = true)
    (a27 : PySem.W.nsIn K mainGlobals "_law_told_of" = some (some (.ref f27))) (l27 : K.lookup f27 = some ⟨oc27, od27, .func (PySem.W.fnOf "_law_told_of" "_law_told_of" (defArgs s_law_told_of) (defBody s_law_told_of) (defScope s_law_told_of) .none kV27 dc27 pm27 an27 cd27 ct27), sl27⟩) (c27 : PySem.W.codeIn K cd27 "_law_told_of" = true) (k27 : PySem.W.keepIn K (.ref f27) = true)
    (a28 : PySem.W.nsIn K mainGlobals "law" = some (some (.ref f28))) (l28 : K.lookup f28 = some ⟨oc28, od28, .func (PySem.W.fnOf "law" "law" (defArgs s_law) (defBody s_law) (defScope s_law) .none kV28 dc28 pm28 an28 cd28 ct28), sl28⟩) (c28 : PySem.W.codeIn K cd28 "law" = true) (k28 : PySem.W.keepIn K (.ref f28) = true)
    (z1 : PySem.W.nsIn K mainGlobals "len" = some none) (z2 : PySem.W.nsIn K mainGlobals "range" = some none) (z3 : PySem.W.nsIn K mainGlobals "isinstance" = some none) (z4 : PySem.W.nsIn K mainGlobals "list" = some none) (z5 : PySem.W.nsIn K mainGlobals "tuple" = some none) (z6 : PySem.W.nsIn K mainGlobals "str" = some none) (z7 : PySem.W.nsIn K mainGlobals "int" = some none) (z8 : PySem.W.nsIn K mainGlobals "bool" = some none) (z9 : PySem.W.nsIn K mainGlobals "min" = some none) (z10 : PySem.W.nsIn K mainGlobals "max" = some none) {gn0 : Addr} {gd0 : Option Addr} {gt0 gu0 : Tok} {gc0 : Nat} {gs0 : Array (Option Value)} (zg0 : PySem.W.nsIn K mainGlobals "OIL_CARDS" = some (some (.ref gn0))) (zl0 : K.lookup gn0 = some ⟨.type "tuple", gd0, .seq #[.str "burn" gt0, .str "back" gu0] gc0, gs0⟩) {cJarError : Addr} (xJarError : PySem.W.nsIn K mainGlobals "JarError" = some (some (.ref cJarError))) (yJarError : PySem.W.excIn K cJarError veB "ValueError.__new__" = true) {cJam : Addr} (xJam : PySem.W.nsIn K mainGlobals "Jam" = some (some (.ref cJam))) (yJam : PySem.W.excIn K cJam veB "ValueError.__new__" = true) (y7Jam : PySem.W.mroIn K cJam (.ref cJarError) = some true) :
    ∃ T : Txt K mg, T.f_law = f28 ∧ ∃ kV dc pm an cd ct, T.fd_law = PySem.W.fnOf "law" "law" (defArgs s_law) (defBody s_law) (defScope s_law) .none kV dc pm an cd ct := by
  have F1 := fun_mk (st := s_reckoned) l1 c1 k1
  have B1 := F1.binds (ps := ["word", "first", "second"]) fun _ _ _ _ _ _ => len3 fun _ _ _ => rfl
  have F2 := fun_mk (st := s_one_where) l2 c2 k2
  have B2 := F2.binds (ps := ["held"]) fun _ _ _ _ _ _ => len1 fun _ => rfl
  have F3 := fun_mk (st := s_made_of_two) l3 c3 k3
  have B3 := F3.binds (ps := ["word", "first", "second"]) fun _ _ _ _ _ _ => len3 fun _ _ _ => rfl
  have F4 := fun_mk (st := s_Machine_init) l4 c4 k4
  have B4 := F4.binds (ps := ["self", "cards", "pile", "oil"]) fun _ _ _ _ _ _ => len4 fun _ _ _ _ => rfl
  have F5 := fun_mk (st := s_Machine_ending) l5 c5 k5
  have B5 := F5.binds (ps := ["self"]) fun _ _ _ _ _ _ => len1 fun _ => rfl
  have F6 := fun_mk (st := s_Machine_state) l6 c6 k6
  have B6 := F6.binds (ps := ["self"]) fun _ _ _ _ _ _ => len1 fun _ => rfl
  have F7 := fun_mk (st := s_Machine_do_card) l7 c7 k7
  have B7 := F7.binds (ps := ["self"]) fun _ _ _ _ _ _ => len1 fun _ => rfl
  have F8 := fun_mk (st := s_Machine_do_on_pile) l8 c8 k8
  have B8 := F8.binds (ps := ["self", "card"]) fun _ _ _ _ _ _ => len2 fun _ _ => rfl
  have F9 := fun_mk (st := s_Machine_taken_off) l9 c9 k9
  have B9 := F9.binds (ps := ["self"]) fun _ _ _ _ _ _ => len1 fun _ => rfl
  have F10 := fun_mk (st := s_Machine_place_on_pile) l10 c10 k10
  have B10 := F10.binds (ps := ["self", "place"]) fun _ _ _ _ _ _ => len2 fun _ _ => rfl
  have F11 := fun_mk (st := s_Machine_leave_out) l11 c11 k11
  have B11 := F11.binds (ps := ["self", "count"]) fun _ _ _ _ _ _ => len2 fun _ _ => rfl
  have F12 := fun_mk (st := s_Machine_go_back) l12 c12 k12
  have B12 := F12.binds (ps := ["self", "count"]) fun _ _ _ _ _ _ => len2 fun _ _ => rfl
  have F13 := fun_mk (st := s_ran) l13 c13 k13
  have B13 := F13.binds (ps := ["cards", "pile", "oil"]) fun _ _ _ _ _ _ => len3 fun _ _ _ => rfl
  have F14 := fun_mk (st := s_diary) l14 c14 k14
  have B14 := F14.binds (ps := ["cards", "pile", "oil"]) fun _ _ _ _ _ _ => len3 fun _ _ _ => rfl
  have F15 := fun_mk (st := s_law_whole) l15 c15 k15
  have B15 := F15.binds (ps := ["_law_found"]) fun _ _ _ _ _ _ => len1 fun _ => rfl
  have F16 := fun_mk (st := s_law_at) l16 c16 k16
  have B16 := F16.binds (ps := ["_law_script", "_law_k"]) fun _ _ _ _ _ _ => len2 fun _ _ => rfl
  have F17 := fun_mk (st := s_law_alike) l17 c17 k17
  have B17 := F17.binds (ps := ["_law_found", "_law_due"]) fun _ _ _ _ _ _ => len2 fun _ _ => rfl
  have F18 := fun_mk (st := s_law_odd_card) l18 c18 k18
  have B18 := F18.binds (ps := ["_law_salt", "_law_high", "_law_k", "_law_size"]) fun _ _ _ _ _ _ => len4 fun _ _ _ _ => rfl
  have F19 := fun_mk (st := s_law_card_of) l19 c19 k19
  have B19 := F19.binds (ps := ["_law_way", "_law_salt", "_law_high", "_law_k", "_law_size"]) fun _ _ _ _ _ _ => len5 fun _ _ _ _ _ => rfl
  have F20 := fun_mk (st := s_law_row_of) l20 c20 k20
  have B20 := F20.binds (ps := ["_law_cells", "_law_high", "_law_odd_place"]) fun _ _ _ _ _ _ => len3 fun _ _ _ => rfl
  have F21 := fun_mk (st := s_law_two_joined) l21 c21 k21
  have B21 := F21.binds (ps := ["_law_sort", "_law_one", "_law_two"]) fun _ _ _ _ _ _ => len3 fun _ _ _ => rfl
  have F22 := fun_mk (st := s_law_on_pile) l22 c22 k22
  have B22 := F22.binds (ps := ["_law_card", "_law_pile"]) fun _ _ _ _ _ _ => len2 fun _ _ => rfl
  have F23 := fun_mk (st := s_law_hop) l23 c23 k23
  have B23 := F23.binds (ps := ["_law_card", "_law_place", "_law_pile", "_law_left", "_law_size"]) fun _ _ _ _ _ _ => len5 fun _ _ _ _ _ => rfl
  have F24 := fun_mk (st := s_law_behind_it) l24 c24 k24
  have B24 := F24.binds (ps := ["_law_cards", "_law_place", "_law_pile", "_law_left"]) fun _ _ _ _ _ _ => len4 fun _ _ _ _ => rfl
  have F25 := fun_mk (st := s_law_run) l25 c25 k25
  have B25 := F25.binds (ps := ["_law_cards", "_law_pile", "_law_oil"]) fun _ _ _ _ _ _ => len3 fun _ _ _ => rfl
  have F26 := fun_mk (st := s_law_diary_or) l26 c26 k26
  have B26 := F26.binds (ps := ["_law_cards", "_law_pile", "_law_oil"]) fun _ _ _ _ _ _ => len3 fun _ _ _ => rfl
  have F27 := fun_mk (st := s_law_told_of) l27 c27 k27
  have B27 := F27.binds (ps := ["_law_cards", "_law_pile", "_law_oil"]) fun _ _ _ _ _ _ => len3 fun _ _ _ => rfl
  have F28 := fun_mk (st := s_law) l28 c28 k28
  have B28 := F28.binds (ps := ["_law_script"]) fun _ _ _ _ _ _ => len1 fun _ => rfl
  exact ⟨{ f_reckoned := _, fd_reckoned := _, reckoned := ⟨F1, B1, PySem.W.mg_of X G a1⟩, f_one_where := _, fd_one_where := _, one_where := ⟨F2, B2, PySem.W.mg_of X G a2⟩, f_made_of_two := _, fd_made_of_two := _, made_of_two := ⟨F3, B3, PySem.W.mg_of X G a3⟩, f_Machine_init := _, fd_Machine_init := _, Machine_init := ⟨F4, B4⟩, me_Machine_init := ⟨a4, i4, k4⟩, f_Machine_ending := _, fd_Machine_ending := _, Machine_ending := ⟨F5, B5⟩, me_Machine_ending := ⟨a5, i5, k5⟩, f_Machine_state := _, fd_Machine_state := _, Machine_state := ⟨F6, B6⟩, me_Machine_state := ⟨a6, i6, k6⟩, f_Machine_do_card := _, fd_Machine_do_card := _, Machine_do_card := ⟨F7, B7⟩, me_Machine_do_card := ⟨a7, i7, k7⟩, f_Machine_do_on_pile := _, fd_Machine_do_on_pile := _, Machine_do_on_pile := ⟨F8, B8⟩, me_Machine_do_on_pile := ⟨a8, i8, k8⟩, f_Machine_taken_off := _, fd_Machine_taken_off := _, Machine_taken_off := ⟨F9, B9⟩, me_Machine_taken_off := ⟨a9, i9, k9⟩, f_Machine_place_on_pile := _, fd_Machine_place_on_pile := _, Machine_place_on_pile := ⟨F10, B10⟩, me_Machine_place_on_pile := ⟨a10, i10, k10⟩, f_Machine_leave_out := _, fd_Machine_leave_out := _, Machine_leave_out := ⟨F11, B11⟩, me_Machine_leave_out := ⟨a11, i11, k11⟩, f_Machine_go_back := _, fd_Machine_go_back := _, Machine_go_back := ⟨F12, B12⟩, me_Machine_go_back := ⟨a12, i12, k12⟩, f_ran := _, fd_ran := _, ran := ⟨F13, B13, PySem.W.mg_of X G a13⟩, f_diary := _, fd_diary := _, diary := ⟨F14, B14, PySem.W.mg_of X G a14⟩, f_law_whole := _, fd_law_whole := _, law_whole := ⟨F15, B15, PySem.W.mg_of X G a15⟩, f_law_at := _, fd_law_at := _, law_at := ⟨F16, B16, PySem.W.mg_of X G a16⟩, f_law_alike := _, fd_law_alike := _, law_alike := ⟨F17, B17, PySem.W.mg_of X G a17⟩, f_law_odd_card := _, fd_law_odd_card := _, law_odd_card := ⟨F18, B18, PySem.W.mg_of X G a18⟩, f_law_card_of := _, fd_law_card_of := _, law_card_of := ⟨F19, B19, PySem.W.mg_of X G a19⟩, f_law_row_of := _, fd_law_row_of := _, law_row_of := ⟨F20, B20, PySem.W.mg_of X G a20⟩, f_law_two_joined := _, fd_law_two_joined := _, law_two_joined := ⟨F21, B21, PySem.W.mg_of X G a21⟩, f_law_on_pile := _, fd_law_on_pile := _, law_on_pile := ⟨F22, B22, PySem.W.mg_of X G a22⟩, f_law_hop := _, fd_law_hop := _, law_hop := ⟨F23, B23, PySem.W.mg_of X G a23⟩, f_law_behind_it := _, fd_law_behind_it := _, law_behind_it := ⟨F24, B24, PySem.W.mg_of X G a24⟩, f_law_run := _, fd_law_run := _, law_run := ⟨F25, B25, PySem.W.mg_of X G a25⟩, f_law_diary_or := _, fd_law_diary_or := _, law_diary_or := ⟨F26, B26, PySem.W.mg_of X G a26⟩, f_law_told_of := _, fd_law_told_of := _, law_told_of := ⟨F27, B27, PySem.W.mg_of X G a27⟩, f_law := _, fd_law := _, law := ⟨F28, B28, PySem.W.mg_of X G a28⟩, c_Machine := _, cl_Machine := ⟨pgMachine, hdMachine, poMachine, saMachine⟩, mg_Machine := PySem.W.mg_of X G aCMachine, mk_Machine := ⟨mkMachine, a4, i4, kcMachine⟩, na_Machine_cards := naMachine_cards, na_Machine_pile := naMachine_pile, na_Machine_left := naMachine_left, na_Machine_place := naMachine_place, na_Machine_said := naMachine_said, b_len := PySem.W.mg_none_of X G z1, b_range := PySem.W.mg_none_of X G z2, b_isinstance := PySem.W.mg_none_of X G z3, b_list := PySem.W.mg_none_of X G z4, b_tuple := PySem.W.mg_none_of X G z5, b_str := PySem.W.mg_none_of X G z6, b_int := PySem.W.mg_none_of X G z7, b_bool := PySem.W.mg_none_of X G z8, b_min := PySem.W.mg_none_of X G z9, b_max := PySem.W.mg_none_of X G z10, a_OIL_CARDS := _, m_OIL_CARDS := PySem.W.mg_of X G zg0, k_OIL_CARDS := fun _ => .inr ⟨_, _, _, zl0, rfl, rfl, (by show 2 ≤ sizeLine; decide), .cons ⟨_, rfl⟩ (.cons ⟨_, rfl⟩ .nil)⟩, er := { cJarError := _, mJarError := PySem.W.mg_of X G xJarError, qJarError := yJarError, cJam := _, mJam := PySem.W.mg_of X G xJam, qJam := yJam, mro := y7Jam } }, rfl, _, _, _, _, _, _, rfl⟩
theorem walk {l : PySem.W.OpenLaw} {q : Program} {loose : List Str} {XP : (Str → Option Value) → Heap → Prop} {YP : World → Heap → Prop} {d : DefRec} {K : Params → PySem.W.Frag} (hn : l.most = some 63) (hdf : d.params.defaults = [])
    (hY : ∀ (w : World) (h : Heap), YP w h → (K w.params).In h)
    (F : ∀ (w : World) (mg : Str → Option Value) (fa : Addr) (h : Heap), (K w.params).In h → h.Ns mainGlobals mg → mg d.name = some (.ref fa) →
      ∃ fd : FuncData, (∀ (s : Shared) (u : Value), BindsTo s fd ⟨[u], []⟩ [("_law_script", u)]) ∧ ∀ base : Heap, (K w.params).In base → base.Ns mainGlobals mg → FnOk l.prog w (K w.params) mg base CX0 60 fa fd ["_law_script"] (spLaw (K w.params))) :
    PySem.W.WalkO q loose XP YP l.row.toRowW d [] (fun f vs => PySem.call f vs) :=
  L2.walk_of (n := 63) (k := 60) (x := "_law_script") (CX := fun _ => CX0) (sp := fun w => spLaw (K w.params)) hn (by decide) hdf ⟨rfl, by decide, by decide⟩ hY F (fun _ _ a ns hl _ hS => ⟨a, ns, rfl, hS, hl, fun _ => rfl⟩) fun _ _ _ _ _ z => z
theorem fin_of {l : PySem.W.OpenLaw} {w : World} {K : PySem.W.Frag} {h : Heap} {mg : Str → Option Value} {fa f : Addr} (X : K.In h) (G : h.Ns mainGlobals mg) (hfa : mg "law" = some (.ref fa)) (a1 : PySem.W.nsIn K mainGlobals "law" = some (some (.ref f)))
    (t : ∃ T : Txt K mg, T.f_law = f ∧ ∃ kV dc pm an cd ct, T.fd_law = PySem.W.fnOf "law" "law" (defArgs s_law) (defBody s_law) (defScope s_law) .none kV dc pm an cd ct) :
    ∃ fd : FuncData, (∀ (s : Shared) (v : Value), BindsTo s fd ⟨[v], []⟩ [("_law_script", v)]) ∧ ∀ base : Heap, K.In base → base.Ns mainGlobals mg → FnOk l.prog w K mg base CX0 60 fa fd ["_law_script"] (spLaw K) := by
  have e := hfa.symm.trans (PySem.W.mg_of X G a1)
  cases e
  obtain ⟨T, rfl, kV, dc, pm, an, cd, ct, e⟩ := t
  refine ⟨T.fd_law, fun s v => ?_, fun base _ _ => ok_law T⟩
  rw [e]
  exact .of_eq rfl
end W08
open PySem PySem.W PyProof.Rows
set_option maxRecDepth 100000 in
set_option maxHeartbeats 0 in
theorem PySem.Challenge.cw_jarcards_k08_whole_diary_holds : PySem.Challenge.rw_jarcards_k08_whole_diary.Holds := by
  refine W08.top1 ?_
  k_fill
  refine W08.walk (l := PySem.Challenge.rw_jarcards_k08_whole_diary) rfl rfl (fun w h Y => PySem.W.kIn_of Y) ?F
  case F =>
    intro w mg fa h KX G hmg
    refine' W08.fin_of KX G hmg ?zz (W08.txt_mk KX G ?aCMachine ?pgMachine ?hdMachine ?poMachine ?saMachine ?mkMachine ?kcMachine ?naMachine_cards ?naMachine_pile ?naMachine_left ?naMachine_place ?naMachine_said ?a1 ?l1 ?c1 ?k1 ?a2 ?l2 ?c2 ?k2 ?a3 ?l3 ?c3 ?k3 ?a4 ?i4 ?l4 ?c4 ?k4 ?a5 ?i5 ?l5 ?c5 ?k5 ?a6 ?i6 ?l6 ?c6 ?k6 ?a7 ?i7 ?l7 ?c7 ?k7 ?a8 ?i8 ?l8 ?c8 ?k8 ?a9 ?i9 ?l9 ?c9 ?k9 ?a10 ?i10 ?l10 ?c10 ?k10 ?a11 ?i11 ?l11 ?c11 ?k11 ?a12 ?i12 ?l12 ?c12 ?k12 ?a13 ?l13 ?c13 ?k13 ?a14 ?l14 ?c14 ?k14 ?a15 ?l15 ?c15 ?k15 ?a16 ?l16 ?c16 ?k16 ?a17 ?l17 ?c17 ?k17 ?a18 ?l18 ?c18 ?k18 ?a19 ?l19 ?c19 ?k19 ?a20 ?l20 ?c20 ?k20 ?a21 ?l21 ?c21 ?k21 ?a22 ?l22 ?c22 ?k22 ?a23 ?l23 ?c23 ?k23 ?a24 ?l24 ?c24 ?k24 ?a25 ?l25 ?c25 ?k25 ?a26 ?l26 ?c26 ?k26 ?a27 ?l27 ?c27 ?k27 ?a28 ?l28 ?c28 ?k28 ?z1 ?z2 ?z3 ?z4 ?z5 ?z6 ?z7 ?z8 ?z9 ?z10 ?zg0 ?zl0 ?xJarError ?yJarError ?xJam ?yJam ?y7Jam)
    (case zz => k_is)
    (case aCMachine => k_is)
    (case pgMachine => k_is)
    (case hdMachine => k_is)
    (case poMachine => k_is)
    (case saMachine => k_is)
    (case mkMachine => k_is)
    (case kcMachine => first | k_is | kit_is | kernel_rfl)
    (case naMachine_cards => k_is)
    (case naMachine_pile => k_is)
    (case naMachine_left => k_is)
    (case naMachine_place => k_is)
    (case naMachine_said => k_is)
    (case a1 => k_is)
    (case l1 => k_is)
    (case c1 => k_is)
    (case k1 => k_is)
    (case a2 => k_is)
    (case l2 => k_is)
    (case c2 => k_is)
    (case k2 => k_is)
    (case a3 => k_is)
    (case l3 => k_is)
    (case c3 => k_is)
    (case k3 => k_is)
    (case a4 => k_is)
    (case i4 => k_is)
    (case l4 => k_is)
    (case c4 => k_is)
    (case k4 => k_is)
    (case a5 => k_is)
    (case i5 => k_is)
    (case l5 => k_is)
    (case c5 => k_is)
    (case k5 => k_is)
    (case a6 => k_is)
    (case i6 => k_is)
    (case l6 => k_is)
    (case c6 => k_is)
    (case k6 => k_is)
    (case a7 => k_is)
    (case i7 => k_is)
    (case l7 => k_is)
    (case c7 => k_is)
    (case k7 => k_is)
    (case a8 => k_is)
    (case i8 => k_is)
    (case l8 => k_is)
    (case c8 => k_is)
    (case k8 => k_is)
    (case a9 => k_is)
    (case i9 => k_is)
    (case l9 => k_is)
    (case c9 => k_is)
    (case k9 => k_is)
    (case a10 => k_is)
    (case i10 => k_is)
    (case l10 => k_is)
    (case c10 => k_is)
    (case k10 => k_is)
    (case a11 => k_is)
    (case i11 => k_is)
    (case l11 => k_is)
    (case c11 => k_is)
    (case k11 => k_is)
    (case a12 => k_is)
    (case i12 => k_is)
    (case l12 => k_is)
    (case c12 => k_is)
    (case k12 => k_is)
    (case a13 => k_is)
    (case l13 => k_is)
    (case c13 => k_is)
    (case k13 => k_is)
    (case a14 => k_is)
    (case l14 => k_is)
    (case c14 => k_is)
    (case k14 => k_is)
    (case a15 => k_is)
    (case l15 => k_is)
    (case c15 => k_is)
    (case k15 => k_is)
    (case a16 => k_is)
    (case l16 => k_is)
    (case c16 => k_is)
    (case k16 => k_is)
    (case a17 => k_is)
    (case l17 => k_is)
    (case c17 => k_is)
    (case k17 => k_is)
    (case a18 => k_is)
    (case l18 => k_is)
    (case c18 => k_is)
    (case k18 => k_is)
    (case a19 => k_is)
    (case l19 => k_is)
    (case c19 => k_is)
    (case k19 => k_is)
    (case a20 => k_is)
    (case l20 => k_is)
    (case c20 => k_is)
    (case k20 => k_is)
    (case a21 => k_is)
    (case l21 => k_is)
    (case c21 => k_is)
    (case k21 => k_is)
    (case a22 => k_is)
    (case l22 => k_is)
    (case c22 => k_is)
    (case k22 => k_is)
    (case a23 => k_is)
    (case l23 => k_is)
    (case c23 => k_is)
    (case k23 => k_is)
    (case a24 => k_is)
    (case l24 => k_is)
    (case c24 => k_is)
    (case k24 => k_is)
    (case a25 => k_is)
    (case l25 => k_is)
    (case c25 => k_is)
    (case k25 => k_is)
    (case a26 => k_is)
    (case l26 => k_is)
    (case c26 => k_is)
    (case k26 => k_is)
    (case a27 => k_is)
    (case l27 => k_is)
    (case c27 => k_is)
    (case k27 => k_is)
    (case a28 => k_is)
    (case l28 => k_is)
    (case c28 => k_is)
    (case k28 => k_is)
    (case z1 => k_is)
    (case z2 => k_is)
    (case z3 => k_is)
    (case z4 => k_is)
    (case z5 => k_is)
    (case z6 => k_is)
    (case z7 => k_is)
    (case z8 => k_is)
    (case z9 => k_is)
    (case z10 => k_is)
    (case zg0 => k_is)
    (case zl0 => k_is)
    (case xJarError => k_is)
    (case yJarError => first | k_is | kit_is | kernel_rfl)
    (case xJam => k_is)
    (case yJam => first | k_is | kit_is | kernel_rfl)
    (case y7Jam => first | k_is | kit_is | kernel_rfl)
#print axioms PySem.Challenge.cw_jarcards_k08_whole_diary_holds
