import PyProof.Rows.All
import Wide.All
import OpenK.AllK
import Wide.FinOn
import Lean
import PyProof.EqAt
import PyProof.EqKinds
import PyProof.TupleCall
import PySem.Challenge.RW_jarcards_k12_whole_both_ways
set_option Elab.async false
set_option linter.all false
set_option maxRecDepth 100000
set_option maxHeartbeats 4000000
namespace JH
open PySem PySem.W PyProof.Rows
noncomputable def runT (tb : String → Option Builtin) (p : Program) (w : World) (m : Nat) (ann : Option Value) : Nat → SharedT → Thread → Option SharedT
 | 0, _, _ => none
 | n + 1, s, t => match through t with
  | true => some s
  | false => match stepOk m ann t with
   | false => none
   | true => match stepT (denote tb) p w s t with
    | some (s2, t2) => runT tb p w m ann n s2 t2
    | none => none
theorem runT_of {tb : String → Option Builtin} {p : Program} {w : World} {m : Nat} {ann : Option Value} : ∀ {n : Nat} {s r : SharedT} {t : Thread}, runT tb p w m ann n s t = some r → topRun tb p w m ann n s.abs t = some r.abs
 | 0, _, _, _, h => by cases h
 | n + 1, s, r, t, h => by
  unfold runT at h
  unfold topRun
  cases ht : through t with
  | true => rw [ht] at h; cases h; rfl
  | false =>
   rw [ht] at h
   cases hk : stepOk m ann t with
   | false => rw [hk] at h; cases h
   | true =>
    rw [hk] at h
    cases hs : stepT (denote tb) p w s t with
    | none => rw [hs] at h; cases h
    | some x =>
     obtain ⟨s2, t2⟩ := x
     rw [hs] at h
     rw [stepT_spec hs]
     exact runT_of h
noncomputable def grow : Nat → List Obj → BT → BT
 | _, [], t => t
 | i, o :: os, t => grow (i + 1) os (t.ins i o)
noncomputable def bootT (P : Params) : BT := grow 0 (boot_heap P).objs.toList .nil
noncomputable def look (p : Program) (w : World) (s : Shared) : Bool := staticsOk (importedModules p.main.body) (boot_heap w.params) s.heap && namesBound p s.heap && gensDone s && laidKept (boot_heap w.params) s.heap
noncomputable def st0 (w : World) (os : OsState) : SharedT := ⟨bootT w.params, 11, (boot_heap w.params).life, Array.mk [], boot_drawn, boot_toks, os⟩
noncomputable abbrev goes (p : Program) (M : Nat) (w : World) (os : OsState) : Option SharedT := runT treeTable p w 11 (some (Value.ref 6)) M (st0 w os) (topStub p)
theorem boot_abs (P : Params) : absHeap (bootT P) 11 (boot_heap P).life = boot_heap P := by kernel_rfl
theorem boot_size (P : Params) : ((boot_heap P).isNs mainGlobals, (boot_heap P).objs.size, (boot_heap P).nsMap mainGlobals "__annotations__") = (true, 11, some (Value.ref 6)) := by kernel_rfl
theorem left_of {p q : Program} {Xt : Shared → Bool} {α : Type} {Yf : Shared → α} {Ya : World → α} {N M : Nat}
  (h1 : opening p = plainProg p.main.scope.names) (h2 : Nat.ble 600 N = true) (h3 : ∀ s, fenceModules? p s = some s) (h4 : Nat.ble M N = true)
  (goA : ∀ (w : World) (os : OsState), (goes p M w os).map (fun s => look p w s.abs) = some true)
  (goC : ∀ (w : World) (os : OsState), (goes p M w os).map (fun s => openSeen q [] (importedModules p.main.body) Xt true s.abs) = some (openGood q []))
  (goB : ∀ (w : World) (os : OsState), (goes p M w os).map (fun s => Yf s.abs) = some (Ya w)) :
  LeftO p q [] Xt Yf Ya N := fun w => by
 obtain ⟨⟨h, gs, d, k, os⟩, e, e'⟩ := Option.map_eq_some_iff.mp (boot_open h1 h2 h3 w)
 obtain ⟨rfl, rfl, rfl, rfl⟩ : h = boot_heap w.params ∧ gs = Array.mk [] ∧ d = boot_drawn ∧ k = boot_toks := by simpa using e'
 obtain ⟨z1, z2, z3⟩ : _ ∧ _ ∧ _ := by simpa only [Prod.mk.injEq] using boot_size w.params
 obtain ⟨sT, r1, r2⟩ := Option.map_eq_some_iff.mp (goA w os)
 obtain ⟨sB, b1, b2⟩ := Option.map_eq_some_iff.mp (goB w os)
 obtain ⟨sC, c1, c2⟩ := Option.map_eq_some_iff.mp (goC w os)
 rw [r1] at b1 c1
 cases b1
 cases c1
 have l1 : (staticsOk (importedModules p.main.body) (boot_heap w.params) sT.abs.heap && namesBound p sT.abs.heap && gensDone sT.abs && laidKept (boot_heap w.params) sT.abs.heap) = true := r2
 have l2 : (openSeen q [] (importedModules p.main.body) Xt true sT.abs, Yf sT.abs) = (openGood q [], Ya w) := by
  rw [b2, c2]
 have r3 := runT_of r1
 have e0 : (st0 w os).abs = ⟨boot_heap w.params, Array.mk [], boot_drawn, boot_toks, os⟩ := by
  unfold st0 SharedT.abs
  dsimp only
  rw [boot_abs]
 rw [e0] at r3
 have r4 := topRun_mono (N - M) _ _ _ _ r3
 rw [show M + (N - M) = N by have := Nat.le_of_ble_eq_true h4; omega] at r4
 have t : topFrom treeTable p w N ⟨boot_heap w.params, Array.mk [], boot_drawn, boot_toks, os⟩ = some sT.abs := by
  unfold topFrom
  dsimp only
  rw [z1, z2, z3, r4]
  show (match staticsOk (importedModules p.main.body) (boot_heap w.params) sT.abs.heap && namesBound p sT.abs.heap && gensDone sT.abs && laidKept (boot_heap w.params) sT.abs.heap with | true => _ | false => _) = _
  rw [l1]
 unfold openEnds
 rw [e]
 show (topFrom treeTable p w N ⟨boot_heap w.params, Array.mk [], boot_drawn, boot_toks, os⟩).map _ = _
 rw [t]
 exact congrArg some l2
end JH
namespace W12
open PySem PySem.W PyProof.Rows
noncomputable def keptB (l : List Stmt) : List Stmt := l.filter fun s => match s with
 | .Assign [.Name x _] _ _ => !(x == ("__name__" : Str))
 | _ => true
noncomputable def zfn : Program := { PySem.Challenge.pw_jarcards_k12_whole_both_ways with main := { PySem.Challenge.pw_jarcards_k12_whole_both_ways.main with body := keptB PySem.Challenge.pw_jarcards_k12_whole_both_ways.main.body } }
noncomputable def xt (s : Shared) : Bool := xlAt zfn [] s && recOk (RowW.records (OpenRow.toRowW (OpenLaw.row PySem.Challenge.rw_jarcards_k12_whole_both_ways))) s
noncomputable def _root_.PySem.W.Fast.tw5189979800825280158 : Program := PySem.Challenge.pw_jarcards_k12_whole_both_ways
theorem _root_.PySem.W.Fast.te5189979800825280158 : PySem.Challenge.pw_jarcards_k12_whole_both_ways = W.Fast.tw5189979800825280158 := rfl
theorem goA (w : World) (os : OsState) : (JH.goes PySem.Challenge.pw_jarcards_k12_whole_both_ways 6000 w os).map (fun s => JH.look PySem.Challenge.pw_jarcards_k12_whole_both_ways w s.abs) = some true := by kernel_rfl
theorem goC (w : World) (os : OsState) : (JH.goes PySem.Challenge.pw_jarcards_k12_whole_both_ways 6000 w os).map (fun s => openSeen zfn [] (importedModules PySem.Challenge.pw_jarcards_k12_whole_both_ways.main.body) xt true s.abs) = some (openGood zfn []) := by kernel_rfl
section
local macro_rules
 | `(tactic| o_head $H) => `(tactic| (
  refine holds_open (q := zfn)
   (loose := []) (N := 6000) (Xt := xt)
   (XP := XL zfn []) (Yf := Hook.obs $H)
   (Ya := Hook.val $H) (YP := Hook.says $H)
   (JH.left_of (M := 6000)
    (by kernel_rfl) (by rfl) (fun s => by kernel_rfl) (by rfl)
    goA goC (fun w os => by kernel_rfl))
   (Hook.of $H) (Hook.keeps $H)
   (fun s e => xl_of s (Bool.and_eq_true_iff.mp e).1)
   XL.keeps (by rfl) (by rfl) (by rfl)
   (fun s e => recFacts_of (Bool.and_eq_true_iff.mp e).2)
   (by rfl) (by first | assumption | decide +kernel)
   (by decide +kernel)
   ⟨rfl, rfl, rfl, rfl, rfl, by decide +kernel⟩ ?hw ?hc))
set_option maxHeartbeats 0 in
open_top top1 for PySem.Challenge.rw_jarcards_k12_whole_both_ways
end
end W12
namespace L2
open PySem PySem.Spec PyProof.Rows
noncomputable abbrev Key := Sum Int Str
noncomputable def keyIs : Key → Value → Bool
 | .inl k, v => Value.isInt k v
 | .inr x, v => Value.isStrOf x v
noncomputable def keyH (w : World) : Key → Int
 | .inl k => hashInt k
 | .inr x => hashStr w x
theorem jd : ∀ {k : Key} {v : Value}, keyIs k v = true → (∃ i t, k = Sum.inl i ∧ v = Value.int i t) ∨ (∃ x t, k = Sum.inr x ∧ v = Value.str x t)
 | .inl i, v, h => by
  obtain ⟨t, e⟩ := Value.isInt_shape (k := i) (v := v) h
  exact .inl ⟨i, t, rfl, e⟩
 | .inr x, v, h => by
  obtain ⟨t, e⟩ := Value.isStrOf_shape (x := x) (v := v) h
  exact .inr ⟨x, t, rfl, e⟩
theorem key_ll (a b : Int) : decide ((Sum.inl a : Key) = Sum.inl b) = (a == b) := by
 by_cases e : a = b
 ·subst e; simp
 ·have h : ¬ (Sum.inl a : Key) = Sum.inl b := fun q => e (Sum.inl.inj q)
  rw [decide_eq_false h]
  exact (beq_eq_false_iff_ne.mpr e).symm
theorem key_rr (a b : Str) : decide ((Sum.inr a : Key) = Sum.inr b) = decide (a = b) := by
 by_cases e : a = b
 ·subst e; simp
 ·have h : ¬ (Sum.inr a : Key) = Sum.inr b := fun q => e (Sum.inr.inj q)
  rw [decide_eq_false h, decide_eq_false e]
theorem key_lr (a : Int) (b : Str) : decide ((Sum.inl a : Key) = Sum.inr b) = false := decide_eq_false (fun q => nomatch q)
theorem key_rl (a : Str) (b : Int) : decide ((Sum.inr a : Key) = Sum.inl b) = false := decide_eq_false (fun q => nomatch q)
noncomputable def ze6 (prog : Program) (w : World) : PySem.KeyKind prog w Key where
 is := keyIs
 hash := keyH w
 inj := fun v a b ha hb => by
  rcases jd ha with ⟨i, t, rfl, rfl⟩ | ⟨x, t, rfl, rfl⟩
  ·rcases jd hb with ⟨j, u, rfl, e⟩ | ⟨y, u, rfl, e⟩
   ·injection e with e1 _; rw [e1]
   ·exact nomatch e
  ·rcases jd hb with ⟨j, u, rfl, e⟩ | ⟨y, u, rfl, e⟩
   ·exact nomatch e
   ·injection e with e1 _; rw [e1]
 byValue := fun k v h => by
  rcases jd h with ⟨i, t, rfl, rfl⟩ | ⟨x, t, rfl, rfl⟩ <;> rfl
 pyHash := fun hv h => by
  rcases jd hv with ⟨i, t, rfl, rfl⟩ | ⟨x, t, rfl, rfl⟩
  ·exact wpAny_pyHash_int h
  ·exact wpAny_pyHash_str h
 eqBool := fun hu hv h => by
  rcases jd hu with ⟨i, t, rfl, rfl⟩ | ⟨x, t, rfl, rfl⟩
  ·rcases jd hv with ⟨j, u, rfl, rfl⟩ | ⟨y, u, rfl, rfl⟩
   ·rw [key_ll] at h; exact wpAny_eqBool_int h
   ·rw [key_lr] at h; exact SeqAt.EqAt.int_str i t y u _ _ _ _ h
  ·rcases jd hv with ⟨j, u, rfl, rfl⟩ | ⟨y, u, rfl, rfl⟩
   ·rw [key_rl] at h; exact SeqAt.EqAt.str_int x t j u _ _ _ _ h
   ·rw [key_rr] at h; exact wpAny_eqBool_str h
 «strs» := fun k x t v h => by
  rcases jd h with ⟨i, u, rfl, e⟩ | ⟨y, u, rfl, e⟩
  ·exact nomatch e
  ·injection e with e1 _
   subst e1
   cases v <;> rfl
inductive V where
 | non | bl (b : Bool) | int (i : Int) | str (x : Str) | byt (b : Array UInt8) | flt (b : UInt64) | ref (a : Addr) | ty (n : String)
 deriving DecidableEq
noncomputable def RelV : V → Value → Prop
 | .non, u => u = Value.none
 | .bl b, u => u = Value.bool b
 | .int i, u => ∃ t, u = Value.int i t
 | .str x, u => ∃ t, u = Value.str x t
 | .byt b, u => ∃ t, u = Value.bytes b t
 | .flt b, u => ∃ t, u = Value.float b t
 | .ref a, u => u = Value.ref a
 | .ty n, u => u = Value.type n
noncomputable abbrev Vals : List V → List Value → Prop := Paired RelV
theorem Vals.length {xs : List V} {us : List Value} (r : Vals xs us) : xs.length = us.length := Paired.length r
theorem Vals.get : ∀ {xs : List V} {us : List Value} {i : Nat} {x : V}, Vals xs us → xs[i]? = some x → ∃ u, us[i]? = some u ∧ RelV x u
 | _, _, _, _, .nil, e => by simp at e
 | _, _, 0, _, .cons r _, e => by simp at e; subst e; exact ⟨_, rfl, r⟩
 | _, _, i + 1, x, .cons _ t, e => by
  obtain ⟨u, h1, h2⟩ := Vals.get (i := i) (x := x) t (by simpa using e)
  exact ⟨u, by simpa using h1, h2⟩
theorem Vals.set {x : V} {u : Value} (r : RelV x u) : ∀ {xs : List V} {us : List Value} (i : Nat), Vals xs us → Vals (xs.set i x) (us.set i u)
 | _, _, _, .nil => .nil
 | _, _, 0, .cons _ t => .cons r t
 | _, _, i + 1, .cons q t => .cons q (Vals.set r i t)
theorem Vals.append : ∀ {xs ys : List V} {us ws : List Value}, Vals xs us → Vals ys ws → Vals (xs ++ ys) (us ++ ws)
 | _, _, _, _, .nil, s => s
 | _, _, _, _, .cons r t, s => .cons r (Vals.append t s)
theorem Vals.take : ∀ {xs : List V} {us : List Value} (n : Nat), Vals xs us → Vals (xs.take n) (us.take n)
 | _, _, 0, _ => .nil
 | _, _, _ + 1, .nil => .nil
 | _, _, n + 1, .cons r t => .cons r (Vals.take n t)
theorem Vals.drop : ∀ {xs : List V} {us : List Value} (n : Nat), Vals xs us → Vals (xs.drop n) (us.drop n)
 | _, _, 0, r => r
 | _, _, _ + 1, .nil => .nil
 | _, _, n + 1, .cons _ t => Vals.drop n t
noncomputable def RelO : Option V → Option Value → Prop
 | some v, some u => RelV v u
 | none, none => True
 | _, _ => False
noncomputable def KV {κ : Type} : List (κ × V) → List (κ × Value) → Prop := Paired fun (p : κ × V) (q : κ × Value) => p.1 = q.1 ∧ RelV p.2 q.2
noncomputable def kV : Key → V
 | .inl i => .int i
 | .inr x => .str x
inductive HO where
 | lst (xs : List V)
 | tup (xs : List V)
 | dK (kvs : List (Key × V)) | dT (kvs : List (List Key × V))
 | set (S : Int → Bool) (n : Nat)
 | ins (C dx : Addr) (fs : List (Str × V))
 | own (x : Addr)
 | xd (fs : List (Str × V))
 | met (f x : Addr)
 | rng (lo hi : Int)
 | frz (o : Obj) (u : HO)
 | tbl (ps : Array Value)
 | ext (φ : Heap → Prop)
noncomputable abbrev Hp := Addr → Option HO
noncomputable def upd (H : Hp) (a : Addr) (o : HO) : Hp := fun b => if b = a then some o else H b
theorem zc {H : Hp} {a : Addr} {o : HO} : upd H a o a = some o := by unfold upd; rw [if_pos rfl]
theorem zl {H : Hp} {a b : Addr} {o : HO} (h : b ≠ a) : upd H a o b = H b := by unfold upd; rw [if_neg h]
theorem zdh {H : Hp} {a : Addr} {o u : HO} : upd (upd H a o) a u = upd H a u := by
 funext b; unfold upd; split <;> rfl
theorem x4 {H : Hp} {a b : Addr} {o u : HO} (h : H a = some o) (h' : H b = some u) (d : o ≠ u) : a ≠ b := by
 intro e; subst e; rw [h] at h'; exact d (Option.some.inj h')
theorem zt {H : Hp} {a b : Addr} {o : HO} (h : H a = some o) (h' : H b = none) : a ≠ b := by
 intro e; subst e; rw [h] at h'; cases h'
section
variable (P : Program) (w : World)
noncomputable def jp (H : Hp) (h : Heap) (a : Addr) : HO → Prop
 | .lst xs => xs.length ≤ sizeLine ∧ ∃ (its : List Value) (n : Nat), Vals xs its ∧ h.get? a = some { cls := .type "list", data := .seq its.toArray n }
 | .tup xs => xs.length ≤ sizeLine ∧ ∃ its : List Value, Vals xs its ∧ IsTup h a its.toArray
 | .dK kvs => kvs.length ≤ sizeLine ∧ (a == sysModules) = false ∧ ∃ vs, KV kvs vs ∧ h.DictOf (ze6 P w) a vs
 | .dT kvs => kvs.length ≤ sizeLine ∧ (a == sysModules) = false ∧ ∃ xs : List (List Key × Addr × Value),
   Paired (fun (p : List Key × V) (q : List Key × Addr × Value) => p.1 = q.1 ∧ H q.2.1 = some (.tup (p.1.map kV)) ∧ RelV p.2 q.2.2) kvs xs ∧
   ∃ o es ep, h.get? a = some o ∧ o.ExactDict ∧ o.data = .dict es ep ∧ es.toList = xs.map (entryOfKey (tupleKind (ze6 P w))) ∧ (xs.map (·.1)).Nodup
 | .set S n => h.SetOf (intKind P w) a S n
 | .ins C dx fs => H dx = some (.own a) ∧ fs.length ≤ 1000 ∧ dx ≠ a ∧ h.get? a = some (W.instObj C dx) ∧
   ∃ mA, h.Ns1 dx mA ∧ (∀ f, RelO (fs.lookup f) (mA f)) ∧ PySem.Within mA (fs.map (·.1))
 | .own _ => ∃ o, h.get? a = some o
 | .xd fs => ∃ mA, h.Ns1 a mA ∧ ∀ f, RelO (fs.lookup f) (mA f)
 | .rng lo hi => ∃ t u v, h.get? a = some { cls := .type "range", data := .fields #[.int lo t, .int hi u, .int 1 v] }
 | .frz o u => h.get? a = some o ∧ jp H h a u
 | .tbl ps => h.get? a = some { cls := .none, data := .fields ps }
 | .met f x => h.get? a = some (W.methodObj (.ref f) (.ref x))
 | .ext φ => φ h ∧ (∃ o, h.get? a = some o) ∧ ∀ h1 h2 : Heap, φ h1 → (∀ o, h1.get? a = some o → h2.get? a = some o) → φ h2
noncomputable def HOk (H : Hp) (h : Heap) : Prop := ∀ a o, H a = some o → jp P w H h a o
end
section
variable {P : Program} {w : World} {H H' : Hp} {h h' : Heap} {a : Addr} {o : HO}
theorem jp.lt (x : jp P w H h a o) : a < h.objs.size := by
 cases o with
 | lst xs => obtain ⟨_, _, _, _, e⟩ := x; exact Heap.lt_size e
 | tup xs => obtain ⟨_, _, _, p⟩ := x; exact p.lt
 | dK kvs => obtain ⟨_, _, _, _, o, _, _, e, _⟩ := x; exact Heap.lt_size e
 | dT kvs => obtain ⟨_, _, _, _, o, _, _, e, _⟩ := x; exact Heap.lt_size e
 | set S n => obtain ⟨o, _, _, _, e, _⟩ := x; exact Heap.lt_size e
 | ins C dx fs => obtain ⟨_, _, _, e, _⟩ := x; exact Heap.lt_size e
 | own y => obtain ⟨_, e⟩ := x; exact Heap.lt_size e
 | xd fs => obtain ⟨_, ⟨_, _, _, e, _⟩, _⟩ := x; exact Heap.lt_size e
 | rng lo hi => obtain ⟨_, _, _, e⟩ := x; exact Heap.lt_size e
 | frz ob u => obtain ⟨e, _⟩ := x; exact Heap.lt_size e
 | tbl ps => exact Heap.lt_size (show h.get? a = some _ from x)
 | met f y => exact Heap.lt_size (show h.get? a = some _ from x)
 | ext φ => obtain ⟨_, ⟨_, e⟩, _⟩ := x; exact Heap.lt_size e
theorem Paired.mapP {α β : Type} {F G : α → β → Prop} : ∀ {l₁ : List α} {l₂ : List β}, Paired F l₁ l₂ → (∀ a b, F a b → G a b) → Paired G l₁ l₂
 | _, _, .nil, _ => .nil
 | _, _, .cons r t, f => .cons (f _ _ r) (Paired.mapP t f)
theorem jp.stay (x : jp P w H h a o) (k : ∀ b u, (b = a ∨ H b = some (.own a)) → h.get? b = some u → h'.get? b = some u)
  (ho : ∀ b, H b = some (.own a) → H' b = some (.own a)) (ht : ∀ b xs, H b = some (.tup xs) → H' b = some (.tup xs)) : jp P w H' h' a o := by
 induction o with
 | lst xs => obtain ⟨z, its, n, r, e⟩ := x; exact ⟨z, its, n, r, k _ _ (.inl rfl) e⟩
 | tup xs => obtain ⟨z, its, r, ob, e, c⟩ := x; exact ⟨z, its, r, ob, k _ _ (.inl rfl) e, c⟩
 | dK kvs => obtain ⟨z, y, vs, r, ob, es, ep, e, c⟩ := x; exact ⟨z, y, vs, r, ob, es, ep, k _ _ (.inl rfl) e, c⟩
 | dT kvs =>
  obtain ⟨z, y, xs, r, ob, es, ep, e, c⟩ := x
  exact ⟨z, y, xs, Paired.mapP r fun p q z => ⟨z.1, ht _ _ z.2.1, z.2.2⟩, ob, es, ep, k _ _ (.inl rfl) e, c⟩
 | set S n => obtain ⟨ob, es, ep, t, e, c⟩ := x; exact ⟨ob, es, ep, t, k _ _ (.inl rfl) e, c⟩
 | ins C dx fs =>
  obtain ⟨d, z, ne, e, mA, ⟨od, es, ep, e2, c⟩, r⟩ := x
  exact ⟨ho _ d, z, ne, k _ _ (.inl rfl) e, mA, ⟨od, es, ep, k _ _ (.inr d) e2, c⟩, r⟩
 | own y => obtain ⟨ob, e⟩ := x; exact ⟨ob, k _ _ (.inl rfl) e⟩
 | xd fs => obtain ⟨mA, ⟨od, es, ep, e, c⟩, r⟩ := x; exact ⟨mA, ⟨od, es, ep, k _ _ (.inl rfl) e, c⟩, r⟩
 | rng lo hi => obtain ⟨t, u, v, e⟩ := x; exact ⟨t, u, v, k _ _ (.inl rfl) e⟩
 | frz ob u ih => obtain ⟨e, q⟩ := x; exact ⟨k _ _ (.inl rfl) e, ih q⟩
 | tbl ps =>
  have e : h.get? a = some { cls := .none, data := .fields ps } := x
  show h'.get? a = some { cls := .none, data := .fields ps }
  exact k a _ (.inl rfl) e
 | met f y =>
  have e : h.get? a = some (W.methodObj (.ref f) (.ref y)) := x
  show h'.get? a = some (W.methodObj (.ref f) (.ref y))
  exact k a _ (.inl rfl) e
 | ext φ => obtain ⟨p, ⟨o, e⟩, st⟩ := x; exact ⟨st _ _ p fun o q => k _ _ (.inl rfl) q, ⟨o, k _ _ (.inl rfl) e⟩, st⟩
theorem HOk.lt (x : HOk P w H h) (e : H a = some o) : a < h.objs.size := (x a o e).lt
theorem HOk.fresh (x : HOk P w H h) (e : h.objs.size ≤ a) : H a = none := by
 cases q : H a with
 | none => rfl
 | some u => exact absurd (Nat.lt_of_lt_of_le (x.lt q) e) (Nat.lt_irrefl _)
theorem HOk.kept (x : HOk P w H h) (k : ∀ b u, h.get? b = some u → h'.get? b = some u) : HOk P w H h' := fun a o e =>
 (x a o e).stay (fun b u _ q => k b u q) (fun _ q => q) fun _ _ q => q
theorem HOk.laid (x : HOk P w H h) (k : ∀ b u, h.get? b = some u → h'.get? b = some u) (hp : h.objs.size ≤ a) (new : jp P w (upd H a o) h' a o) : HOk P w (upd H a o) h' := fun b u e => by
 have hn := x.fresh hp
 by_cases hb : b = a
 ·subst hb; rw [zc] at e; cases e; exact new
 ·rw [zl hb] at e
  exact (x b u e).stay (fun c v _ q => k c v q) (fun c q => by rw [zl (zt q hn)]; exact q) fun c xs q => by rw [zl (zt q hn)]; exact q
end
noncomputable def Rd (H : Hp) (a : Addr) (u : HO) : Prop := H a = some u ∨ ∃ o, H a = some (.frz o u)
theorem Rd.ok {P : Program} {w : World} {H : Hp} {h : Heap} {a : Addr} {u : HO} (r : Rd H a u) (x : HOk P w H h) : jp P w H h a u := by
 rcases r with r | ⟨o, r⟩
 ·exact x a u r
 ·obtain ⟨_, q⟩ := x a _ r
  exact q
noncomputable def Mut : Option HO → Prop
 | some (.lst _) => True
 | some (.dK _) => True
 | some (.dT _) => True
 | some (.set _ _) => True
 | some (.ins _ _ _) => True
 | some (.ext _) => True
 | _ => False
section
variable {P : Program} {w : World} {H : Hp} {h h' : Heap} {x e : Addr} {o' : HO}
theorem HOk.write (ok : HOk P w H h) (mu : Mut (H x)) (he : e = x ∨ H e = some (.own x)) (k : ∀ b u, b ≠ e → h.get? b = some u → h'.get? b = some u) (heo : ∃ u, h'.get? e = some u)
  (new : jp P w (upd H x o') h' x o') : HOk P w (upd H x o') h' := fun b u q => by
 have nown : ∀ c y, H c = some (.own y) → c ≠ x := fun c y r z => by subst z; rw [r] at mu; exact mu
 have ntup : ∀ c xs, H c = some (.tup xs) → c ≠ x := fun c xs r z => by subst z; rw [r] at mu; exact mu
 by_cases hb : b = x
 ·subst hb; rw [zc] at q; cases q; exact new
 ·rw [zl hb] at q
  by_cases hbe : b = e
  ·have q' : H b = some (.own x) := by
    rcases he with z | z
    ·exact absurd (hbe.trans z) hb
    ·rw [hbe]; exact z
   rw [q] at q'; cases q'
   obtain ⟨v, hv⟩ := heo
   exact ⟨v, by rw [hbe]; exact hv⟩
  ·refine (ok b u q).stay (fun c v hc r => k c v ?_ r) (fun c r => by rw [zl (nown c b r)]; exact r) fun c xs r => by rw [zl (ntup c xs r)]; exact r
   rcases hc with rfl | hc
   ·exact hbe
   ·rintro rfl
    rcases he with z | z
    ·exact nown c b hc z
    ·rw [hc] at z; cases z; exact hb rfl
end
structure Un (fs ex : List Addr) (H H' : Hp) (h h' : Heap) : Prop where
 keep : ∀ b o, h.get? b = some o → H b = none → b ∉ fs → b ∉ ex → h'.get? b = some o
 slot : ∀ b o, h.get? b = some o → H b = none → b ∈ fs → b ∉ ex → ∃ sl, h'.get? b = some { o with slots := sl }
 free : ∀ b o, h.get? b = some o → H b = none → b ∉ ex → H' b = none
 there : ∀ b o, h.get? b = some o → b ∉ ex → ∃ o', h'.get? b = some o'
 tups : ∀ b xs, H b = some (.tup xs) → H' b = some (.tup xs)
 frzs : ∀ b o u, H b = some (.frz o u) → H' b = some (.frz o u)
 tbls : ∀ b ps, H b = some (.tbl ps) → ∃ more, H' b = some (.tbl (ps ++ more))
section
variable {fs fs' ex ex' : List Addr} {H H1 H2 : Hp} {h h1 h2 h' : Heap} {a x e : Addr} {o : HO}
theorem Un.any (u : Un fs ex H H1 h h1) {b : Addr} {ob : Obj} (q : h.get? b = some ob) (n : H b = none) (hx : b ∉ ex) : ∃ sl, h1.get? b = some { ob with slots := sl } := by
 by_cases hb : b ∈ fs
 ·exact u.slot b ob q n hb hx
 ·exact ⟨ob.slots, u.keep b ob q n hb hx⟩
theorem Un.kept (k : ∀ b u, h.get? b = some u → h'.get? b = some u) : Un fs ex H H h h' :=
 ⟨fun b ob q _ _ _ => k b ob q, fun b ob q _ _ _ => ⟨ob.slots, k b ob q⟩, fun _ _ _ n _ => n, fun b ob q _ => ⟨ob, k b ob q⟩, fun _ _ q => q, fun _ _ _ q => q, fun _ ps q => ⟨#[], by rw [q]; simp⟩⟩
theorem Un.refl : Un fs ex H H h h := Un.kept fun _ _ q => q
theorem Un.laid (k : ∀ b u, h.get? b = some u → h'.get? b = some u) (hp : h.objs.size ≤ a) (hn : H a = none) : Un fs ex H (upd H a o) h h' where
 keep := fun b u q _ _ _ => k b u q
 slot := fun b u q _ _ _ => ⟨u.slots, k b u q⟩
 free := fun b u q n _ => by rw [zl (Nat.ne_of_lt (Nat.lt_of_lt_of_le (Heap.lt_size q) hp))]; exact n
 there := fun b u q _ => ⟨u, k b u q⟩
 tups := fun b xs q => by rw [zl (zt q hn)]; exact q
 frzs := fun b u xs q => by rw [zl (zt q hn)]; exact q
 tbls := fun b ps q => ⟨#[], by rw [zl (zt q hn), q]; simp⟩
theorem Un.write (mu : Mut (H x)) (he : e = x ∨ H e = some (.own x)) (k : ∀ b u, b ≠ e → h.get? b = some u → h'.get? b = some u) (heo : ∃ u, h'.get? e = some u) : Un fs ex H (upd H x o) h h' := by
 have hx : ∀ b, H b = none → b ≠ x := fun b n z => by subst z; rw [n] at mu; exact mu
 have hb : ∀ b, H b = none → b ≠ e := fun b n z => by
  subst z
  rcases he with r | r
  ·exact hx b n r
  ·rw [n] at r; cases r
 have hm : ∀ b u, H b = some u → ¬ Mut (some u) → b ≠ x := fun b u q nm z => by subst z; rw [q] at mu; exact nm mu
 refine ⟨fun b u q n _ _ => k b u (hb b n) q, fun b u q n _ _ => ⟨u.slots, k b u (hb b n) q⟩, fun b u q n _ => by rw [zl (hx b n)]; exact n, fun b u q _ => ?_,
  fun b xs q => by rw [zl (hm b _ q fun z => z)]; exact q, fun b u xs q => by rw [zl (hm b _ q fun z => z)]; exact q, fun b ps q => ⟨#[], by rw [zl (hm b _ q fun z => z), q]; simp⟩⟩
 by_cases hbe : b = e
 ·subst hbe; exact heo
 ·exact ⟨u, k b u hbe q⟩
end
noncomputable def trk (h : Heap) (H : Hp) : List Addr := (List.range h.objs.size).filter fun a => (H a).isSome
noncomputable def hidT (h : Heap) (H : Hp) : Heap := W.hideAll h (trk h H)
theorem hidT_size (h : Heap) (H : Hp) : (hidT h H).objs.size = h.objs.size := W.hideAll_size _ _
theorem hidT_get {h : Heap} {H : Hp} {b : Addr} {o : Obj} (e : h.get? b = some o) (n : H b = none) : (hidT h H).get? b = some o :=
 W.hideAll_get _ e fun hm => by
  have q : (H b).isSome = true := (List.mem_filter.mp hm).2
  rw [n] at q; simp at q
theorem of_hidT {h : Heap} {H : Hp} {b : Addr} {o : Obj} (e : (hidT h H).get? b = some o) : h.get? b = some o ∧ H b = none := by
 have e' : h.get? b = some o := W.of_hideAll (trk h H) e
 refine ⟨e', ?_⟩
 cases q : H b with
 | none => rfl
 | some x =>
  have hm : b ∈ trk h H := List.mem_filter.mpr ⟨List.mem_range.mpr (Heap.lt_size e'), by simp [q]⟩
  have z : (hidT h H).get? b = none := W.hideAll_none (trk h H) hm
  rw [z] at e; cases e
structure Mod (K : W.Frag) (mg : Str → Option Value) (base : Heap) : Prop where
 kin : K.In base
 glob : base.Ns mainGlobals mg
 blt : ∃ mb, base.Ns builtinsNs mb ∧ ∀ x : Str, x ≠ "__name__" → mb x = bootBuiltins x
 nolimit : base.NoLimit
structure Cx where
 prog : Program
 w : World
 K : W.Frag
 mg : Str → Option Value
 base : Heap
 A : Around
 N : List Str
 s₀ : Shared
 H₀ : Hp
 env : Env
 outer : List Env
 stack : List Env
 ex : List Addr
 fn : Str → Bool
 calm : Bool
 pn : List (Addr × Obj)
 xe : Value → Shared → Prop
noncomputable def frs (l : List Env) : List Addr := l.filterMap (·.frame)
noncomputable abbrev Cx.fs (X : Cx) : List Addr := frs X.outer
noncomputable def Vis (sc : Scope) (x : Str) : Prop := sc.names.lookup x = some .local ∨ sc.names.lookup x = some .cell ∨ sc.names.lookup x = some .free
noncomputable def Loc (sc : Scope) (x : Str) : Prop := sc.names.lookup x = some .local ∨ sc.names.lookup x = some .cell
noncomputable def Look (env : Env) (h : Heap) (m : Str → Option Value) (x : Str) (u : Value) : Prop :=
 (env.kindOf x = some .local ∧ m x = some u) ∨ ((env.kindOf x = some .cell ∨ env.kindOf x = some .free) ∧ ∃ c, env.cells.lookup x = some c ∧ h.IsCell c (some u))
structure Cx.Ok (X : Cx) : Prop where
 mod : Mod X.K X.mg X.base
 kind : X.env.scope.kind = .function
 glob : X.env.globals = mainGlobals
 blt : X.env.builtins = builtinsNs
 above : X.s₀.heap.objs.size ≤ X.env.locals
 inj : ∀ x y c, X.env.cells.lookup x = some c → X.env.cells.lookup y = some c → x = y
 has : ∀ x, (X.env.kindOf x = some .cell ∨ X.env.kindOf x = some .free) → ∃ c, X.env.cells.lookup x = some c
 cab : ∀ x c, X.fn x = true → X.env.cells.lookup x = some c → X.s₀.heap.objs.size ≤ c
 hd : X.calm = true → X.A.handled = none
 frames : X.A.frames = some X.stack
 stk : X.stack = X.outer ∨ (X.stack = X.env :: X.outer ∧ X.env.frame = some X.env.locals)
 exf : ∀ b ∈ X.ex, b ≠ X.env.locals ∧ ∀ x c, X.env.cells.lookup x = some c → c ≠ b
 bs : ∀ b o, X.base.get? b = some o → X.s₀.heap.get? b = some o ∧ X.H₀ b = none
 bsz : X.base.objs.size ≤ X.s₀.heap.objs.size
 noex : ∀ b o, X.base.get? b = some o → b ∉ X.ex
 exfs : ∀ b ∈ X.ex, b ∉ X.fs
 funs : X.s₀.heap.FunFrames X.base X.outer
 frf : ∀ b ∈ X.fs, X.H₀ b = none
structure Inv (X : Cx) (pins : List (Addr × Obj)) (σ : List (Option V)) (H : Hp) (s : Shared) : Prop where
 ok : X.Ok
 os : s.os = X.s₀.os
 bare : AllBare s.gens
 base : Un X.fs X.ex X.H₀ H X.s₀.heap s.heap
 loc : ∃ m, s.heap.Ns X.env.locals m ∧ ∀ (i : Nat) (x : Str) (v : V), X.N[i]? = some x → σ[i]? = some (some v) → Vis X.env.scope x → ∃ u, RelV v u ∧ Look X.env s.heap m x u
 cell : ∀ x c, X.env.cells.lookup x = some c → ∃ v, s.heap.IsCell c v
 free : H X.env.locals = none
 freeC : ∀ x c, X.env.cells.lookup x = some c → H c = none
 pin : ∀ p ∈ X.pn ++ pins, s.heap.get? p.1 = some p.2 ∧ H p.1 = none ∧ p.1 ≠ X.env.locals ∧ p.1 ∉ X.fs ∧ ∀ v, p.2.data ≠ .cell v
 hok : HOk X.prog X.w H s.heap
 len : σ.length = X.N.length
section
variable {X : Cx} {pins : List (Addr × Obj)} {σ : List (Option V)} {H H' : Hp} {s : Shared} {h' : Heap}
theorem Cx.Ok.nofr (ok : X.Ok) {b : Addr} {o : Obj} (e : X.base.get? b = some o) : b ∉ X.fs := fun hb => by
 have := (ok.funs.mem hb).1
 rw [e] at this; cases this
theorem Inv.bs (I : Inv X pins σ H s) : ∀ b o, X.base.get? b = some o → s.heap.get? b = some o ∧ H b = none := fun b o e =>
 ⟨I.base.keep b o (I.ok.bs b o e).1 (I.ok.bs b o e).2 (I.ok.nofr e) (I.ok.noex b o e), I.base.free b o (I.ok.bs b o e).1 (I.ok.bs b o e).2 (I.ok.noex b o e)⟩
theorem Inv.bk (I : Inv X pins σ H s) : ∀ b o, X.base.get? b = some o → s.heap.get? b = some o := fun b o e => (I.bs b o e).1
theorem Inv.mod (I : Inv X pins σ H s) : Mod X.K X.mg X.base := I.ok.mod
theorem Inv.kIn (I : Inv X pins σ H s) : X.K.In s.heap := I.ok.mod.kin.keeps I.bk
theorem Inv.lt (I : Inv X pins σ H s) : X.env.locals < s.heap.objs.size := let ⟨_, hn, _⟩ := I.loc; hn.lt
theorem Inv.sz (I : Inv X pins σ H s) : X.s₀.heap.objs.size ≤ s.heap.objs.size := Nat.le_trans I.ok.above (Nat.le_of_lt I.lt)
theorem Inv.nofs (I : Inv X pins σ H s) {a : Addr} (h : s.heap.objs.size ≤ a) : a ∉ X.fs := fun hb => by
 obtain ⟨_, o, ho, _⟩ := I.ok.funs.mem hb
 exact absurd (Nat.lt_of_lt_of_le (Heap.lt_size ho) (Nat.le_trans I.sz h)) (Nat.lt_irrefl _)
theorem Inv.cne (I : Inv X pins σ H s) : ∀ x c, X.env.cells.lookup x = some c → c ≠ X.env.locals := fun x c e z => by
 obtain ⟨v, o, ho, hd⟩ := I.cell x c e
 obtain ⟨m, ⟨o', es, ep, ho', hd', _⟩, _⟩ := I.loc
 rw [z, ho'] at ho; cases ho; rw [hd'] at hd; cases hd
theorem Inv.funs (I : Inv X pins σ H s) : s.heap.FunFrames X.base X.outer := by
 have all : ∀ (l : List Env), (∀ b ∈ frs l, b ∈ X.fs) → X.s₀.heap.FunFrames X.base l → s.heap.FunFrames X.base l := by
  intro l
  induction l with
  | nil => intro _ _; trivial
  | cons env r ih =>
   intro hs hl
   obtain ⟨hk, ⟨L, o, hf, hn, ho, hd⟩, hr⟩ := hl
   have hL : L ∈ X.fs := hs L (by unfold frs; rw [List.filterMap_cons, hf]; exact List.mem_cons_self)
   obtain ⟨sl, e⟩ := I.base.slot L o ho (I.ok.frf L hL) hL fun z => I.ok.exfs L z hL
   exact ⟨hk, ⟨L, _, hf, hn, e, hd⟩, ih (fun b hb => hs b (by unfold frs; rw [List.filterMap_cons, hf]; exact List.mem_cons_of_mem _ hb)) hr⟩
 exact all X.outer (fun _ hb => hb) I.ok.funs
theorem Inv.stack (I : Inv X pins σ H s) : s.heap.FunFrames X.base X.stack := by
 rcases I.ok.stk with e | ⟨e, hf⟩
 ·rw [e]; exact I.funs
 ·rw [e]
  obtain ⟨m, hn, _⟩ := I.loc
  refine .cons (by rw [I.ok.kind]; decide) hf hn ?_ I.funs
  exact Heap.get?_none_of_le (Nat.le_trans I.ok.bsz I.ok.above)
theorem Inv.stkSub (I : Inv X pins σ H s) : ∀ b ∈ frs X.stack, b ∈ X.env.locals :: X.fs := fun b hb => by
 rcases I.ok.stk with e | ⟨e, hf⟩
 ·rw [e] at hb; exact List.mem_cons_of_mem _ hb
 ·rw [e] at hb
  unfold frs at hb
  rw [List.filterMap_cons, hf] at hb
  exact hb
theorem Inv.stkFree (I : Inv X pins σ H s) : ∀ b ∈ frs X.stack, H b = none := fun b hb => by
 rcases List.mem_cons.mp (I.stkSub b hb) with e | hb
 ·rw [e]; exact I.free
 ·obtain ⟨_, o, ho, _⟩ := I.ok.funs.mem hb
  exact I.base.free b o ho (I.ok.frf b hb) fun z => I.ok.exfs b z hb
theorem Inv.step {g' : Array GenState} {t' : Nat} {d' : Drawn} {ch : List Addr} (I : Inv X pins σ H s)
  (hch : ∀ b ∈ ch, (b ∈ X.ex ∨ X.s₀.heap.objs.size ≤ b) ∧ b ≠ X.env.locals ∧ (∀ x c, X.env.cells.lookup x = some c → c ≠ b) ∧ ∀ p ∈ X.pn ++ pins, p.1 ≠ b)
  (keep : ∀ b o, b ≠ X.env.locals → b ∉ X.fs → b ∉ ch → s.heap.get? b = some o → H b = none → h'.get? b = some o)
  (slot : ∀ b o, b ≠ X.env.locals → b ∈ X.fs → b ∉ ch → s.heap.get? b = some o → H b = none → ∃ sl, h'.get? b = some { o with slots := sl }) (free : ∀ b o, b ∉ ch → s.heap.get? b = some o → H b = none → H' b = none)
  (there : ∀ b o, b ∉ ch → s.heap.get? b = some o → ∃ o', h'.get? b = some o')
  (tups : ∀ b xs, H b = some (.tup xs) → H' b = some (.tup xs)) (frzs : ∀ b o u, H b = some (.frz o u) → H' b = some (.frz o u)) (tbls : ∀ b ps, H b = some (.tbl ps) → ∃ more, H' b = some (.tbl (ps ++ more)))
  (ns : ∀ m, s.heap.Ns X.env.locals m → h'.Ns X.env.locals m) (hok : HOk X.prog X.w H' h') (hg : AllBare g') :
  Inv X pins σ H' { s with heap := h', gens := g', drawn := d', toks := t' } := by
 have neL : ∀ b o, X.s₀.heap.get? b = some o → b ≠ X.env.locals := fun b o e => Nat.ne_of_lt (Nat.lt_of_lt_of_le (Heap.lt_size e) I.ok.above)
 have neC : ∀ b o, X.s₀.heap.get? b = some o → b ∉ X.ex → b ∉ ch := fun b o e hx hb => by
  rcases (hch b hb).1 with z | z
  ·exact hx z
  ·exact absurd (Nat.lt_of_lt_of_le (Heap.lt_size e) z) (Nat.lt_irrefl _)
 have cellK : ∀ x c, X.env.cells.lookup x = some c → ∀ v, s.heap.IsCell c v → h'.IsCell c v := fun x c e v ⟨o, ho, hd⟩ => by
  have nch : c ∉ ch := fun z => (hch c z).2.2.1 x c e rfl
  by_cases hc : c ∈ X.fs
  ·obtain ⟨sl, q⟩ := slot c o (I.cne x c e) hc nch ho (I.freeC x c e)
   exact ⟨_, q, hd⟩
  ·exact ⟨o, keep c o (I.cne x c e) hc nch ho (I.freeC x c e), hd⟩
 refine ⟨I.ok, I.os, hg, ⟨fun b o e n hb hx => ?_, fun b o e n hb hx => ?_, fun b o e n hx => ?_, fun b o e hx => ?_, fun b xs e => tups b xs (I.base.tups b xs e), fun b o xs e => frzs b o xs (I.base.frzs b o xs e), fun b ps e => ?_⟩, ?_, fun x c e => ?_, ?_, fun x c e => ?_, fun p hp => ?_, hok, I.len⟩
 ·exact keep b o (neL b o e) hb (neC b o e hx) (I.base.keep b o e n hb hx) (I.base.free b o e n hx)
 ·obtain ⟨sl, e1⟩ := I.base.slot b o e n hb hx
  obtain ⟨sl', e2⟩ := slot b _ (neL b o e) hb (neC b o e hx) e1 (I.base.free b o e n hx)
  exact ⟨sl', e2⟩
 ·obtain ⟨o', e1⟩ := I.base.there b o e hx
  exact free b o' (neC b o e hx) e1 (I.base.free b o e n hx)
 ·obtain ⟨o', e1⟩ := I.base.there b o e hx
  exact there b o' (neC b o e hx) e1
 ·obtain ⟨m1, e1⟩ := I.base.tbls b ps e
  obtain ⟨m2, e2⟩ := tbls b _ e1
  exact ⟨m1 ++ m2, by rw [e2, Array.append_assoc]⟩
 ·obtain ⟨m, hn, hl⟩ := I.loc
  refine ⟨m, ns m hn, fun i x v e1 e2 e3 => ?_⟩
  obtain ⟨u, r, l⟩ := hl i x v e1 e2 e3
  refine ⟨u, r, ?_⟩
  rcases l with l | ⟨k, c, e, z⟩
  ·exact .inl l
  ·exact .inr ⟨k, c, e, cellK x c e _ z⟩
 ·obtain ⟨v, z⟩ := I.cell x c e
  exact ⟨v, cellK x c e v z⟩
 ·obtain ⟨m, ⟨o, _, _, ho, _⟩, _⟩ := I.loc
  exact free _ o (fun z => (hch _ z).2.1 rfl) ho I.free
 ·obtain ⟨v, o, ho, hd⟩ := I.cell x c e
  exact free c o (fun z => (hch c z).2.2.1 x c e rfl) ho (I.freeC x c e)
 ·obtain ⟨e, n, ne, nf, d⟩ := I.pin p hp
  have nch : p.1 ∉ ch := fun z => (hch p.1 z).2.2.2 p hp rfl
  exact ⟨keep p.1 p.2 ne nf nch e n, free p.1 p.2 nch e n, ne, nf, d⟩
theorem Inv.un {t' : Nat} (I : Inv X pins σ H s) (u : Un X.fs [] H H' s.heap h') (hok : HOk X.prog X.w H' h') : Inv X pins σ H' { s with heap := h', toks := t' } := by
 obtain ⟨m, ⟨o, es, ep, ho, r⟩, _⟩ := id I.loc
 obtain ⟨sl, hL⟩ := u.any ho I.free (by simp)
 exact I.step (g' := s.gens) (d' := s.drawn) (ch := []) (fun _ z => nomatch z) (fun b o _ hb _ e n => u.keep b o e n hb (by simp)) (fun b o _ hb _ e n => u.slot b o e n hb (by simp)) (fun b o _ e n => u.free b o e n (by simp)) (fun b o _ e => u.there b o e (by simp)) u.tups u.frzs u.tbls (fun m' hm => by
  obtain ⟨o', es', ep', ho', r'⟩ := hm
  rw [ho] at ho'; cases ho'
  exact ⟨_, es', ep', hL, r'⟩) hok I.bare
theorem Inv.call {g' : Array GenState} {t' : Nat} {d' : Drawn} {ch : List Addr} (I : Inv X pins σ H s) (u : Un (frs X.stack) ch H H' s.heap h') (hok : HOk X.prog X.w H' h') (hg : AllBare g')
  (hch : ∀ b ∈ ch, (b ∈ X.ex ∨ X.s₀.heap.objs.size ≤ b) ∧ b ≠ X.env.locals ∧ (∀ x c, X.env.cells.lookup x = some c → c ≠ b) ∧ ∀ p ∈ X.pn ++ pins, p.1 ≠ b) :
  Inv X pins σ H' { s with heap := h', gens := g', drawn := d', toks := t' } := by
 obtain ⟨m, ⟨o, es, ep, ho, r⟩, _⟩ := id I.loc
 obtain ⟨sl, hL⟩ := u.any ho I.free fun z => (hch _ z).2.1 rfl
 exact I.step (ch := ch) hch (fun b o hL hb hc e n => u.keep b o e n (fun z => (List.mem_cons.mp (I.stkSub b z)).elim hL hb) hc) (fun b o _ _ hc e n => u.any e n hc) (fun b o hc e n => u.free b o e n hc) (fun b o hc e => u.there b o e hc) u.tups u.frzs u.tbls (fun m' hm => by
  obtain ⟨o', es', ep', ho', r'⟩ := hm
  rw [ho] at ho'; cases ho'
  exact ⟨_, es', ep', hL, r'⟩) hok hg
theorem Inv.turned {t' : Nat} {it : Addr} (I : Inv X pins σ H s) (k : ∀ b o, b ≠ it → s.heap.get? b = some o → h'.get? b = some o) (hn : H it = none) (hL : it ≠ X.env.locals)
  (h1 : it ∈ X.ex ∨ X.s₀.heap.objs.size ≤ it) (h2 : ∀ x c, X.env.cells.lookup x = some c → c ≠ it) (h3 : ∀ p ∈ X.pn ++ pins, p.1 ≠ it) : Inv X pins σ H { s with heap := h', toks := t' } := by
 have nit : ∀ b u, H b = some u → b ≠ it := fun b u e z => by rw [z, hn] at e; cases e
 refine I.step (g' := s.gens) (d' := s.drawn) (ch := [it]) (fun b hb => ?_) (fun b o _ _ hc e _ => k b o (fun z => hc (by simp [z])) e) (fun b o _ _ hc e _ => ⟨o.slots, k b o (fun z => hc (by simp [z])) e⟩) (fun _ _ _ _ n => n)
  (fun b o hc e => ⟨o, k b o (fun z => hc (by simp [z])) e⟩) (fun _ _ e => e) (fun _ _ _ e => e) (fun b ps e => ⟨#[], by rw [e]; simp⟩) (fun m hm => ?_) (fun b u e => ?_) I.bare
 ·have e : b = it := by simpa using hb
  subst e
  exact ⟨h1, hL, h2, h3⟩
 ·obtain ⟨o, es, ep, ho, r⟩ := hm
  exact ⟨o, es, ep, k _ o (Ne.symm hL) ho, r⟩
 ·refine (I.hok b u e).stay (fun c v hc q => k c v ?_ q) (fun _ q => q) fun _ _ q => q
  rcases hc with z | z
  ·rw [z]; exact nit b u e
  ·exact nit c _ z
theorem Inv.tok (I : Inv X pins σ H s) (t : Nat) : Inv X pins σ H { s with toks := t } := I.un (h' := s.heap) (t' := t) Un.refl I.hok
theorem Inv.kept {t' : Nat} (I : Inv X pins σ H s) (k : ∀ b u, s.heap.get? b = some u → h'.get? b = some u) : Inv X pins σ H { s with heap := h', toks := t' } := I.un (Un.kept k) (I.hok.kept k)
theorem Inv.laid {a : Addr} {o : HO} {t' : Nat} (I : Inv X pins σ H s) (k : ∀ b u, s.heap.get? b = some u → h'.get? b = some u) (hp : s.heap.objs.size ≤ a) (new : jp X.prog X.w (upd H a o) h' a o) :
  Inv X pins σ (upd H a o) { s with heap := h', toks := t' } := I.un (Un.laid k hp (I.hok.fresh hp)) (I.hok.laid k hp new)
theorem Inv.write {x e : Addr} {o : HO} {t' : Nat} (I : Inv X pins σ H s) (mu : Mut (H x)) (he : e = x ∨ H e = some (.own x)) (k : ∀ b u, b ≠ e → s.heap.get? b = some u → h'.get? b = some u) (heo : ∃ u, h'.get? e = some u)
  (new : jp X.prog X.w (upd H x o) h' x o) : Inv X pins σ (upd H x o) { s with heap := h', toks := t' } := I.un (Un.write mu he k heo) (I.hok.write mu he k heo new)
theorem Inv.pins_of {pins' : List (Addr × Obj)} (I : Inv X pins σ H s) (h : ∀ p ∈ pins', s.heap.get? p.1 = some p.2 ∧ H p.1 = none ∧ p.1 ≠ X.env.locals ∧ p.1 ∉ X.fs ∧ ∀ v, p.2.data ≠ .cell v) : Inv X pins' σ H s :=
 ⟨I.ok, I.os, I.bare, I.base, I.loc, I.cell, I.free, I.freeC, fun p hp => (List.mem_append.mp hp).elim (fun z => I.pin p (List.mem_append_left _ z)) (h p), I.hok, I.len⟩
theorem zfu {N : List Str} (hN : N.Nodup) {i j : Nat} {x : Str} (a : N[i]? = some x) (b : N[j]? = some x) : i = j := by
 obtain ⟨h1, e1⟩ := List.getElem?_eq_some_iff.mp a
 obtain ⟨h2, e2⟩ := List.getElem?_eq_some_iff.mp b
 exact (List.getElem_inj hN).mp (e1.trans e2.symm)
theorem zei {M : Model} {A : Around} {E : Value → Shared → Prop} {i : Nat} {x : Str} {v : V} {u : Value} {Q : Unit → Shared → Prop} (I : Inv X pins σ H s) (hN : X.N.Nodup) (hi : X.N[i]? = some x) (hx : Loc X.env.scope x) (r : RelV v u)
  (h : ∀ s', Inv X pins (σ.set i (some v)) H s' → (∃ a, Heap.SameBut a s.heap s'.heap ∧ (a = X.env.locals ∨ X.env.cells.lookup x = some a)) → Q () s') (hf : X.fn x = true ∨ X.env.scope.names.lookup x = some .local := by first | exact .inl rfl | exact .inr rfl | assumption) : wpAny M A (storeName X.env x u) Q E s := by
 obtain ⟨m, hn, hl⟩ := id I.loc
 have hcls : (X.env.scope.kind == .class || (X.env.scope.kind == .module && X.env.locals != X.env.globals)) = false := by rw [I.ok.kind]; rfl
 have hiσ : i < σ.length := by rw [I.len]; exact (List.getElem?_eq_some_iff.mp hi).1
 have cne := I.cne
 have tracked : ∀ {a : Addr} {h' : Heap}, (∃ o, s.heap.get? a = some o ∧ H a = none) → Heap.SameBut a s.heap h' → HOk X.prog X.w H h' := fun {a h'} ha hs b ob e => by
  obtain ⟨_, _, hfree⟩ := ha
  refine (I.hok b ob e).stay (fun c w' hc q => (hs.2 c ?_).trans q) (fun _ q => q) fun _ _ q => q
  rintro rfl
  rcases hc with rfl | hc
  ·rw [hfree] at e; cases e
  ·rw [hfree] at hc; cases hc
 rcases hx with hk | hk
 ·refine wpAny_storeName_local hk hn (fun h' hn' hs => ?_) hcls
  obtain ⟨oL, _, _, hoL, _⟩ := id hn
  refine h _ ⟨I.ok, I.os, I.bare, ⟨fun b o e n hb hx => ?_, fun b o e n hb hx => ?_, I.base.free, fun b o e hx => ?_, I.base.tups, I.base.frzs, I.base.tbls⟩, ⟨_, hn', fun j y v' e1 e2 e3 => ?_⟩, fun y c e => ?_, I.free, I.freeC, fun p hp => ?_, tracked ⟨oL, hoL, I.free⟩ hs, by simpa using I.len⟩ ⟨_, hs, .inl rfl⟩
  ·exact (hs.2 b (Nat.ne_of_lt (Nat.lt_of_lt_of_le (Heap.lt_size e) I.ok.above))).trans (I.base.keep b o e n hb hx)
  ·obtain ⟨sl, e1⟩ := I.base.slot b o e n hb hx
   exact ⟨sl, (hs.2 b (Nat.ne_of_lt (Nat.lt_of_lt_of_le (Heap.lt_size e) I.ok.above))).trans e1⟩
  ·obtain ⟨o', e1⟩ := I.base.there b o e hx
   exact ⟨o', (hs.2 b (Nat.ne_of_lt (Nat.lt_of_lt_of_le (Heap.lt_size e) I.ok.above))).trans e1⟩
  ·by_cases hj : j = i
   ·subst hj
    rw [hi] at e1; cases e1
    rw [List.getElem?_set_self hiσ] at e2
    cases e2
    exact ⟨u, r, .inl ⟨hk, by simp⟩⟩
   ·rw [List.getElem?_set_ne (Ne.symm hj)] at e2
    obtain ⟨u', r', q⟩ := hl j y v' e1 e2 e3
    refine ⟨u', r', ?_⟩
    rcases q with ⟨k, e⟩ | ⟨k, c, e, z⟩
    ·refine .inl ⟨k, ?_⟩
     have : y ≠ x := fun e => hj (zfu hN e1 (e ▸ hi))
     simp [this, e]
    ·exact .inr ⟨k, c, e, z.sameBut hs (cne y c e)⟩
  ·obtain ⟨w', z⟩ := I.cell y c e
   exact ⟨w', z.sameBut hs (cne y c e)⟩
  ·obtain ⟨e, n, ne, nf, d⟩ := I.pin p hp
   exact ⟨(hs.2 p.1 ne).trans e, n, ne, nf, d⟩
 ·have hfn : X.fn x = true := by
   rcases hf with z | z
   ·exact z
   ·rw [z] at hk; cases hk
  obtain ⟨c, hc⟩ := I.ok.has x (.inl hk)
  obtain ⟨w', z⟩ := I.cell x c hc
  refine wpAny_storeName_cell I.ok.kind hk hc z (fun h' hc' hs => ?_)
  obtain ⟨oc, hoc, hocd⟩ := id z
  refine h { s with heap := h' } ⟨I.ok, I.os, I.bare, ⟨fun b o e n hb hx => ?_, fun b o e n hb hx => ?_, I.base.free, fun b o e hx => ?_, I.base.tups, I.base.frzs, I.base.tbls⟩, ⟨m, hn.sameBut hs (Ne.symm (cne x c hc)), fun j y v' e1 e2 e3 => ?_⟩, fun y c' e => ?_, I.free, I.freeC, fun p hp => ?_, tracked ⟨oc, hoc, I.freeC x c hc⟩ hs, by simpa using I.len⟩ ⟨c, hs, .inr hc⟩
  ·exact (hs.2 b (Nat.ne_of_lt (Nat.lt_of_lt_of_le (Heap.lt_size e) (I.ok.cab x c hfn hc)))).trans (I.base.keep b o e n hb hx)
  ·obtain ⟨sl, e1⟩ := I.base.slot b o e n hb hx
   exact ⟨sl, (hs.2 b (Nat.ne_of_lt (Nat.lt_of_lt_of_le (Heap.lt_size e) (I.ok.cab x c hfn hc)))).trans e1⟩
  ·obtain ⟨o', e1⟩ := I.base.there b o e hx
   exact ⟨o', (hs.2 b (Nat.ne_of_lt (Nat.lt_of_lt_of_le (Heap.lt_size e) (I.ok.cab x c hfn hc)))).trans e1⟩
  ·by_cases hj : j = i
   ·subst hj
    rw [hi] at e1; cases e1
    rw [List.getElem?_set_self hiσ] at e2
    cases e2
    exact ⟨u, r, .inr ⟨.inl hk, c, hc, hc'⟩⟩
   ·rw [List.getElem?_set_ne (Ne.symm hj)] at e2
    obtain ⟨u', r', q⟩ := hl j y v' e1 e2 e3
    refine ⟨u', r', ?_⟩
    rcases q with q | ⟨k, c', e, z'⟩
    ·exact .inl q
    ·refine .inr ⟨k, c', e, z'.sameBut hs ?_⟩
     rintro rfl
     exact hj (zfu hN e1 (I.ok.inj _ _ _ e hc ▸ hi))
  ·by_cases hcc : c' = c
   ·subst hcc; exact ⟨_, hc'⟩
   ·obtain ⟨w2, z2⟩ := I.cell y c' e
    exact ⟨w2, z2.sameBut hs hcc⟩
  ·obtain ⟨e, n, ne, nf, d⟩ := I.pin p hp
   refine ⟨(hs.2 p.1 ?_).trans e, n, ne, nf, d⟩
   intro q
   rw [q, hoc] at e
   have q' : oc = p.2 := Option.some.inj e
   exact d w' (by rw [← q']; exact hocd)
theorem zfj {M : Model} {A : Around} {E : Value → Shared → Prop} {i : Nat} {x : Str} {v : V} {u : Value} {Q : Unit → Shared → Prop} (I : Inv X pins σ H s) (hN : X.N.Nodup) (hi : X.N[i]? = some x) (hx : Loc X.env.scope x) (r : RelV v u)
  (h : ∀ s', Inv X pins (σ.set i (some v)) H s' → Q () s') (hf : X.fn x = true ∨ X.env.scope.names.lookup x = some .local := by first | exact .inl rfl | exact .inr rfl | assumption) : wpAny M A (storeName X.env x u) Q E s :=
 zei I hN hi hx r (fun s' I' _ => h s' I') hf
theorem Inv.call' {s' : Shared} {ch : List Addr} (I : Inv X pins σ H s) (ho : s'.os = s.os) (u : Un (frs X.stack) ch H H' s.heap s'.heap) (hok : HOk X.prog X.w H' s'.heap) (hg : AllBare s'.gens)
  (hch : ∀ b ∈ ch, (b ∈ X.ex ∨ X.s₀.heap.objs.size ≤ b) ∧ b ≠ X.env.locals ∧ (∀ x c, X.env.cells.lookup x = some c → c ≠ b) ∧ ∀ p ∈ X.pn ++ pins, p.1 ≠ b) : Inv X pins σ H' s' := by
 obtain ⟨h', g', d', t', o'⟩ := s'
 have e : o' = s.os := ho
 subst e
 exact I.call (g' := g') (t' := t') (d' := d') u hok hg hch
end
noncomputable abbrev XK := Value → Option Addr → Hp → Prop
noncomputable abbrev St := List (Option V)
noncomputable abbrev VK := V → Hp → Prop
noncomputable abbrev TE := St → Hp → VK → Prop
noncomputable abbrev TT := St → Hp → (Bool → Hp → Prop) → Prop
noncomputable abbrev TA := St → Hp → (List V → Hp → Prop) → Prop
structure Ends where
 nx : St → Hp → Prop
 rt : VK
 bk : St → Hp → Prop := fun _ _ => False
 ct : St → Hp → Prop := fun _ _ => False
noncomputable abbrev TS := Ends → St → Hp → Prop
noncomputable def EP (X : Cx) (pins : List (Addr × Obj)) (σ : St) (Q : VK) (u : Value) (s' : Shared) : Prop := ∃ v H', Inv X pins σ H' s' ∧ RelV v u ∧ Q v H'
noncomputable def TP (X : Cx) (pins : List (Addr × Obj)) (σ : St) (Q : Bool → Hp → Prop) (b : Bool) (s' : Shared) : Prop := ∃ H', Inv X pins σ H' s' ∧ Q b H'
noncomputable def AP (X : Cx) (pins : List (Addr × Obj)) (σ : St) (Q : List V → Hp → Prop) (us : List Value) (s' : Shared) : Prop := ∃ vs H', Inv X pins σ H' s' ∧ Vals vs us ∧ Q vs H'
noncomputable def SP (X : Cx) (pins : List (Addr × Obj)) (D : Ends) (f : Flow) (s' : Shared) : Prop :=
 match f with
 | .next => ∃ σ' H', Inv X pins σ' H' s' ∧ D.nx σ' H'
 | .brk => ∃ σ' H', Inv X pins σ' H' s' ∧ D.bk σ' H'
 | .cont => ∃ σ' H', Inv X pins σ' H' s' ∧ D.ct σ' H'
 | .ret u => ∃ v σ' H', Inv X pins σ' H' s' ∧ RelV v u ∧ D.rt v H'
noncomputable def PE (X : Cx) (e : Expr) (t : TE) : Prop :=
 ∀ (pins : List (Addr × Obj)) (s : Shared) (σ : St) (H : Hp) (Q : VK), Inv X pins σ H s → t σ H Q → wpAny (model X.prog X.w) X.A (eval e X.env) (EP X pins σ Q) X.xe s
noncomputable def PT (X : Cx) (e : Expr) (t : TT) : Prop :=
 ∀ (pins : List (Addr × Obj)) (s : Shared) (σ : St) (H : Hp) (Q : Bool → Hp → Prop), Inv X pins σ H s → t σ H Q → wpAny (model X.prog X.w) X.A (isTrue e X.env (eval e X.env)) (TP X pins σ Q) X.xe s
noncomputable def PW (X : Cx) (e : Expr) (t : TT) : Prop :=
 ∀ (whole : Sem Value) (pins : List (Addr × Obj)) (s : Shared) (σ : St) (H : Hp) (Q : Bool → Hp → Prop), Inv X pins σ H s → t σ H Q → wpAny (model X.prog X.w) X.A (isTrue e X.env whole) (TP X pins σ Q) X.xe s
theorem PW.pt {X : Cx} {e : Expr} {t : TT} (h : PW X e t) : PT X e t := h _
noncomputable def PA (X : Cx) (es : List Expr) (t : TA) : Prop :=
 ∀ (pos : Pos) (pins : List (Addr × Obj)) (s : Shared) (σ : St) (H : Hp) (Q : List V → Hp → Prop), Inv X pins σ H s → t σ H Q → wpAny (model X.prog X.w) X.A (spliced (backTo pos (starEach es X.env))) (AP X pins σ Q) X.xe s
noncomputable def PS (X : Cx) (st : Stmt) (t : TS) : Prop :=
 ∀ (pins : List (Addr × Obj)) (s : Shared) (σ : St) (H : Hp) (D : Ends), Inv X pins σ H s → t D σ H → wpAny (model X.prog X.w) X.A (exec st X.env) (SP X pins D) X.xe s
noncomputable def PSs (X : Cx) (st : List Stmt) (t : TS) : Prop :=
 ∀ (pins : List (Addr × Obj)) (s : Shared) (σ : St) (H : Hp) (D : Ends), Inv X pins σ H s → t D σ H → wpAny (model X.prog X.w) X.A (execs st X.env) (SP X pins D) X.xe s
theorem thn {α : Type} {t : Sem α} {Q Q' : α → Shared → Prop} {M : Model} {A : Around} {E : Value → Shared → Prop} {s : Shared} (h : wpAny M A t Q E s) (hQ : ∀ a s, Q a s → Q' a s) : wpAny M A t Q' E s := wpAny_mono h hQ fun _ _ x => x
section
variable {X : Cx}
theorem bin {a b : Expr} {ta tb : TE} (ha : PE X a ta) (hb : PE X b tb) {pins : List (Addr × Obj)} {s : Shared} {σ : St} {H : Hp} {R : V → V → Hp → Prop} (I : Inv X pins σ H s) (h : ta σ H fun x H1 => tb σ H1 fun y H2 => R x y H2)
  {α : Type} {Q : α → Shared → Prop} {f : Value → Value → Sem α}
  (hf : ∀ v u s2 x y H2, Inv X pins σ H2 s2 → RelV x v → RelV y u → R x y H2 → wpAny (model X.prog X.w) X.A (f v u) Q X.xe s2) :
  wpAny (model X.prog X.w) X.A (eval a X.env) (fun v s₁ => wpAny (model X.prog X.w) X.A (eval b X.env) (fun u s₂ => wpAny (model X.prog X.w) X.A (f v u) Q X.xe s₂) X.xe s₁) X.xe s := by
 refine thn (ha pins s σ H _ I h) fun v s1 ⟨x, H1, I1, r1, q1⟩ => ?_
 refine thn (hb pins s1 σ H1 _ I1 q1) fun u s2 ⟨y, H2, I2, r2, q2⟩ => ?_
 exact hf v u s2 x y H2 I2 r1 r2 q2
noncomputable def tVar (i : Nat) : TE := fun σ H Q => ∃ v, σ[i]? = some (some v) ∧ Q v H
noncomputable def tC (v : V) : TE := fun _ H Q => Q v H
theorem pe_var {i : Nat} {x : Str} {pos : Pos} (hN : X.N[i]? = some x) (hv : Vis X.env.scope x) (hd : (x == ("__debug__" : Str)) = false := by decide) (hcd : (x == ("__classdict__" : Str)) = false := by decide) : PE X (.Name x pos) (tVar i) := by
 intro pins s σ H Q I h
 obtain ⟨v, e, h⟩ := h
 obtain ⟨m, hn, hl⟩ := I.loc
 obtain ⟨u, r, l⟩ := hl i x v hN e hv
 have fin : EP X pins σ Q u s := ⟨v, H, I, r, h⟩
 rcases l with ⟨hk, hm⟩ | ⟨hk, c, hc, hcell⟩
 ·exact wpAny_Name (wpAny_loadName_local I.ok.kind hk hn hm fin) hd
 ·rcases hk with hk | hk
  ·exact wpAny_Name (wpAny_loadName_cell I.ok.kind hk hc hcell fin) hd
  ·exact wpAny_Name (wpAny_loadName_free I.ok.kind hk hc hcell fin hcd) hd
theorem zd {i j pos} : PE X (.Constant (.int i) j pos) (tC (.int i)) := fun _ _ _ H _ I h => wpAny_Constant_int ⟨.int i, H, I.tok _, ⟨_, rfl⟩, h⟩
theorem zb9 {b j pos} : PE X (.Constant (.bool b) j pos) (tC (.bl b)) := fun _ _ _ H _ I h => Constant_bool ⟨.bl b, H, I, rfl, h⟩
theorem pe_non {j pos} : PE X (.Constant .none j pos) (tC .non) := fun _ _ _ H _ I h => Constant_none ⟨.non, H, I, rfl, h⟩
theorem zi {x j pos} : PE X (.Constant (.str x) j pos) (tC (.str x)) := fun _ _ _ H _ I h => Calls.Constant_str ⟨.str x, H, I.tok _, ⟨_, rfl⟩, h⟩
noncomputable def Gl (X : Cx) (x : Str) : Prop := X.env.kindOf x = some .globalImplicit
theorem ze7 {E : Value → Shared → Prop} {pins : List (Addr × Obj)} {s : Shared} {σ : St} {H : Hp} {x : Str} {u : Value} {pos : Pos} {Q : Value → Shared → Prop} (I : Inv X pins σ H s) (hg : Gl X x) (hm : X.mg x = some u) (h : Q u s)
  (hd : (x == ("__debug__" : Str)) = false := by decide) : wpAny (model X.prog X.w) X.A (eval (.Name x pos) X.env) Q E s :=
 Calls.Name_function_global I.ok.kind hg (Calls.loadGlobal_global (by rw [I.ok.glob]; exact I.mod.glob.keeps I.bk) hm h) hd
theorem zch {E : Value → Shared → Prop} {pins : List (Addr × Obj)} {s : Shared} {σ : St} {H : Hp} {x : Str} {u : Value} {pos : Pos} {Q : Value → Shared → Prop} (I : Inv X pins σ H s) (hg : Gl X x) (hm : X.mg x = none) (hv : bootBuiltins x = some u) (h : Q u s)
  (hn : x ≠ "__name__" := by decide) (hd : (x == ("__debug__" : Str)) = false := by decide) : wpAny (model X.prog X.w) X.A (eval (.Name x pos) X.env) Q E s := by
 obtain ⟨mb, h1, h2⟩ := I.mod.blt
 exact Calls.Name_function_global I.ok.kind hg (Calls.loadGlobal_builtin (by rw [I.ok.glob]; exact I.mod.glob.keeps I.bk) hm (by rw [I.ok.blt]; exact h1.keeps I.bk) ((h2 x hn).trans hv) h) hd
theorem ze4 {x : Str} {v : V} {u : Value} {pos : Pos} (hg : Gl X x) (hm : X.mg x = some u) (r : RelV v u) (hd : (x == ("__debug__" : Str)) = false := by decide) : PE X (.Name x pos) (tC v) :=
 fun _ _ _ H _ I h => ze7 I hg hm ⟨v, H, I, r, h⟩ hd
theorem j3 {x : Str} {v : V} {u : Value} {pos : Pos} (hg : Gl X x) (hm : X.mg x = none) (hv : bootBuiltins x = some u) (r : RelV v u) (hn : x ≠ "__name__" := by decide) (hd : (x == ("__debug__" : Str)) = false := by decide) : PE X (.Name x pos) (tC v) :=
 fun _ _ _ H _ I h => zch I hg hm hv ⟨v, H, I, r, h⟩ hn hd
variable {a b : Expr} {ta tb : TE} {pos : Pos}
noncomputable def PC (X : Cx) (op : CmpOp) (a b : Expr) (t : TE) : Prop :=
 ∀ (pins : List (Addr × Obj)) (s : Shared) (σ : St) (H : Hp) (Q : VK), Inv X pins σ H s → t σ H Q →
  wpAny (model X.prog X.w) X.A (eval a X.env) (fun v s₁ => wpAny (model X.prog X.w) X.A (eval b X.env) (fun u s₂ => wpAny (model X.prog X.w) X.A (compareOp op v u) (EP X pins σ Q) X.xe s₂) X.xe s₁) X.xe s
noncomputable def tB (t : TE) : TT := fun σ H Q => t σ H fun x H1 => ∃ c, x = .bl c ∧ Q c H1
theorem pt_cmp {op : CmpOp} {t : TE} (h : PC X op a b t) (h1 : behindInMarks op b = false := by first | exact nobehind _ (by decide) (by decide) | rfl) : PT X (.Compare a [op] [b] pos) (tB t) := by
 intro pins s σ H Q I hw
 refine wpAny_isTrue_Compare1 (thn (h pins s σ H _ I hw) fun v s1 h1 => thn h1 fun u s2 h2 => thn h2 fun c s3 ⟨x, H1, I1, r1, q1⟩ => ?_) h1
 obtain ⟨d, rfl, q⟩ := q1
 cases r1
 exact wpAny_truthy_bool ⟨H1, I1, q⟩
theorem ki {e : Expr} {t : TE} (h : PE X e t) (he : ∀ whole, isTrue e X.env whole = (do let v ← whole; standAt e.pos; holding [v] (truthy v)) := by intro _; rfl) : PT X e (tB t) := by
 intro pins s σ H Q I hw
 refine isTrue_plain (thn (h pins s σ H _ I hw) fun v s1 ⟨x, H1, I1, r1, q1⟩ => ?_) (he _)
 obtain ⟨d, rfl, q⟩ := q1
 cases r1
 exact wpAny_truthy_bool ⟨H1, I1, q⟩
variable {tA tB' : TT} {rest : List Expr}
noncomputable def tAnd (t u : TT) : TT := fun σ H Q => t σ H fun c H1 => if c = true then u σ H1 Q else Q false H1
noncomputable def tOr (t u : TT) : TT := fun σ H Q => t σ H fun c H1 => if c = true then Q true H1 else u σ H1 Q
noncomputable def tNot (t : TT) : TT := fun σ H Q => t σ H fun c H1 => Q (!c) H1
theorem za8 (ha : PT X a tA) : PW X (.BoolOp .And [a] pos) tA := by
 intro wh pins s σ H Q I h
 refine isTrue_and (thn (ha pins s σ H Q I h) fun c s1 e => ?_)
 cases c with
 | true => exact isTrue_and_nil e
 | false => exact e
theorem zbp (ha : PT X a tA) : PW X (.BoolOp .Or [a] pos) tA := by
 intro wh pins s σ H Q I h
 refine isTrue_or (thn (ha pins s σ H Q I h) fun c s1 e => ?_)
 cases c with
 | false => exact isTrue_or_nil e
 | true => exact e
theorem zbq (ha : PT X a tA) (hb : PW X (.BoolOp .And (b :: rest) pos) tB') : PW X (.BoolOp .And (a :: b :: rest) pos) (tAnd tA tB') := by
 intro wh pins s σ H Q I h
 refine isTrue_and (thn (ha pins s σ H _ I h) fun c s1 ⟨H1, I1, q1⟩ => ?_)
 cases c with
 | true => exact hb wh pins s1 σ H1 Q I1 q1
 | false => exact ⟨H1, I1, q1⟩
theorem zct (ha : PT X a tA) (hb : PW X (.BoolOp .Or (b :: rest) pos) tB') : PW X (.BoolOp .Or (a :: b :: rest) pos) (tOr tA tB') := by
 intro wh pins s σ H Q I h
 refine isTrue_or (thn (ha pins s σ H _ I h) fun c s1 ⟨H1, I1, q1⟩ => ?_)
 cases c with
 | true => exact ⟨H1, I1, q1⟩
 | false => exact hb wh pins s1 σ H1 Q I1 q1
theorem za9 (ha : PT X a tA) : PT X (.UnaryOp .Not a pos) (tNot tA) := by
 intro pins s σ H Q I h
 exact isTrue_not (ha pins s σ H (fun c H1 => Q (!c) H1) I h)
noncomputable def tAndV (ta tb : TE) : TE := fun σ H Q => ta σ H fun x H1 => ∃ c, x = .bl c ∧ if c = true then tb σ H1 Q else Q (.bl false) H1
noncomputable def tNotV (ta : TE) : TE := fun σ H Q => ta σ H fun x H1 => ∃ c, x = .bl c ∧ Q (.bl (!c)) H1
theorem ze3 {op} {t : TE} (h : PE X a t) : PE X (.BoolOp op [a] pos) t := fun pins s σ H Q I hw => BoolOp_one (h pins s σ H Q I hw)
theorem ze5 (ha : PE X a ta) (hb : PE X (.BoolOp .And (b :: rest) pos) tb) : PE X (.BoolOp .And (a :: b :: rest) pos) (tAndV ta tb) := by
 intro pins s σ H Q I h
 refine BoolOp_and (thn (ha pins s σ H _ I h) fun v s1 ⟨x, H1, I1, r1, q1⟩ => ?_)
 obtain ⟨c, rfl, q1⟩ := q1
 cases r1
 refine wpAny_truthy_bool ?_
 cases c with
 | true => exact hb pins s1 σ H1 Q I1 q1
 | false => exact ⟨.bl false, H1, I1, rfl, q1⟩
theorem zga (ha : PE X a ta) : PE X (.UnaryOp .Not a pos) (tNotV ta) := by
 intro pins s σ H Q I h
 refine UnaryOp_ (thn (ha pins s σ H _ I h) fun v s1 ⟨x, H1, I1, r1, q1⟩ => ?_)
 obtain ⟨c, rfl, q1⟩ := q1
 cases r1
 exact not_of (wpAny_truthy_bool ⟨.bl (!c), H1, I1, rfl, q1⟩)
noncomputable def tIf (t : TT) (ta tb : TE) : TE := fun σ H Q => t σ H fun c H1 => if c = true then ta σ H1 Q else tb σ H1 Q
theorem zfp {c : Expr} (hc : PT X c tA) (ha : PE X a ta) (hb : PE X b tb) : PE X (.IfExp c a b pos) (tIf tA ta tb) := by
 intro pins s σ H Q I h
 refine wpAny_IfExp (thn (hc pins s σ H _ I h) fun d s1 ⟨H1, I1, q1⟩ => ?_)
 cases d with
 | true => exact ha pins s1 σ H1 Q I1 q1
 | false => exact hb pins s1 σ H1 Q I1 q1
end
noncomputable def SqL (K : W.Frag) (H : Hp) (a : Addr) (xs : List V) : Prop :=
 Rd H a (.lst xs) ∨
  ∃ (o : Obj) (its : Array Value) (n : Nat), K.lookup a = some o ∧ o.cls = .type "list" ∧ o.dict = none ∧ o.data = .seq its n ∧ its.size ≤ sizeLine ∧ Vals xs its.toList
noncomputable def SqT (K : W.Frag) (H : Hp) (a : Addr) (xs : List V) : Prop :=
 Rd H a (.tup xs) ∨
  ∃ (o : Obj) (its : Array Value) (n : Nat), K.lookup a = some o ∧ o.cls = .type "tuple" ∧ o.data = .seq its n ∧ its.size ≤ sizeLine ∧ Vals xs its.toList
noncomputable def absV : Value → Option V
 | .none => some .non
 | .bool b => some (.bl b)
 | .int i _ => some (.int i)
 | .str x _ => some (.str x)
 | .bytes b _ => some (.byt b)
 | .float b _ => some (.flt b)
 | .ref a => some (.ref a)
 | .type n => some (.ty n)
 | _ => none
theorem RelV.abs {x : V} {u : Value} (r : RelV x u) : absV u = some x := by
 cases x with
 | non => cases r; rfl
 | bl _ => cases r; rfl
 | int _ => obtain ⟨t, rfl⟩ := r; rfl
 | str _ => obtain ⟨t, rfl⟩ := r; rfl
 | byt _ => obtain ⟨t, rfl⟩ := r; rfl
 | flt _ => obtain ⟨t, rfl⟩ := r; rfl
 | ref _ => cases r; rfl
 | ty _ => cases r; rfl
theorem RelV.inj {x y : V} {u : Value} (r : RelV x u) (q : RelV y u) : x = y := Option.some.inj (r.abs.symm.trans q.abs)
theorem Vals.inj : ∀ {xs ys : List V} {us : List Value}, Vals xs us → Vals ys us → xs = ys
 | _, _, _, .nil, .nil => rfl
 | _, _, _, .cons r t, .cons r' t' => by rw [r.inj r', Vals.inj t t']
section
variable {X : Cx} {pins : List (Addr × Obj)} {σ : St} {H : Hp} {s : Shared} {a : Addr} {xs ys : List V}
theorem SqL.of {K : W.Frag} (h : H a = some (.lst xs)) : SqL K H a xs := .inl (.inl h)
theorem SqT.of {K : W.Frag} (h : H a = some (.tup xs)) : SqT K H a xs := .inl (.inl h)
theorem Inv.list (I : Inv X pins σ H s) (h : SqL X.K H a xs) : ∃ its : List Value, Vals xs its ∧ PlainL s.heap a its.toArray ∧ xs.length ≤ sizeLine := by
 rcases h with h | ⟨o, its, n, hk, hc, hd, hs, hz, r⟩
 ·obtain ⟨z, its, n, r, e⟩ := h.ok I.hok
  exact ⟨its, r, ⟨_, n, e, rfl, rfl, rfl⟩, z⟩
 ·refine ⟨its.toList, r, ⟨o, n, I.kIn a o hk, hc, hd, by simpa using hs⟩, ?_⟩
  have e := r.length
  simp only [Array.length_toList] at e
  omega
theorem Inv.tuple (I : Inv X pins σ H s) (h : SqT X.K H a xs) : ∃ its : List Value, Vals xs its ∧ IsTup s.heap a its.toArray ∧ xs.length ≤ sizeLine := by
 rcases h with h | ⟨o, its, n, hk, hc, hs, hz, r⟩
 ·obtain ⟨z, its, r, p⟩ := h.ok I.hok
  exact ⟨its, r, p, z⟩
 ·refine ⟨its.toList, r, ⟨o, I.kIn a o hk, hc, n, by simpa using hs⟩, ?_⟩
  have e := r.length
  simp only [Array.length_toList] at e
  omega
theorem Inv.list_inj (I : Inv X pins σ H s) (h : SqL X.K H a xs) (h' : SqL X.K H a ys) : xs = ys := by
 obtain ⟨its, r, ⟨o, n, e, _, _, d⟩, _⟩ := I.list h
 obtain ⟨its', r', ⟨o', n', e', _, _, d'⟩, _⟩ := I.list h'
 rw [e] at e'; cases e'
 rw [d] at d'
 injection d' with d1 _
 have : its = its' := by simpa using congrArg Array.toList d1
 subst this
 exact r.inj r'
theorem Inv.tuple_inj (I : Inv X pins σ H s) (h : SqT X.K H a xs) (h' : SqT X.K H a ys) : xs = ys := by
 obtain ⟨its, r, ⟨o, e, _, n, d⟩, _⟩ := I.tuple h
 obtain ⟨its', r', ⟨o', e', _, n', d'⟩, _⟩ := I.tuple h'
 rw [e] at e'; cases e'
 rw [d] at d'
 injection d' with d1 _
 have : its = its' := by simpa using congrArg Array.toList d1
 subst this
 exact r.inj r'
end
noncomputable abbrev Cx.wish (X : Cx) (E : Value → Shared → Prop) : Cx := { X with xe := E }
noncomputable abbrev Cx.nox (X : Cx) : Cx := X.wish fun _ _ => False
theorem Cx.Ok.wish {X : Cx} (ok : X.Ok) (E : Value → Shared → Prop) : (X.wish E).Ok :=
 ⟨ok.mod, ok.kind, ok.glob, ok.blt, ok.above, ok.inj, ok.has, ok.cab, ok.hd, ok.frames, ok.stk, ok.exf, ok.bs, ok.bsz, ok.noex, ok.exfs, ok.funs, ok.frf⟩
theorem Cx.Ok.unwish {X : Cx} {E : Value → Shared → Prop} (ok : (X.wish E).Ok) : X.Ok :=
 ⟨ok.mod, ok.kind, ok.glob, ok.blt, ok.above, ok.inj, ok.has, ok.cab, ok.hd, ok.frames, ok.stk, ok.exf, ok.bs, ok.bsz, ok.noex, ok.exfs, ok.funs, ok.frf⟩
section
variable {X : Cx} {pins : List (Addr × Obj)} {σ : St} {H : Hp} {s : Shared} {E : Value → Shared → Prop}
theorem Inv.wish (I : Inv X pins σ H s) (E : Value → Shared → Prop) : Inv (X.wish E) pins σ H s := ⟨I.ok.wish E, I.os, I.bare, I.base, I.loc, I.cell, I.free, I.freeC, I.pin, I.hok, I.len⟩
theorem Inv.unwish (I : Inv (X.wish E) pins σ H s) : Inv X pins σ H s := ⟨I.ok.unwish, I.os, I.bare, I.base, I.loc, I.cell, I.free, I.freeC, I.pin, I.hok, I.len⟩
theorem SP.unwish {D : Ends} {f : Flow} {s' : Shared} (h : SP (X.wish E) pins D f s') : SP X pins D f s' := by
 cases f with
 | next => obtain ⟨σ', H', I, q⟩ := h; exact ⟨σ', H', I.unwish, q⟩
 | brk => obtain ⟨σ', H', I, q⟩ := h; exact ⟨σ', H', I.unwish, q⟩
 | cont => obtain ⟨σ', H', I, q⟩ := h; exact ⟨σ', H', I.unwish, q⟩
 | ret u => obtain ⟨v, σ', H', I, r, q⟩ := h; exact ⟨v, σ', H', I.unwish, r, q⟩
theorem PSs.nox {st : List Stmt} {t : TS} (h : PSs X.nox st t) : PSs X st t := fun pins s σ H D I hw =>
 wpAny_mono (h pins s σ H D (I.wish _) hw) (fun _ _ q => q.unwish) fun _ _ z => False.elim z
end
section
variable {X : Cx} {st : Stmt} {rest : List Stmt} {t u : TS} {e : Expr} {te : TE} {pos : Pos}
noncomputable def tNext : TS := fun D σ H => D.nx σ H
noncomputable def tSeq (t u : TS) : TS := fun D σ H => t { D with nx := u D } σ H
theorem zv : PSs X [] tNext := fun _ _ σ H _ I h => wpAny_execs_nil ⟨σ, H, I, h⟩
theorem zf (h1 : PS X st t) (h2 : PSs X rest u) : PSs X (st :: rest) (tSeq t u) := by
 intro pins s σ H D I h
 refine wpAny_execs_cons (thn (h1 pins s σ H { D with nx := u D } I h) fun f s1 q => ?_)
 cases f with
 | next =>
  obtain ⟨σ', H', I', q⟩ := q
  exact h2 pins s1 σ' H' D I' q
 | ret v => exact q
 | brk => exact q
 | cont => exact q
theorem zg (h1 : PS X st t) : PSs X [st] t := by
 intro pins s σ H D I h
 refine wpAny_execs_cons (thn (h1 pins s σ H D I h) fun f s1 q => ?_)
 cases f with
 | next => exact wpAny_execs_nil q
 | ret v => exact q
 | brk => exact q
 | cont => exact q
theorem Inv.quiet {pins : List (Addr × Obj)} {σ : St} {H : Hp} {s : Shared} (I : Inv X pins σ H s) : interactive X.env = false := by simp [interactive, I.ok.kind]
noncomputable def tDrop (te : TE) : TS := fun D σ H => te σ H fun _ H1 => D.nx σ H1
theorem qc (he : PE X e te) (hs : swapsWith e none pos.line X.env = pure false := by rfl) : PS X (.Expr e pos) (tDrop te) := by
 intro pins s σ H D I h
 exact wpAny_Expr_any (thn (he pins s σ H _ I h) fun v s1 ⟨x, H1, I1, r1, q1⟩ => ⟨σ, H1, I1, q1⟩) I.quiet hs
noncomputable def tRet (te : TE) : TS := fun D σ H => te σ H D.rt
theorem zr (he : PE X e te) : PS X (.Return (some e) pos) (tRet te) := by
 intro pins s σ H D I h
 exact wpAny_Return_some (thn (he pins s σ H _ I h) fun v s1 ⟨x, H1, I1, r1, q1⟩ => ⟨x, σ, H1, I1, r1, q1⟩)
noncomputable def tIfS (c : TT) (t u : TS) : TS := fun D σ H => c σ H fun b H1 => if b = true then t D σ H1 else u D σ H1
theorem z0 {c : Expr} {a b : List Stmt} {tc : TT} (hc : PT X c tc) (ha : PSs X a t) (hb : PSs X b u) : PS X (.If c a b pos) (tIfS tc t u) := by
 intro pins s σ H D I h
 refine wpAny_If (thn (hc pins s σ H _ I h) fun d s1 ⟨H1, I1, q1⟩ => ?_)
 cases d with
 | true => exact ha pins s1 σ H1 D I1 q1
 | false => exact hb pins s1 σ H1 D I1 q1
noncomputable def tNever : TS := fun _ _ _ => False
theorem zaw : PS X st tNever := fun _ _ _ _ _ _ h => h.elim
end
noncomputable abbrev TG := V → St → Hp → (St → Hp → Prop) → Prop
noncomputable def PG (X : Cx) (target : Expr) (t : TG) : Prop :=
 ∀ (pins : List (Addr × Obj)) (s : Shared) (σ : St) (H : Hp) (v : V) (u : Value) (Q : St → Hp → Prop), Inv X pins σ H s → RelV v u → t v σ H Q →
  wpAny (model X.prog X.w) X.A (assign target X.env u) (fun _ s' => ∃ σ' H', Inv X pins σ' H' s' ∧ Q σ' H') X.xe s
noncomputable abbrev TSet := V → V → V → Hp → (Hp → Prop) → Prop
noncomputable def PSet (X : Cx) (t : TSet) : Prop :=
 ∀ (pins : List (Addr × Obj)) (s : Shared) (σ : St) (H : Hp) (o i v : V) (ov iv u : Value) (Q : Hp → Prop), Inv X pins σ H s → RelV o ov → RelV i iv → RelV v u → t o i v H Q →
  wpAny (model X.prog X.w) X.A (setItem ov iv u) (fun _ s' => ∃ H', Inv X pins σ H' s' ∧ Q H') X.xe s
section
variable {X : Cx} {pos : Pos}
noncomputable def gName (i : Nat) : TG := fun v σ H Q => Q (σ.set i (some v)) H
theorem vj {i : Nat} {x : Str} (hN : X.N.Nodup) (hi : X.N[i]? = some x) (hx : Loc X.env.scope x) (hf : X.fn x = true ∨ X.env.scope.names.lookup x = some .local := by first | exact .inl rfl | exact .inr rfl | assumption) : PG X (.Name x pos) (gName i) := by
 intro pins s σ H v u Q I r h
 exact wpAny_assign_Name (zfj I hN hi hx r (fun s' I' => ⟨_, H, I', h⟩) hf)
noncomputable def gSub (to ti : TE) (t : TSet) : TG := fun v σ H Q => to σ H fun o H1 => ti σ H1 fun i H2 => t o i v H2 fun H3 => Q σ H3
theorem zdy {o i : Expr} {to ti : TE} {t : TSet} (ho : PE X o to) (hi : PE X i ti) (hs : PSet X t)
  (ha : ∀ v, assign (.Subscript o i pos) X.env v = (do
   let ov ← holding [v] (eval o X.env)
   let iv ← holding [v, ov] (eval i X.env)
   standAt pos
   holding [v, ov, iv] (setItem ov iv v)
   release [v, ov, iv] []) := by intro _; rfl) : PG X (.Subscript o i pos) (gSub to ti t) := by
 intro pins s σ H v u Q I r h
 rw [ha]
 refine wpAny_bind (wpAny_holding (thn (ho pins s σ H _ I h) fun ov s1 ⟨x, H1, I1, r1, q1⟩ => ?_))
 refine wpAny_bind (wpAny_holding (thn (hi pins s1 σ H1 _ I1 q1) fun iv s2 ⟨y, H2, I2, r2, q2⟩ => ?_))
 refine wpAny_bind (wpAny_standAt (wpAny_bind (wpAny_holding (thn (hs pins s2 σ H2 x y v ov iv u _ I2 r1 r2 r q2) fun _ s3 ⟨H3, I3, q3⟩ => ?_))))
 exact wpAny_release ⟨σ, H3, I3, q3⟩
noncomputable def tAsg (te : TE) (g : TG) : TS := fun D σ H => te σ H fun x H1 => g x σ H1 D.nx
theorem zdw {tg e : Expr} {te : TE} {g : TG} (he : PE X e te) (hg : PG X tg g) (hs : swapsWithSole [tg] e pos.line X.env = pure false := by rfl) (hw : swappedStores [tg] e X.env = pure none := by rfl)
  (h1 : (assignEach [tg] X.env).map (·.2) = [assign tg X.env] := by rfl) : PS X (.Assign [tg] e pos) (tAsg te g) := by
 intro pins s σ H D I h
 refine wpAny_Assign_stores (thn (he pins s σ H _ I h) fun v s1 ⟨x, H1, I1, r1, q1⟩ => ?_) hs hw
 rw [h1]
 exact thn (hg pins s1 σ H1 x v _ I1 r1 q1) fun _ s2 q => q
theorem zx {i : Nat} {x : Str} {e : Expr} {te : TE} {pos' : Pos} (hN : X.N.Nodup) (hi : X.N[i]? = some x) (hx : Loc X.env.scope x) (he : PE X e te) (hs : swapsWith e (some (.Name x pos')) pos.line X.env = pure false := by rfl) (hf : X.fn x = true ∨ X.env.scope.names.lookup x = some .local := by first | exact .inl rfl | exact .inr rfl | assumption) :
  PS X (.Assign [.Name x pos'] e pos) (tAsg te (gName i)) := by
 intro pins s σ H D I h
 refine wpAny_Assign_Name (thn (he pins s σ H _ I h) fun v s1 ⟨y, H1, I1, r1, q1⟩ => ?_) hs
 exact zfj I1 hN hi hx r1 (fun s2 I2 => ⟨_, H1, I2, q1⟩) hf
end
section
variable {X : Cx} {pos : Pos}
noncomputable def tWhile (c : TT) (tb : TS) : TS := fun D σ H => ∃ W : Nat → St → Hp → Prop, (∃ m, W m σ H) ∧ ∀ m σ H, W m σ H →
 c σ H fun b H1 => if b = true then ∃ N : St → Hp → Prop, (∀ σ' H', N σ' H' → ∃ m', m' < m ∧ W m' σ' H') ∧ tb { D with nx := N, ct := N, bk := D.nx } σ H1 else D.nx σ H1
theorem zbr {c : Expr} {body : List Stmt} {tc : TT} {tb : TS} (hp : PassesOwn (model X.prog X.w) X.A X.env X.xe) (hc : PT X c tc) (hb : PSs X body tb) : PS X (.While c body [] pos) (tWhile tc tb) := by
 intro pins s σ H D I h
 obtain ⟨W, ⟨m0, w0⟩, turn⟩ := h
 refine wpAny_While (codeAny_whileLoop (fun n s' => ∃ σ' H', Inv X pins σ' H' s' ∧ W n σ' H') ?_ m0 ⟨σ, H, I, w0⟩)
 rintro n s1 ⟨σ1, H1, I1, w1⟩
 refine wpAny_passesOwn hp (thn (hc pins s1 σ1 H1 _ I1 (turn n σ1 H1 w1)) fun b s2 ⟨H2, I2, q2⟩ => ?_)
 cases b with
 | true =>
  obtain ⟨N, hN, q2⟩ := q2
  rw [if_pos rfl]
  refine wpAny_passesOwn hp (thn (hb pins s2 σ1 H2 _ I2 q2) fun f s3 q3 => ?_)
  cases f with
  | next =>
   obtain ⟨σ3, H3, I3, n3⟩ := q3
   obtain ⟨m', hm, w3⟩ := hN σ3 H3 n3
   exact ⟨m', hm, σ3, H3, I3, w3⟩
  | cont =>
   obtain ⟨σ3, H3, I3, n3⟩ := q3
   obtain ⟨m', hm, w3⟩ := hN σ3 H3 n3
   exact ⟨m', hm, σ3, H3, I3, w3⟩
  | brk => exact q3
  | ret v => exact q3
 | false =>
  rw [if_neg Bool.false_ne_true]
  exact wpAny_execs_nil ⟨σ1, H2, I2, q2⟩
end
structure It where
 go : Nat → Hp → Prop
 yld : Nat → Hp → V → Hp → Prop
 stop : Nat → Hp → Prop
noncomputable def FpOk (X : Cx) (pins : List (Addr × Obj)) (H : Hp) (b : Addr) : Prop :=
 H b = none ∧ b ≠ X.env.locals ∧ b ∉ X.fs ∧ (b ∈ X.ex ∨ X.s₀.heap.objs.size ≤ b) ∧ (∀ x c, X.env.cells.lookup x = some c → c ≠ b) ∧ ∀ p ∈ X.pn ++ pins, p.1 ≠ b
theorem Inv.fpOk {X : Cx} {pins : List (Addr × Obj)} {σ : St} {H H' : Hp} {s : Shared} {b : Addr} (I : Inv X pins σ H s) (hb : s.heap.objs.size ≤ b) (hn : H' b = none) : FpOk X pins H' b := by
 refine ⟨hn, Nat.ne_of_gt (Nat.lt_of_lt_of_le I.lt hb), I.nofs hb, .inr (Nat.le_trans I.sz hb), fun x c e z => ?_, fun p hp z => ?_⟩
 ·obtain ⟨v, q⟩ := I.cell x c e
  exact absurd (Nat.lt_of_lt_of_le q.lt (by rw [z]; exact hb)) (Nat.lt_irrefl _)
 ·exact absurd (Nat.lt_of_lt_of_le (Heap.lt_size (I.pin p hp).1) (by rw [z]; exact hb)) (Nat.lt_irrefl _)
structure Turn (P : Program) (w : World) (K : W.Frag) (tg : Expr) (J : It) (fp : List Addr) (it : Addr) (tn : Nat → Heap → Prop) : Prop where
 mem : it ∈ fp
 obj : ∀ i h, tn i h → ∀ b ∈ fp, ∃ o, h.get? b = some o ∧ ∀ v, o.data ≠ .cell v
 keep : ∀ i h h', tn i h → (∀ b ∈ fp, ∀ o, h.get? b = some o → h'.get? b = some o) → tn i h'
 item : ∀ (X : Cx), X.prog = P → X.w = w → X.K = K → X.calm = true → ∀ (i : Nat) (pins : List (Addr × Obj)) (s : Shared) (σ : St) (H : Hp) (E : Value → Shared → Prop), Inv X pins σ H s → (∀ b ∈ fp, FpOk X pins H b) → tn i s.heap → J.go i H →
  wpAny (model P w) X.A (pyNext (.ref it)) (fun r s1 => ∃ u, r = some u ∧
   wpAny (model P w) X.A (letOwnedTupleGo tg (.ref it) u) (fun _ s2 => ∃ x H', Inv X pins σ H' s2 ∧ RelV x u ∧ J.yld i H x H' ∧ tn (i + 1) s2.heap ∧ ∀ b ∈ fp, H' b = none) E s1) E s
 done : ∀ (X : Cx), X.prog = P → X.w = w → X.K = K → X.calm = true → ∀ (i : Nat) (pins : List (Addr × Obj)) (s : Shared) (σ : St) (H : Hp) (E : Value → Shared → Prop), Inv X pins σ H s → (∀ b ∈ fp, FpOk X pins H b) → tn i s.heap → J.stop i H →
  wpAny (model P w) X.A (pyNext (.ref it)) (fun r s1 => r = none ∧ Inv X pins σ H s1) E s
 self : ∀ (A : Around) (i : Nat) (s : Shared) (Q : Value → Shared → Prop) (E : Value → Shared → Prop), tn i s.heap → Q (.ref it) s → wpAny (model P w) A (pyIter (.ref it)) Q E s
noncomputable abbrev TI := St → Hp → (It → Hp → Prop) → Prop
noncomputable def PIE (X : Cx) (pins : List (Addr × Obj)) (σ : St) (tg : Expr) (R : It → Hp → Prop) (itv : Value) (s2 : Shared) : Prop :=
 ∃ (it : Addr) (fp : List Addr) (tn : Nat → Heap → Prop) (J : It) (H' : Hp), itv = .ref it ∧ Inv X pins σ H' s2 ∧ Turn X.prog X.w X.K tg J fp it tn ∧ tn 0 s2.heap ∧ (∀ b ∈ fp, FpOk X pins H' b) ∧ R J H'
noncomputable def PI (X : Cx) (tg iter : Expr) (wi : TI) : Prop :=
 ∀ (pins : List (Addr × Obj)) (s : Shared) (σ : St) (H : Hp) (R : It → Hp → Prop), Inv X pins σ H s → wi σ H R →
  wpAny (model X.prog X.w) X.A (eval iter X.env) (fun v s1 => wpAny (model X.prog X.w) X.A (pyIter v) (PIE X pins σ tg R) X.xe s1) X.xe s
theorem go_of {M : Model} {A : Around} {E : Value → Shared → Prop} {s : Shared} {tg : Expr} {it : Addr} {u : Value} {o : Obj} {n : String} {vs : Array Value} {Q : Unit → Shared → Prop} (ho : s.heap.get? it = some o) (hc : o.cls = .type n) (hd : o.data = .fields vs)
  (hn : ["enumerate", "zip", "dict_itemiterator", "dict_reverseitemiterator", "odict_iterator", "itertools.zip_longest", "itertools.pairwise"].contains n = false) (hQ : Q () s) : wpAny M A (letOwnedTupleGo tg (.ref it) u) Q E s := by
 unfold letOwnedTupleGo
 cases tg <;> first
  | exact wpAny_pure hQ
  | (cases u <;> first
    | exact wpAny_pure hQ
    | (refine wpAny_bind (wpAny_load ho ?_)
       rw [hc, hd]
       show wpAny M A (if (["enumerate", "zip", "dict_itemiterator", "dict_reverseitemiterator", "odict_iterator", "itertools.zip_longest", "itertools.pairwise"].contains n && vs[0]? == some (rawInt _)) = true then _ else _) Q E s
       rw [if_neg (by intro h; rw [hn, Bool.false_and] at h; cases h)]
       exact wpAny_pure hQ))
noncomputable def Itl (K : W.Frag) (a : Addr) : It :=
 ⟨fun i H => ∃ xs x, SqL K H a xs ∧ xs[i]? = some x, fun i H x H' => H' = H ∧ ∀ xs, SqL K H a xs → xs[i]? = some x, fun i H => ∃ xs, SqL K H a xs ∧ xs.length ≤ i⟩
noncomputable def Itt (K : W.Frag) (a : Addr) : It :=
 ⟨fun i H => ∃ xs x, SqT K H a xs ∧ xs[i]? = some x, fun i H x H' => H' = H ∧ ∀ xs, SqT K H a xs → xs[i]? = some x, fun i H => ∃ xs, SqT K H a xs ∧ xs.length ≤ i⟩
noncomputable def Itr (lo : Int) (n : Nat) : It := ⟨fun i _ => i < n, fun i H x H' => H' = H ∧ x = .int (lo + i), fun i _ => n ≤ i⟩
theorem turn_list {P : Program} {w : World} {K : W.Frag} {tg : Expr} (a it : Addr) : Turn P w K tg (Itl K a) [it] it (fun i h => h.IsListIter it a i) where
 mem := by simp
 obj := fun i h st b hb => by
  have e : b = it := by simpa using hb
  subst e
  obtain ⟨o, e, c, d⟩ := st
  exact ⟨o, e, fun v z => by rw [d] at z; cases z⟩
 keep := fun i h h' st k => st.at fun o e => k it (by simp) o e
 item := by
  intro X hP hw hK hc i pins s σ H E I hf st hg
  subst hP hw hK
  obtain ⟨xs, x, hq, hx⟩ := hg
  obtain ⟨its, rv, p, hz⟩ := I.list hq
  obtain ⟨u, hu, ru⟩ := rv.get hx
  obtain ⟨f0, f1, f2, f3, f4, f5⟩ := hf it (by simp)
  refine wpAny_pyNext_list_item st p.isList (x := u) (by simpa using hu) fun h' st' sb => ?_
  have I1 : Inv X pins σ H { s with heap := h' } := I.turned (t' := s.toks) (fun b o hb e => (sb.2 b hb).trans e) f0 f1 f3 f4 f5
  obtain ⟨o, e, c, d⟩ := id st'
  exact ⟨u, rfl, go_of (s := { s with heap := h' }) e c d (by decide) ⟨x, H, I1, ru, ⟨rfl, fun ys hy => by rw [I.list_inj hy hq]; exact hx⟩, st', fun b hb => (hf b hb).1⟩⟩
 done := by
  intro X hP hw hK hc i pins s σ H E I hf st hg
  subst hP hw hK
  obtain ⟨xs, hq, hx⟩ := hg
  obtain ⟨its, rv, p, hz⟩ := I.list hq
  obtain ⟨f0, f1, f2, f3, f4, f5⟩ := hf it (by simp)
  have hl := rv.length
  exact wpAny_pyNext_list_end (I.ok.hd hc) st p.isList (by simp; omega) fun h' eb => ⟨rfl, I.turned (t' := s.toks) (fun b o hb e => eb b o hb e) f0 f1 f3 f4 f5⟩
 self := fun _ _ _ _ _ st h => wpAny_pyIter_listiter st h
theorem turn_tuple {P : Program} {w : World} {K : W.Frag} {tg : Expr} (a it : Addr) : Turn P w K tg (Itt K a) [it] it (fun i h => h.IsTupleIter it a i) where
 mem := by simp
 obj := fun i h st b hb => by
  have e : b = it := by simpa using hb
  subst e
  obtain ⟨o, e, c, d⟩ := st
  exact ⟨o, e, fun v z => by rw [d] at z; cases z⟩
 keep := fun i h h' st k => st.at fun o e => k it (by simp) o e
 item := by
  intro X hP hw hK hc i pins s σ H E I hf st hg
  subst hP hw hK
  obtain ⟨xs, x, hq, hx⟩ := hg
  obtain ⟨its, rv, p, hz⟩ := I.tuple hq
  obtain ⟨u, hu, ru⟩ := rv.get hx
  obtain ⟨f0, f1, f2, f3, f4, f5⟩ := hf it (by simp)
  refine wpAny_pyNext_tuple_item st (show s.heap.IsTuple a its.toArray from p) (x := u) (by simpa using hu) fun h' st' sb => ?_
  have I1 : Inv X pins σ H { s with heap := h' } := I.turned (t' := s.toks) (fun b o hb e => (sb.2 b hb).trans e) f0 f1 f3 f4 f5
  obtain ⟨o, e, c, d⟩ := id st'
  exact ⟨u, rfl, go_of (s := { s with heap := h' }) e c d (by decide) ⟨x, H, I1, ru, ⟨rfl, fun ys hy => by rw [I.tuple_inj hy hq]; exact hx⟩, st', fun b hb => (hf b hb).1⟩⟩
 done := by
  intro X hP hw hK hc i pins s σ H E I hf st hg
  subst hP hw hK
  obtain ⟨xs, hq, hx⟩ := hg
  obtain ⟨its, rv, p, hz⟩ := I.tuple hq
  obtain ⟨f0, f1, f2, f3, f4, f5⟩ := hf it (by simp)
  have hl := rv.length
  exact wpAny_pyNext_tuple_end (I.ok.hd hc) st (show s.heap.IsTuple a its.toArray from p) (by simp; omega) fun h' eb => ⟨rfl, I.turned (t' := s.toks) (fun b o hb e => eb b o hb e) f0 f1 f3 f4 f5⟩
 self := fun _ _ _ _ _ st h => wpAny_pyIter_tupleiter st h
theorem turn_range {P : Program} {w : World} {K : W.Frag} {tg : Expr} (it : Addr) (lo : Int) (n : Nat) : Turn P w K tg (Itr lo n) [it] it (fun i h => IsRangeIter h it (lo + (i : Nat) * 1) ((n : Int) - (i : Nat)) 1) where
 mem := by simp
 obj := fun i h st b hb => by
  have e : b = it := by simpa using hb
  subst e
  exact ⟨_, st, fun v z => by
   have z' : Data.fields _ = Data.cell v := z
   cases z'⟩
 keep := fun i h h' st k => k it (by simp) _ st
 item := by
  intro X hP hw hK hc i pins s σ H E I hf st hg
  subst hP hw hK
  obtain ⟨f0, f1, f2, f3, f4, f5⟩ := hf it (by simp)
  have W := Walks.range (prog := X.prog) (w := X.w) (I.ok.hd hc) it lo 1 n
  refine W.item i s _ _ hg st fun v h' tk hv st' kk => ?_
  obtain ⟨t, rfl⟩ := hv
  have I1 : Inv X pins σ H { s with heap := h', toks := tk } := I.turned (fun b o hb e => kk b o (by simpa using hb) e) f0 f1 f3 f4 f5
  refine ⟨_, rfl, go_of (s := { s with heap := h', toks := tk }) (n := "range_iterator") st' rfl rfl (by decide) ⟨.int (lo + i), H, I1, ⟨t, ?_⟩, ⟨rfl, rfl⟩, st', fun b hb => (hf b hb).1⟩⟩
  rw [Int.mul_one]
 done := by
  intro X hP hw hK hc i pins s σ H E I hf st hg
  subst hP hw hK
  obtain ⟨f0, f1, f2, f3, f4, f5⟩ := hf it (by simp)
  exact wpAny_pyNext_range_end (I.ok.hd hc) st (by have : n ≤ i := hg; omega) fun h' eb => ⟨rfl, I.turned (t' := s.toks) (fun b o hb e => eb b o hb e) f0 f1 f3 f4 f5⟩
 self := fun _ _ _ _ _ st h => wpAny_pyIter_rangeiter st h
section
variable {X : Cx} {tg : Expr}
noncomputable def iList (K : W.Frag) (tl : TE) : TI := fun σ H R => tl σ H fun x H1 => ∃ a, x = .ref a ∧ (∃ xs, SqL K H1 a xs) ∧ R (Itl K a) H1
noncomputable def iTup (K : W.Frag) (tl : TE) : TI := fun σ H R => tl σ H fun x H1 => ∃ a, x = .ref a ∧ (∃ xs, SqT K H1 a xs) ∧ R (Itt K a) H1
theorem zdl {l : Expr} {tl : TE} (hl : PE X l tl) : PI X tg l (iList X.K tl) := by
 intro pins s σ H R I h
 refine thn (hl pins s σ H _ I h) fun v s1 ⟨x, H1, I1, r1, q1⟩ => ?_
 obtain ⟨a, e, ⟨xs, hq⟩, q⟩ := q1
 subst e
 cases r1
 obtain ⟨its, rv, p, hz⟩ := I1.list hq
 refine wpAny_pyIter_list p.isList ?_
 refine ⟨s1.heap.objs.size, [s1.heap.objs.size], _, _, H1, rfl, I1.kept (t' := s1.toks) fun b o e => Heap.get?_push_of_some _ e, turn_list a _, ⟨_, Heap.get?_push_size _ rfl, rfl, rfl⟩, fun b hb => ?_, q⟩
 have e : b = s1.heap.objs.size := by simpa using hb
 subst e
 exact I1.fpOk (Nat.le_refl _) (I1.hok.fresh (Nat.le_refl _))
theorem pi_tup {l : Expr} {tl : TE} (hl : PE X l tl) : PI X tg l (iTup X.K tl) := by
 intro pins s σ H R I h
 refine thn (hl pins s σ H _ I h) fun v s1 ⟨x, H1, I1, r1, q1⟩ => ?_
 obtain ⟨a, e, ⟨xs, hq⟩, q⟩ := q1
 subst e
 cases r1
 obtain ⟨its, rv, p, hz⟩ := I1.tuple hq
 refine wpAny_pyIter_tuple (show s1.heap.IsTuple a its.toArray from p) ?_
 refine ⟨s1.heap.objs.size, [s1.heap.objs.size], _, _, H1, rfl, I1.kept (t' := s1.toks) fun b o e => Heap.get?_push_of_some _ e, turn_tuple a _, ⟨_, Heap.get?_push_size _ rfl, rfl, rfl⟩, fun b hb => ?_, q⟩
 have e : b = s1.heap.objs.size := by simpa using hb
 subst e
 exact I1.fpOk (Nat.le_refl _) (I1.hok.fresh (Nat.le_refl _))
theorem range_it {pins : List (Addr × Obj)} {σ : St} {H : Hp} {s : Shared} {R : It → Hp → Prop} {E : Value → Shared → Prop} {lo hi : Int} {t u v : Tok} {tk : Nat} (I : Inv X pins σ H s) (h1 : -(2 ^ 62) ≤ lo) (h2 : lo < 2 ^ 62) (h3 : -(2 ^ 62) ≤ hi) (h4 : hi < 2 ^ 62)
  (q : R (Itr lo (hi - lo).toNat) H) : wpAny (model X.prog X.w) X.A (pyIter (.ref s.heap.objs.size)) (PIE X pins σ tg R) E { s with heap := s.heap.push { cls := .type "range", data := .fields #[.int lo t, .int hi u, .int 1 v] }, toks := tk } := by
 refine wpAny_pyIter_range (IsRange.new ..) (small_one h1 h2 h3 h4) ?_
 have I1 : Inv X pins σ H { s with heap := s.heap.push { cls := .type "range", data := .fields #[.int lo t, .int hi u, .int 1 v] }, toks := tk } := I.kept fun b o e => Heap.get?_push_of_some _ e
 refine ⟨(s.heap.push { cls := .type "range", data := .fields #[.int lo t, .int hi u, .int 1 v] }).objs.size, [(s.heap.push { cls := .type "range", data := .fields #[.int lo t, .int hi u, .int 1 v] }).objs.size], _, _, H, rfl,
  I1.kept (t' := tk) fun b o e => Heap.get?_push_of_some _ e, turn_range _ lo (hi - lo).toNat, ?_, fun b hb => ?_, q⟩
 ·have e1 : lo + ((0 : Nat) : Int) * 1 = lo := by simp
  have e2 : (((hi - lo).toNat : Nat) : Int) - ((0 : Nat) : Int) = Builtin.Range.rangeSize lo hi 1 := by rw [rangeSize_one]; split <;> omega
  show IsRangeIter _ _ (lo + ((0 : Nat) : Int) * 1) ((((hi - lo).toNat : Nat) : Int) - ((0 : Nat) : Int)) 1
  rw [e1, e2]
  exact Heap.get?_push_size _ rfl
 ·have e : b = (s.heap.push { cls := .type "range", data := .fields #[.int lo t, .int hi u, .int 1 v] }).objs.size := by simpa using hb
  subst e
  exact I1.fpOk (Nat.le_refl _) (I1.hok.fresh (Nat.le_refl _))
noncomputable def iRng1 (ta : TA) : TI := fun σ H R => ta σ H fun vs H1 => ∃ j : Int, vs = [.int j] ∧ -(2 ^ 62) ≤ j ∧ j < 2 ^ 62 ∧ R (Itr 0 j.toNat) H1
theorem wx {a : Expr} {ta : TA} {p pos : Pos} (hg : Gl X "range") (hm : X.mg "range" = none) (ha : PA X [a] ta) (hs : starEach [a] X.env = [(false, eval a X.env)] := by rfl) : PI X tg (.Call (.Name "range" p) [a] [] pos) (iRng1 ta) := by
 intro pins s σ H R I h
 refine Call_ (zch I hg hm boot_range (PyProof.Rows.callWith_type1 (thn (ha pos pins s σ H _ I h) fun us s1 ⟨vs, H1, I1, r1, q1⟩ => ?_) hs rfl))
 obtain ⟨j, e, q1, q2, q⟩ := q1
 subst e
 cases r1 with
 | cons r rr =>
  cases rr
  obtain ⟨t, rfl⟩ := r
  exact call_range_1 (range_it I1 (by omega) (by omega) q1 q2 (by simpa using q))
noncomputable def tFor (wi : TI) (g : TG) (tb : TS) : TS := fun D σ H => wi σ H fun J H1 => ∃ W : Nat → Nat → St → Hp → Prop, (∃ m, W 0 m σ H1) ∧ ∀ i m σ H, W i m σ H →
 (J.stop i H ∧ D.nx σ H) ∨ (J.go i H ∧ ∃ N : St → Hp → Prop, (∀ σ' H', N σ' H' → ∃ m', m' < m ∧ W (i + 1) m' σ' H') ∧ ∀ x H', J.yld i H x H' → g x σ H' fun σ2 H2 => tb { D with nx := N, ct := N, bk := D.nx } σ2 H2)
noncomputable def zdx (fp : List Addr) (h : Heap) : List (Addr × Obj) := fp.filterMap fun b => (h.get? b).map fun o => (b, o)
theorem zbg {fp : List Addr} {h : Heap} {b : Addr} {o : Obj} (hb : b ∈ fp) (e : h.get? b = some o) : (b, o) ∈ zdx fp h := List.mem_filterMap.mpr ⟨b, hb, by rw [e]; rfl⟩
theorem of_pinsAt {fp : List Addr} {h : Heap} {p : Addr × Obj} (hp : p ∈ zdx fp h) : p.1 ∈ fp ∧ h.get? p.1 = some p.2 := by
 obtain ⟨b, hb, e⟩ := List.mem_filterMap.mp hp
 cases q : h.get? b with
 | none => rw [q] at e; cases e
 | some o =>
  rw [q] at e
  have e' : (b, o) = p := Option.some.inj e
  subst e'
  exact ⟨hb, q⟩
theorem Inv.pinned {pins : List (Addr × Obj)} {σ : St} {H : Hp} {s : Shared} {fp : List Addr} (I : Inv X pins σ H s) (hf : ∀ b ∈ fp, FpOk X pins H b) (ho : ∀ b ∈ fp, ∃ o, s.heap.get? b = some o ∧ ∀ v, o.data ≠ .cell v) : Inv X (pins ++ zdx fp s.heap) σ H s :=
 I.pins_of fun p hp => (List.mem_append.mp hp).elim (fun z => I.pin p (List.mem_append_right _ z)) fun z => by
  obtain ⟨hb, e⟩ := of_pinsAt z
  obtain ⟨f0, f1, f2, _⟩ := hf p.1 hb
  obtain ⟨o, e', d⟩ := ho p.1 hb
  rw [e] at e'; cases e'
  exact ⟨e, f0, f1, f2, d⟩
theorem Inv.unpinned {pins pl : List (Addr × Obj)} {σ : St} {H : Hp} {s : Shared} (I : Inv X (pins ++ pl) σ H s) : Inv X pins σ H s := I.pins_of fun p hp => I.pin p (List.mem_append_right _ (List.mem_append_left _ hp))
theorem zao {iter : Expr} {body : List Stmt} {wi : TI} {g : TG} {tb : TS} {pos : Pos} (hp : PassesOwn (model X.prog X.w) X.A X.env X.xe) (hc : X.calm = true) (hi : PI X tg iter wi) (hg : PG X tg g) (hb : PSs X body tb)
  (hs : ∀ x, foldedSetIterable iter X.env x = pure x := by intro _; rfl) : PS X (.For tg iter body [] pos) (tFor wi g tb) := by
 intro pins s σ H D I h
 refine wpAny_For (thn (hi pins s σ H _ I h) fun v s1 h1 => thn h1 fun itv s2 h2 => ?_) hs
 obtain ⟨it, fp, tn, J, H2, e, I2, T, st2, f2, W, ⟨m0, w0⟩, turn⟩ := h2
 subst e
 have stat : ∀ {H' : Hp}, (∀ b ∈ fp, H' b = none) → ∀ b ∈ fp, FpOk X pins H' b := fun hn b hb => ⟨hn b hb, (f2 b hb).2⟩
 refine codeAny_forLoop_any (fun n s' => ∃ i σ' H', Inv X pins σ' H' s' ∧ tn i s'.heap ∧ (∀ b ∈ fp, H' b = none) ∧ W i n σ' H') ?_ m0 ⟨0, σ, H2, I2, st2, fun b hb => (f2 b hb).1, w0⟩
 rintro n s3 ⟨i, σ3, H3, I3, st3, fr3, w3⟩
 rcases turn i n σ3 H3 w3 with ⟨stop, qn⟩ | ⟨go, N, hN, step⟩
 ·refine wpAny_passesOwn hp (thn (T.done X rfl rfl rfl hc i pins s3 σ3 H3 X.xe I3 (stat fr3) st3 stop) fun r s4 ⟨hr, I4⟩ => ?_)
  subst hr
  exact wpAny_execs_nil ⟨σ3, H3, I4, qn⟩
 ·refine wpAny_passesOwn hp (thn (T.item X rfl rfl rfl hc i pins s3 σ3 H3 X.xe I3 (stat fr3) st3 go) fun r s4 ⟨u, hr, h4⟩ => ?_)
  subst hr
  refine wpAny_passesOwn hp (thn h4 fun _ s5 ⟨x, H5, I5, r5, y5, st5, fr5⟩ => ?_)
  have I5' := I5.pinned (stat fr5) (T.obj _ _ st5)
  refine wpAny_passesOwn hp (thn (hg _ s5 σ3 H5 x u _ I5' r5 (step x H5 y5)) fun _ s6 ⟨σ6, H6, I6, q6⟩ => ?_)
  refine wpAny_passesOwn hp (thn (hb _ s6 σ6 H6 _ I6 q6) fun f s7 q7 => ?_)
  have again : ∀ {σ7 : St} {H7 : Hp}, Inv X (pins ++ zdx fp s5.heap) σ7 H7 s7 → N σ7 H7 → ∃ m, m < n ∧ ∃ i σ' H', Inv X pins σ' H' s7 ∧ tn i s7.heap ∧ (∀ b ∈ fp, H' b = none) ∧ W i m σ' H' := fun {σ7 H7} I7 n7 => by
   obtain ⟨m', hm, w7⟩ := hN σ7 H7 n7
   refine ⟨m', hm, i + 1, σ7, H7, I7.unpinned, T.keep _ _ _ st5 fun b hb o e => (I7.pin (b, o) (List.mem_append_right _ (List.mem_append_right _ (zbg hb e)))).1, fun b hb => ?_, w7⟩
   obtain ⟨o, e, d⟩ := T.obj _ _ st5 b hb
   exact (I7.pin (b, o) (List.mem_append_right _ (List.mem_append_right _ (zbg hb e)))).2.1
  cases f with
  | next => obtain ⟨σ7, H7, I7, n7⟩ := q7; exact again I7 n7
  | cont => obtain ⟨σ7, H7, I7, n7⟩ := q7; exact again I7 n7
  | brk => obtain ⟨σ7, H7, I7, q7⟩ := q7; exact ⟨σ7, H7, I7.unpinned, q7⟩
  | ret v => obtain ⟨x7, σ7, H7, I7, r7, q7⟩ := q7; exact ⟨x7, σ7, H7, I7.unpinned, r7, q7⟩
end
theorem zd6 {K : W.Frag} {a : Addr} {xs : List V} {g : TG} {tb : TS} {D : Ends} {σ : St} {H : Hp} (Pv : Nat → St → Hp → Prop) (h0 : Pv 0 σ H) (hl : ∀ i σ H, i ≤ xs.length → Pv i σ H → SqL K H a xs)
  (hs : ∀ i x σ H, xs[i]? = some x → Pv i σ H → g x σ H fun σ2 H2 => tb { D with nx := Pv (i + 1), ct := Pv (i + 1), bk := D.nx } σ2 H2) (hd : ∀ σ H, Pv xs.length σ H → D.nx σ H) :
  ∃ W : Nat → Nat → St → Hp → Prop, (∃ m, W 0 m σ H) ∧ ∀ i m σ H, W i m σ H →
   ((Itl K a).stop i H ∧ D.nx σ H) ∨ ((Itl K a).go i H ∧ ∃ N : St → Hp → Prop, (∀ σ' H', N σ' H' → ∃ m', m' < m ∧ W (i + 1) m' σ' H') ∧ ∀ x H', (Itl K a).yld i H x H' → g x σ H' fun σ2 H2 => tb { D with nx := N, ct := N, bk := D.nx } σ2 H2) := by
 refine ⟨fun i m σ H => m = xs.length - i ∧ i ≤ xs.length ∧ Pv i σ H, ⟨xs.length, by simp, Nat.zero_le _, h0⟩, ?_⟩
 rintro i m σ H ⟨rfl, hi, p⟩
 have q := hl i σ H hi p
 by_cases hlt : i < xs.length
 ·refine .inr ⟨⟨xs, xs[i], q, by simp [hlt]⟩, Pv (i + 1), fun σ' H' p' => ⟨xs.length - (i + 1), by omega, rfl, hlt, p'⟩, fun x H' y => ?_⟩
  obtain ⟨e, y⟩ := y
  subst e
  exact hs i x σ _ (y xs q) p
 ·have e : i = xs.length := by omega
  subst e
  exact .inl ⟨⟨xs, q, Nat.le_refl _⟩, hd σ H p⟩
theorem for_tup {K : W.Frag} {a : Addr} {xs : List V} {g : TG} {tb : TS} {D : Ends} {σ : St} {H : Hp} (Pv : Nat → St → Hp → Prop) (h0 : Pv 0 σ H) (hl : ∀ i σ H, i ≤ xs.length → Pv i σ H → SqT K H a xs)
  (hs : ∀ i x σ H, xs[i]? = some x → Pv i σ H → g x σ H fun σ2 H2 => tb { D with nx := Pv (i + 1), ct := Pv (i + 1), bk := D.nx } σ2 H2) (hd : ∀ σ H, Pv xs.length σ H → D.nx σ H) :
  ∃ W : Nat → Nat → St → Hp → Prop, (∃ m, W 0 m σ H) ∧ ∀ i m σ H, W i m σ H →
   ((Itt K a).stop i H ∧ D.nx σ H) ∨ ((Itt K a).go i H ∧ ∃ N : St → Hp → Prop, (∀ σ' H', N σ' H' → ∃ m', m' < m ∧ W (i + 1) m' σ' H') ∧ ∀ x H', (Itt K a).yld i H x H' → g x σ H' fun σ2 H2 => tb { D with nx := N, ct := N, bk := D.nx } σ2 H2) := by
 refine ⟨fun i m σ H => m = xs.length - i ∧ i ≤ xs.length ∧ Pv i σ H, ⟨xs.length, by simp, Nat.zero_le _, h0⟩, ?_⟩
 rintro i m σ H ⟨rfl, hi, p⟩
 have q := hl i σ H hi p
 by_cases hlt : i < xs.length
 ·refine .inr ⟨⟨xs, xs[i], q, by simp [hlt]⟩, Pv (i + 1), fun σ' H' p' => ⟨xs.length - (i + 1), by omega, rfl, hlt, p'⟩, fun x H' y => ?_⟩
  obtain ⟨e, y⟩ := y
  subst e
  exact hs i x σ _ (y xs q) p
 ·have e : i = xs.length := by omega
  subst e
  exact .inl ⟨⟨xs, q, Nat.le_refl _⟩, hd σ H p⟩
theorem za0 {lo : Int} {n : Nat} {g : TG} {tb : TS} {D : Ends} {σ : St} {H : Hp} (Pv : Nat → St → Hp → Prop) (h0 : Pv 0 σ H)
  (hs : ∀ i σ H, i < n → Pv i σ H → g (.int (lo + i)) σ H fun σ2 H2 => tb { D with nx := Pv (i + 1), ct := Pv (i + 1), bk := D.nx } σ2 H2) (hd : ∀ σ H, Pv n σ H → D.nx σ H) :
  ∃ W : Nat → Nat → St → Hp → Prop, (∃ m, W 0 m σ H) ∧ ∀ i m σ H, W i m σ H →
   ((Itr lo n).stop i H ∧ D.nx σ H) ∨ ((Itr lo n).go i H ∧ ∃ N : St → Hp → Prop, (∀ σ' H', N σ' H' → ∃ m', m' < m ∧ W (i + 1) m' σ' H') ∧ ∀ x H', (Itr lo n).yld i H x H' → g x σ H' fun σ2 H2 => tb { D with nx := N, ct := N, bk := D.nx } σ2 H2) := by
 refine ⟨fun i m σ H => m = n - i ∧ i ≤ n ∧ Pv i σ H, ⟨n, by simp, Nat.zero_le _, h0⟩, ?_⟩
 rintro i m σ H ⟨rfl, hi, p⟩
 by_cases hlt : i < n
 ·refine .inr ⟨hlt, Pv (i + 1), fun σ' H' p' => ⟨n - (i + 1), by omega, rfl, hlt, p'⟩, fun x H' y => ?_⟩
  obtain ⟨e, y⟩ := y
  subst e y
  exact hs i σ _ hlt p
 ·have e : i = n := by omega
  subst e
  exact .inl ⟨Nat.le_refl _, hd σ H p⟩
noncomputable abbrev R2 := V → V → Hp → VK → Prop
noncomputable def OpR (X : Cx) (f : Value → Value → Sem Value) (r : R2) : Prop :=
 ∀ (pins : List (Addr × Obj)) (s : Shared) (σ : St) (H : Hp) (x y : V) (v u : Value) (Q : VK), Inv X pins σ H s → RelV x v → RelV y u → r x y H Q →
  wpAny (model X.prog X.w) X.A (f v u) (EP X pins σ Q) X.xe s
noncomputable def UnR (X : Cx) (f : Value → Sem Value) (r : V → Hp → VK → Prop) : Prop :=
 ∀ (pins : List (Addr × Obj)) (s : Shared) (σ : St) (H : Hp) (x : V) (v : Value) (Q : VK), Inv X pins σ H s → RelV x v → r x H Q →
  wpAny (model X.prog X.w) X.A (f v) (EP X pins σ Q) X.xe s
noncomputable def zcd (X : Cx) (f : Value) (r : List V → Hp → VK → Prop) : Prop :=
 ∀ (pins : List (Addr × Obj)) (s : Shared) (σ : St) (H : Hp) (xs : List V) (us : List Value) (Q : VK), Inv X pins σ H s → Vals xs us → r xs H Q →
  wpAny (model X.prog X.w) X.A (call f us) (EP X pins σ Q) X.xe s
noncomputable def TruR (X : Cx) (r : V → Hp → (Bool → Hp → Prop) → Prop) : Prop :=
 ∀ (pins : List (Addr × Obj)) (s : Shared) (σ : St) (H : Hp) (x : V) (v : Value) (Q : Bool → Hp → Prop), Inv X pins σ H s → RelV x v → r x H Q →
  wpAny (model X.prog X.w) X.A (truthy v) (TP X pins σ Q) X.xe s
noncomputable def tOp (r : R2) (ta tb : TE) : TE := fun σ H Q => ta σ H fun x H1 => tb σ H1 fun y H2 => r x y H2 Q
noncomputable def tUn (r : V → Hp → VK → Prop) (ta : TE) : TE := fun σ H Q => ta σ H fun x H1 => r x H1 Q
noncomputable def rI (C : Int → Int → Prop) (g : Int → Int → V) : R2 := fun x y H Q => ∃ i j, x = .int i ∧ y = .int j ∧ C i j ∧ Q (g i j) H
noncomputable def rI0 (g : Int → Int → V) : R2 := fun x y H Q => ∃ i j, x = .int i ∧ y = .int j ∧ Q (g i j) H
noncomputable def rU (g : Int → V) : V → Hp → VK → Prop := fun x H Q => ∃ i, x = .int i ∧ Q (g i) H
section
variable {X : Cx} {a b c : Expr} {ta tb tc : TE} {pos : Pos}
theorem binT (ha : PE X a ta) (hb : PE X b tb) {pins : List (Addr × Obj)} {s : Shared} {σ : St} {H : Hp} {R : V → V → Hp → Prop} (I : Inv X pins σ H s)
  (h : ta σ H fun x H1 => tb σ H1 fun y H2 => R x y H2) {Q : Value → Shared → Prop} {f : Value → Value → Sem Value}
  (hf : ∀ v u s2 x y H2, Inv X pins σ H2 s2 → RelV x v → RelV y u → R x y H2 → wpAny (model X.prog X.w) X.A (f v u) Q X.xe s2) :
  wpAny (model X.prog X.w) X.A (eval a X.env) (fun v s₁ => wpAny (model X.prog X.w) X.A (eval b X.env) (fun u s₂ => wpAny (model X.prog X.w) X.A (f v u) Q X.xe s₂) X.xe s₁) X.xe s := by
 refine thn (ha pins s σ H _ I h) fun v s1 ⟨x, H1, I1, r1, q1⟩ => ?_
 refine thn (hb pins s1 σ H1 _ I1 q1) fun u s2 ⟨y, H2, I2, r2, q2⟩ => ?_
 exact hf v u s2 x y H2 I2 r1 r2 q2
theorem zy {op : Operator} {r : R2} (ho : OpR X (binaryOp op) r) (ha : PE X a ta) (hb : PE X b tb) : PE X (.BinOp a op b pos) (tOp r ta tb) := by
 intro pins s σ H Q I h
 exact wpAny_BinOp (binT ha hb I h fun v u s2 x y H2 I2 rx ry q => ho pins s2 σ H2 x y v u Q I2 rx ry q)
theorem zbs {op : UnaryOp} {r : V → Hp → VK → Prop} (ho : UnR X (unaryOp op) r) (ha : PE X a ta) : PE X (.UnaryOp op a pos) (tUn r ta) := by
 intro pins s σ H Q I h
 exact UnaryOp_ (thn (ha pins s σ H _ I h) fun v s1 ⟨x, H1, I1, r1, q1⟩ => ho pins s1 σ H1 x v Q I1 r1 q1)
theorem opI {f : Value → Value → Sem Value} {C : Int → Int → Prop} {g : Int → Int → Int}
  (rule : ∀ (i j : Int) (t u : Tok) (s : Shared) (Q : Value → Shared → Prop) (E : Value → Shared → Prop), C i j → Q (.int (g i j) s.toks) { s with toks := s.toks + 1 } → wpAny (model X.prog X.w) X.A (f (.int i t) (.int j u)) Q E s) :
  OpR X f (rI C fun i j => .int (g i j)) := by
 intro pins s σ H x y v u Q I rx ry h
 obtain ⟨i, j, rfl, rfl, hc, q⟩ := h
 obtain ⟨t, rfl⟩ := rx
 obtain ⟨t', rfl⟩ := ry
 exact rule i j t t' s _ _ hc ⟨.int (g i j), H, I.tok _, ⟨_, rfl⟩, q⟩
theorem opI0 {f : Value → Value → Sem Value} {g : Int → Int → Int}
  (rule : ∀ (i j : Int) (t u : Tok) (s : Shared) (Q : Value → Shared → Prop) (E : Value → Shared → Prop), Q (.int (g i j) s.toks) { s with toks := s.toks + 1 } → wpAny (model X.prog X.w) X.A (f (.int i t) (.int j u)) Q E s) :
  OpR X f (rI0 fun i j => .int (g i j)) := by
 intro pins s σ H x y v u Q I rx ry h
 obtain ⟨i, j, rfl, rfl, q⟩ := h
 obtain ⟨t, rfl⟩ := rx
 obtain ⟨t', rfl⟩ := ry
 exact rule i j t t' s _ _ ⟨.int (g i j), H, I.tok _, ⟨_, rfl⟩, q⟩
theorem opB0 {f : Value → Value → Sem Value} {g : Int → Int → Bool}
  (rule : ∀ (i j : Int) (t u : Tok) (s : Shared) (Q : Value → Shared → Prop) (E : Value → Shared → Prop), Q (.bool (g i j)) s → wpAny (model X.prog X.w) X.A (f (.int i t) (.int j u)) Q E s) :
  OpR X f (rI0 fun i j => .bl (g i j)) := by
 intro pins s σ H x y v u Q I rx ry h
 obtain ⟨i, j, rfl, rfl, q⟩ := h
 obtain ⟨t, rfl⟩ := rx
 obtain ⟨t', rfl⟩ := ry
 exact rule i j t t' s _ _ ⟨.bl (g i j), H, I, rfl, q⟩
noncomputable def CDiv (i j : Int) : Prop := 0 < j ∧ j < 1073741824
noncomputable def CPow (i j : Int) : Prop := 0 ≤ j ∧ j ≤ 1000000 ∧ i.natAbs < 2 ^ 64
noncomputable def CMul (i j : Int) : Prop := (-(2 ^ 64) < i ∧ i < 2 ^ 64) ∨ (-(2 ^ 64) < j ∧ j < 2 ^ 64)
theorem CMul.ok {i j : Int} (h : CMul i j) : IntMulOk i j := by
 rcases h with ⟨h1, h2⟩ | ⟨h1, h2⟩
 ·exact .of_left (intBits_le_64 h1 h2)
 ·exact .of_right (intBits_le_64 h1 h2)
theorem jg : OpR X (binaryOp .Add) (rI0 fun i j => .int (i + j)) := opI0 fun _ _ _ _ _ _ _ q => add_int q
theorem v0 : OpR X (binaryOp .Sub) (rI0 fun i j => .int (i - j)) := opI0 fun _ _ _ _ _ _ _ q => sub_int q
theorem wv : OpR X (binaryOp .FloorDiv) (rI CDiv fun i j => .int (i / j)) := opI fun i j _ _ _ _ _ hc q => by
 have h1 : (0 : Int) < j := hc.1
 have h2 : j < 1073741824 := hc.2
 exact floordiv_int (by omega) (by rw [Int.fdiv_eq_ediv_of_nonneg i (by omega)]; exact q) (.inl (PyProof.noPylong_small (by omega)))
theorem jo : OpR X (binaryOp .Mod) (rI (fun _ j => 0 < j) fun i j => .int (i % j)) := opI fun i j _ _ _ _ _ hc q => by
 have h1 : (0 : Int) < j := hc
 exact mod_int' (by omega) (by rw [Int.fmod_eq_emod_of_nonneg i (by omega)]; exact q)
theorem zgb : OpR X (binaryOp .Pow) (rI CPow fun i j => .int (i ^ j.toNat)) := opI fun _ _ _ _ _ _ _ hc q => pow_int_small hc.1 hc.2.1 hc.2.2 q
theorem unI {f : Value → Sem Value} {g : Int → Int}
  (rule : ∀ (i : Int) (t : Tok) (s : Shared) (Q : Value → Shared → Prop) (E : Value → Shared → Prop), Q (.int (g i) s.toks) { s with toks := s.toks + 1 } → wpAny (model X.prog X.w) X.A (f (.int i t)) Q E s) :
  UnR X f (rU fun i => .int (g i)) := by
 intro pins s σ H x v Q I rx h
 obtain ⟨i, rfl, q⟩ := h
 obtain ⟨t, rfl⟩ := rx
 exact rule i t s _ _ ⟨.int (g i), H, I.tok _, ⟨_, rfl⟩, q⟩
theorem wz : UnR X (unaryOp .USub) (rU fun i => .int (-i)) := unI fun _ _ _ _ _ q => neg_int q
end
noncomputable def scal : V → V → Bool
 | .non, .non => true | .non, .int _ => true | .int _, .non => true | .non, .bl _ => true | .bl _, .non => true | .non, .str _ => true | .str _, .non => true
 | .int _, .int _ => true | .bl _, .bl _ => true | .str _, .str _ => true | .byt _, .byt _ => true
 | .int _, .str _ => true | .str _, .int _ => true | .bl _, .str _ => true | .str _, .bl _ => true
 | _, _ => false
noncomputable def rEq : R2 := fun x y H Q => scal x y = true ∧ Q (.bl (decide (x = y))) H
noncomputable def rNe : R2 := fun x y H Q => scal x y = true ∧ Q (.bl (!decide (x = y))) H
theorem zcx {i j : Int} : decide (V.int i = V.int j) = (i == j) := by
 rw [Bool.eq_iff_iff]
 simp
theorem dec_bl {i j : Bool} : decide (V.bl i = V.bl j) = (i == j) := by
 rw [Bool.eq_iff_iff]
 simp
theorem dec_str {i j : Str} : decide (V.str i = V.str j) = (i == j) := by
 rw [Bool.eq_iff_iff]
 simp
theorem dec_byt {i j : Array UInt8} : decide (V.byt i = V.byt j) = (i.toList == j.toList) := by
 rw [Bool.eq_iff_iff]
 cases i
 cases j
 simp
section
variable {X : Cx} {a b c : Expr} {ta tb tc : TE} {pos : Pos}
theorem q5 {pins : List (Addr × Obj)} {σ : St} {H : Hp} {s : Shared} {Q : VK} {k k' : Bool} (I : Inv X pins σ H s) (q : Q (.bl k) H) (e : k = k') : EP X pins σ Q (.bool k') s := by
 subst e
 exact ⟨.bl k, H, I, rfl, q⟩
theorem qi : OpR X (compareOp .Eq) rEq := by
 intro pins s σ H x y v u Q I rx ry h
 obtain ⟨hs, q⟩ := h
 cases x with
 | non =>
  cases rx
  cases y with
  | non => cases ry; exact PySem.EqNone.eq_none_none (q5 I q (by simp))
  | bl j => cases ry; exact PySem.EqNone.eq_none_bool (q5 I q (by simp))
  | int j => obtain ⟨t', rfl⟩ := ry; exact PySem.EqNone.eq_none_int (q5 I q (by simp))
  | str j => obtain ⟨t', rfl⟩ := ry; exact PySem.EqNone.eq_none_str (q5 I q (by simp))
  | _ => exact absurd (show false = true from hs) Bool.false_ne_true
 | bl i =>
  cases rx
  cases y with
  | non => cases ry; exact PySem.EqNone.eq_bool_none (q5 I q (by simp))
  | bl j => cases ry; exact eq_bool (q5 I q dec_bl)
  | str j => obtain ⟨t', rfl⟩ := ry; exact PySem.EqMixed.eq_bool_str (q5 I q (by simp))
  | _ => exact absurd (show false = true from hs) Bool.false_ne_true
 | int i =>
  obtain ⟨t, rfl⟩ := rx
  cases y with
  | non => cases ry; exact PySem.EqNone.eq_int_none (q5 I q (by simp))
  | int j => obtain ⟨t', rfl⟩ := ry; exact eq_int (q5 I q zcx)
  | str j => obtain ⟨t', rfl⟩ := ry; exact PySem.EqMixed.eq_int_str (q5 I q (by simp))
  | _ => exact absurd (show false = true from hs) Bool.false_ne_true
 | str i =>
  obtain ⟨t, rfl⟩ := rx
  cases y with
  | non => cases ry; exact PySem.EqNone.eq_str_none (q5 I q (by simp))
  | bl j => cases ry; exact PySem.EqMixed.eq_str_bool (q5 I q (by simp))
  | int j => obtain ⟨t', rfl⟩ := ry; exact PySem.EqMixed.eq_str_int (q5 I q (by simp))
  | str j => obtain ⟨t', rfl⟩ := ry; exact eq_str (q5 I q dec_str)
  | _ => exact absurd (show false = true from hs) Bool.false_ne_true
 | byt i =>
  obtain ⟨t, rfl⟩ := rx
  cases y with
  | byt j => obtain ⟨t', rfl⟩ := ry; exact W.eq_bytes (q5 I q dec_byt)
  | _ => exact absurd (show false = true from hs) Bool.false_ne_true
 | _ => cases y <;> exact absurd (show false = true from hs) Bool.false_ne_true
theorem zdz : OpR X (compareOp .NotEq) rNe := by
 intro pins s σ H x y v u Q I rx ry h
 obtain ⟨hs, q⟩ := h
 cases x with
 | non =>
  cases rx
  cases y with
  | non => cases ry; exact PySem.EqNone.ne_none_none (q5 I q (by simp))
  | bl j => cases ry; exact PySem.EqNone.ne_none_bool (q5 I q (by simp))
  | int j => obtain ⟨t', rfl⟩ := ry; exact PySem.EqNone.ne_none_int (q5 I q (by simp))
  | str j => obtain ⟨t', rfl⟩ := ry; exact PySem.EqNone.ne_none_str (q5 I q (by simp))
  | _ => exact absurd (show false = true from hs) Bool.false_ne_true
 | bl i =>
  cases rx
  cases y with
  | non => cases ry; exact PySem.EqNone.ne_bool_none (q5 I q (by simp))
  | bl j => cases ry; exact ne_bool (q5 I q (congrArg not dec_bl))
  | str j => obtain ⟨t', rfl⟩ := ry; exact PySem.EqMixed.ne_bool_str (q5 I q (by simp))
  | _ => exact absurd (show false = true from hs) Bool.false_ne_true
 | int i =>
  obtain ⟨t, rfl⟩ := rx
  cases y with
  | non => cases ry; exact PySem.EqNone.ne_int_none (q5 I q (by simp))
  | int j => obtain ⟨t', rfl⟩ := ry; exact ne_int (q5 I q (congrArg not zcx))
  | str j => obtain ⟨t', rfl⟩ := ry; exact PySem.EqMixed.ne_int_str (q5 I q (by simp))
  | _ => exact absurd (show false = true from hs) Bool.false_ne_true
 | str i =>
  obtain ⟨t, rfl⟩ := rx
  cases y with
  | non => cases ry; exact PySem.EqNone.ne_str_none (q5 I q (by simp))
  | bl j => cases ry; exact PySem.EqMixed.ne_str_bool (q5 I q (by simp))
  | int j => obtain ⟨t', rfl⟩ := ry; exact PySem.EqMixed.ne_str_int (q5 I q (by simp))
  | str j => obtain ⟨t', rfl⟩ := ry; exact ne_str (q5 I q (congrArg not dec_str))
  | _ => exact absurd (show false = true from hs) Bool.false_ne_true
 | byt i =>
  obtain ⟨t, rfl⟩ := rx
  cases y with
  | byt j => obtain ⟨t', rfl⟩ := ry; exact W.ne_bytes (q5 I q (congrArg not dec_byt))
  | _ => exact absurd (show false = true from hs) Bool.false_ne_true
 | _ => cases y <;> exact absurd (show false = true from hs) Bool.false_ne_true
theorem zbm : OpR X (compareOp .Lt) (rI0 fun i j => .bl (decide (i < j))) := opB0 fun _ _ _ _ _ _ _ q => lt_int q
theorem zfq : OpR X (compareOp .Gt) (rI0 fun i j => .bl (decide (j < i))) := opB0 fun _ _ _ _ _ _ _ q => gt_int q
theorem op_ge : OpR X (compareOp .GtE) (rI0 fun i j => .bl (decide (j ≤ i))) := opB0 fun _ _ _ _ _ _ _ q => ge_int q
theorem op_isN : OpR X (compareOp .Is) (fun x y H Q => y = .non ∧ Q (.bl (decide (x = .non))) H) := by
 intro pins s σ H x y v u Q I rx ry h
 obtain ⟨rfl, q⟩ := h
 cases ry
 refine is_none_gen (q5 I q ?_)
 cases x <;> first
  | (cases rx; rfl)
  | (obtain ⟨t, rfl⟩ := rx; rfl)
noncomputable def isObj : HO → Bool
 | .lst _ => true
 | .ins _ _ _ => true
 | _ => false
theorem zp (b : Expr) {op : CmpOp} (h : op ≠ .In := by decide) (h2 : op ≠ .NotIn := by decide) : behindInMarks op b = false := by
 have e1 : (op == CmpOp.In) = false := by cases op <;> first | rfl | exact absurd rfl h
 have e2 : (op == CmpOp.NotIn) = false := by cases op <;> first | rfl | exact absurd rfl h2
 cases b <;> simp [behindInMarks, e1, e2]
theorem wu {op : CmpOp} {r : R2} (ho : OpR X (compareOp op) r) (ha : PE X a ta) (hb : PE X b tb) (hm : behindInMarks op b = false) : PE X (.Compare a [op] [b] pos) (tOp r ta tb) := by
 intro pins s σ H Q I h
 exact wpAny_Compare1 (binT ha hb I h fun v u s2 x y H2 I2 rx ry q => ho pins s2 σ H2 x y v u Q I2 rx ry q) hm
noncomputable def tTest (t : TE) : TT := fun σ H Q => t σ H fun x H' => ∃ k, x = .bl k ∧ Q k H'
theorem zj {op : CmpOp} {r : R2} (ho : OpR X (compareOp op) r) (ha : PE X a ta) (hb : PE X b tb) (hm : behindInMarks op b = false) : PT X (.Compare a [op] [b] pos) (tTest (tOp r ta tb)) := by
 intro pins s σ H Q I h
 refine wpAny_isTrue_Compare1 (thn (ha pins s σ H _ I h) fun v s1 ⟨x, H1, I1, r1, q1⟩ => thn (hb pins s1 σ H1 _ I1 q1) fun u s2 ⟨y, H2, I2, r2, q2⟩ =>
  thn (ho pins s2 σ H2 x y v u _ I2 r1 r2 q2) fun c s3 ⟨z, H3, I3, r3, k, e, q3⟩ => ?_) hm
 subst e
 cases r3
 exact wpAny_truthy_bool ⟨H3, I3, q3⟩
noncomputable def TruV (K : W.Frag) (x : V) (H : Hp) (k : Bool) : Prop :=
 match x with
 | .non => k = false
 | .bl b => k = b
 | .int i => k = (i != 0)
 | .str y => y.length ≤ sizeLine ∧ k = ((y.length : Int) != 0)
 | .byt y => y.size ≤ sizeLine ∧ k = ((y.size : Int) != 0)
 | .ref p => (∃ xs, SqL K H p xs ∧ k = !xs.isEmpty) ∨ (∃ xs, SqT K H p xs ∧ k = !xs.isEmpty) ∨ ∃ kvs, H p = some (.dK kvs) ∧ k = !kvs.isEmpty
 | _ => False
theorem isEmpty_kv {κ : Type} {kvs : List (κ × V)} {vs : List (κ × Value)} (r : KV kvs vs) : (!vs.isEmpty) = !kvs.isEmpty := by
 cases r <;> rfl
theorem zd4 {xs : List V} {its : List Value} (r : Vals xs its) : (!its.toArray.isEmpty) = !xs.isEmpty := by
 cases r <;> simp
theorem zc4 : (sizeLine : Nat) < 2 ^ 63 := by rw [sizeLine_eq]; decide
theorem tru_ok : TruR X (fun x H Q => ∃ k, TruV X.K x H k ∧ Q k H) := by
 intro pins s σ H x v Q I rx h
 obtain ⟨k, e, q⟩ := h
 have hl := zc4
 have hs : sizeLine = 16777216 := sizeLine_eq
 cases x with
 | non =>
  cases rx
  have e' : k = false := e
  subst e'
  exact truthy_none ⟨H, I, q⟩
 | bl b =>
  cases rx
  have e' : k = b := e
  subst e'
  exact wpAny_truthy_bool ⟨H, I, q⟩
 | int i =>
  obtain ⟨t, rfl⟩ := rx
  have e' : k = (i != 0) := e
  subst e'
  exact PySem.P.truthy_int ⟨H, I, q⟩
 | str y =>
  obtain ⟨t, rfl⟩ := rx
  obtain ⟨hy, e'⟩ : y.length ≤ sizeLine ∧ k = ((y.length : Int) != 0) := e
  subst e'
  exact PySem.P.truthy_str (by omega) ⟨H, I.tok _, q⟩
 | byt y =>
  obtain ⟨t, rfl⟩ := rx
  obtain ⟨hy, e'⟩ : y.size ≤ sizeLine ∧ k = ((y.size : Int) != 0) := e
  subst e'
  exact W.truthy_bytes (by omega) ⟨H, I.tok _, q⟩
 | ref p =>
  cases rx
  have e' : (∃ xs, SqL X.K H p xs ∧ k = !xs.isEmpty) ∨ (∃ xs, SqT X.K H p xs ∧ k = !xs.isEmpty) ∨ ∃ kvs, H p = some (.dK kvs) ∧ k = !kvs.isEmpty := e
  rcases e' with ⟨xs, hx, e'⟩ | ⟨xs, hx, e'⟩ | ⟨kvs, hx, e'⟩
  ·subst e'
   obtain ⟨its, r, pl, hz⟩ := I.list hx
   have hlen := r.length
   exact wpAny_truthy_list pl.isList (by simp only [List.size_toArray]; omega) ⟨H, I.tok _, by rw [zd4 r]; exact q⟩
  ·subst e'
   obtain ⟨its, r, pl, hz⟩ := I.tuple hx
   have hlen := r.length
   exact truthy_tuple pl (by simp only [List.size_toArray]; omega) ⟨H, I.tok _, by rw [zd4 r]; exact q⟩
  ·subst e'
   obtain ⟨hz, hS, vs, r, m⟩ : kvs.length ≤ sizeLine ∧ (p == sysModules) = false ∧ ∃ vs, KV kvs vs ∧ s.heap.DictOf (ze6 X.prog X.w) p vs := I.hok p _ hx
   have hlen : kvs.length = vs.length := Paired.length r
   exact wpAny_truthy_dict hS m (by omega) ⟨H, I.tok _, by rw [isEmpty_kv r]; exact q⟩
 | _ => exact (show False from e).elim
theorem zdu (ha : PE X a ta) (he : ∀ whole, isTrue a X.env whole = (do let v ← whole; standAt a.pos; holding [v] (truthy v))) :
  PT X a (fun σ H Q => ta σ H fun x H' => ∃ k, TruV X.K x H' k ∧ Q k H') := by
 intro pins s σ H Q I h
 exact isTrue_plain (thn (ha pins s σ H _ I h) fun v s1 ⟨x, H1, I1, r1, q1⟩ => tru_ok pins s1 σ H1 x v Q I1 r1 q1) (he _)
theorem zbb : OpR X (binaryOp .Add) (fun x y H Q => ∃ i j, x = .str i ∧ y = .str j ∧ i.length + j.length ≤ sizeLine ∧ Q (.str (i ++ j)) H) := by
 intro pins s σ H x y v u Q I rx ry h
 obtain ⟨i, j, rfl, rfl, hz, q⟩ := h
 obtain ⟨t, rfl⟩ := rx
 obtain ⟨t', rfl⟩ := ry
 exact add_str (fun t' tk => ⟨.str (i ++ j), H, I.tok _, ⟨_, rfl⟩, q⟩) hz
theorem vals1 {x : V} {us : List Value} (r : Vals [x] us) : ∃ u, us = [u] ∧ RelV x u := by
 cases r with
 | cons r1 r2 => cases r2; exact ⟨_, rfl, r1⟩
theorem vals2 {x y : V} {us : List Value} (r : Vals [x, y] us) : ∃ u w', us = [u, w'] ∧ RelV x u ∧ RelV y w' := by
 cases r with
 | cons r1 r2 =>
  cases r2 with
  | cons r3 r4 => cases r4; exact ⟨_, _, rfl, r1, r3⟩
theorem zev : zcd X (.type "int") (fun xs H Q => (∃ i, xs = [.int i] ∧ Q (.int i) H) ∨ ∃ k, xs = [.bl k] ∧ Q (.int (if k then 1 else 0)) H) := by
 intro pins s σ H xs us Q I r h
 rcases h with ⟨i, rfl, q⟩ | ⟨k, rfl, q⟩
 ·obtain ⟨u, rfl, t, rfl⟩ := vals1 r
  exact call_int_int ⟨.int i, H, I, ⟨_, rfl⟩, q⟩
 ·obtain ⟨u, rfl, r1⟩ := vals1 r
  cases r1
  exact call_int_bool ⟨.int (if k then 1 else 0), H, I.tok _, ⟨_, rfl⟩, q⟩
end
structure ObjM (h : Heap) (x dx C : Addr) (mA : Str → Option Value) : Prop where
 obj : h.get? x = some (W.instObj C dx)
 ns : h.Ns1 dx mA
 ne : dx ≠ x
theorem lookIn_ns {h : Heap} {dx : Addr} {mA : Str → Option Value} (n : h.Ns1 dx mA) : ∃ od, h.get? dx = some od ∧ ∀ name, W.lookIn name od = some (mA name) := by
 obtain ⟨o, es, ep, ho, hd, hk, _, hm⟩ := n
 refine ⟨o, ho, fun name => ?_⟩
 have e := hm name
 unfold nsFind findBy at e
 rw [← Array.find?_toList] at e
 unfold W.lookIn
 rw [hd]
 dsimp only
 split
 ·rename_i y q
  rw [q] at e
  exact congrArg some e
 ·rename_i q
  rw [q] at e
  have a : es.toList.any (·.refKey) = false := by
   rw [List.any_eq_false]
   intro y hy
   obtain ⟨z, t, hkey⟩ := hk y (Array.mem_toList_iff.mp hy)
   simp [DictEntry.refKey, hkey]
  have a' : ¬ es.toList.any (·.refKey) = true := by rw [a]; exact Bool.false_ne_true
  rw [if_neg a']
  exact congrArg some e
theorem ObjM.look {h : Heap} {x dx C : Addr} {mA : Str → Option Value} (I : ObjM h x dx C mA) : ∃ od, W.InstAt h x (W.instObj C dx) C (some od) ∧ ∀ name, W.lookIn name od = some (mA name) :=
 let ⟨od, ho, hl⟩ := lookIn_ns I.ns
 ⟨od, ⟨I.obj, rfl, rfl, ho⟩, hl⟩
section
variable {prog : Program} {w : World} {A : Around} {E : Value → Shared → Prop} {s : Shared} {K : W.Frag} {x dx C f : Addr} {mA : Str → Option Value} {name : Str} {v : Value}
theorem get_map {expr : Bool} {Q : Value → Shared → Prop} (X : K.In s.heap) (I : ObjM s.heap x dx C mA) (hg : W.plainGet K C name = true) (hh : W.hasDictIn K C = true)
  (ha : W.findIn K (.ref C) name = some none) (hv : mA name = some v) (hv' : W.handedIn v = true) (h : Q v { s with toks := s.toks + 1 }) :
  wpAny (model prog w) A (getAttr (.ref x) name expr) Q E s := by
 obtain ⟨od, J, hl⟩ := I.look
 exact W.get_value X J (W.plainGet_of hg).1 (W.findObj_own hh ha rfl (by rw [hl, hv])) hv' h
theorem get_meth {pl : Sem Bool} {Q : Value × List Value → Shared → Prop} (X : K.In s.heap) (I : ObjM s.heap x dx C mA) (hg : W.plainGet K C name = true)
  (hf : W.findIn K (.ref C) name = some (some (.ref f))) (ht : W.isFn K (.ref f) = true) (hv : mA name = none) (h : Q (.ref f, [.ref x]) s) :
  wpAny (model prog w) A (getMethod (.ref x) name pl) Q E s := by
 obtain ⟨od, J, hl⟩ := I.look
 exact W.method_fn X J (W.plainGet_of hg).1 (W.plainGet_of hg).2 hf (beq_iff_eq.mp ht) (by show (W.lookIn name od).map (·.isSome) = some false; rw [hl, hv]; rfl) h
theorem set_map {ns : List Str} {Q : Unit → Shared → Prop} (X : K.In s.heap) (I : ObjM s.heap x dx C mA)
  (hs : W.findIn K (.ref C) "__setattr__" = some (some (.builtin "object.__setattr__"))) (hp : W.plainOver K C = true) (ht : W.takerIn K C name = some none) (hh : W.hasDictIn K C = true)
  (hw : PySem.Within mA ns) (hsz : ns.length ≤ sizeLine)
  (h : ∀ h', ObjM h' x dx C (fun y => if y = name then some v else mA y) → Heap.SameBut dx s.heap h' → Q () { s with heap := h', toks := s.toks + 2 }) :
  wpAny (model prog w) A (setAttr (.ref x) name v) Q E s := by
 obtain ⟨od, J, hl⟩ := I.look
 refine W.set_plain X J hs (W.osa_open (s := { s with toks := s.toks + 1 }) (r := none) X J hp ht fun b => ?_)
 obtain ⟨cd, hc, hd'⟩ := W.any_some hh
 have hx : s.heap.get? x = some ⟨.ref C, some dx, .plain, #[]⟩ := I.obj
 refine wpAny_bind (wpAny_pure (wpAny_bind (wpAny_bind (wpAny_loadPart hx (wpAny_bind (W.Looks.here (s := { s with toks := s.toks + 1 }) (W.looks_clsIn X hc) ?_))))))
 rw [hd']
 refine wpAny_pure (a := some dx) (wpAny_bind (wpAny_pure (wpAny_bind ?_)))
 refine wpAny_nsSet1 (s := { s with toks := s.toks + 1 }) I.ns fun h' hn2 hs2 => ?_
 obtain ⟨oD, esD, epD, hoD, hdD, hcD⟩ := hn2.count (PySem.Within.cons name v hw)
 refine wpAny_bind (wpAny_lookBehind hoD (by rw [hdD]; exact pastItsLine_dict (Nat.le_trans hcD (by rw [List.length_cons]; omega))) ?_)
 exact wpAny_pure (h _ ⟨(hs2.2 _ (Ne.symm I.ne)).trans I.obj, hn2, I.ne⟩ hs2)
theorem make_map {R : Result → Shared → Prop} {vs : List Value} {kw : List (Str × Value)} (X : K.In s.heap) (hm : W.makesIn K C = true)
  (hi : W.findIn K (.ref C) "__init__" = some (some (.ref f))) (hf : W.typeIn K (.ref f) = some (.type "function"))
  (h : codeAny (model prog w) (A.under (.builtin "type.__call__" ⟨.ref C :: vs, kw⟩)) (.call (.ref f) ⟨.ref (s.heap.objs.size + 1) :: vs, kw⟩) (W.InitBack (s.heap.objs.size + 1) R)
   {s with heap := (s.heap.push W.emptyDict).push (W.instObj C s.heap.objs.size) }) :
  codeAny (model prog w) A (.call (.ref C) ⟨vs, kw⟩) R s := by
 obtain ⟨hh, g, d, t, os⟩ := s
 exact W.make_core (W.makes_of X hm) (W.looks_findIn X hi) (fun self => W.bind_fn X self hf) (.inl rfl) h
end
noncomputable def putF (f : Str) (v : V) : List (Str × V) → List (Str × V)
 | [] => [(f, v)]
 | (g, x) :: r => if g = f then (g, v) :: r else (g, x) :: putF f v r
theorem zak (f g : Str) (v : V) : ∀ fs : List (Str × V), (putF f v fs).lookup g = if g = f then some v else fs.lookup g
 | [] => by
  show List.lookup g [(f, v)] = _
  by_cases h : g = f
  ·have hb : (g == f) = true := beq_iff_eq.mpr h
   simp only [List.lookup, hb, if_pos h]
  ·have hb : (g == f) = false := beq_eq_false_iff_ne.mpr h
   simp only [List.lookup, hb, if_neg h]
 | (k, x) :: r => by
  have ih := zak f g v r
  rw [show putF f v ((k, x) :: r) = (if k = f then (k, v) :: r else (k, x) :: putF f v r) from rfl]
  by_cases hk : k = f
  ·rw [if_pos hk]
   by_cases h : g = k
   ·have hb : (g == k) = true := beq_iff_eq.mpr h
    simp only [List.lookup, hb, if_pos (h.trans hk)]
   ·have hb : (g == k) = false := beq_eq_false_iff_ne.mpr h
    simp only [List.lookup, hb, if_neg (fun e : g = f => h (e.trans hk.symm))]
  ·rw [if_neg hk]
   by_cases h : g = k
   ·have hb : (g == k) = true := beq_iff_eq.mpr h
    simp only [List.lookup, hb, if_neg (fun e : g = f => hk (h.symm.trans e))]
   ·have hb : (g == k) = false := beq_eq_false_iff_ne.mpr h
    simp only [List.lookup, hb]
    exact ih
theorem zc6 (f : Str) (v : V) : ∀ fs : List (Str × V), f ∈ (putF f v fs).map (·.1) ∧ ∀ g, g ∈ fs.map (·.1) → g ∈ (putF f v fs).map (·.1)
 | [] => ⟨by simp [putF], fun g h => by simp at h⟩
 | (k, x) :: r => by
  obtain ⟨i1, i2⟩ := zc6 f v r
  rw [show putF f v ((k, x) :: r) = (if k = f then (k, v) :: r else (k, x) :: putF f v r) from rfl]
  by_cases hk : k = f
  ·rw [if_pos hk]
   subst hk
   exact ⟨by simp, fun g h => by simpa using h⟩
  ·rw [if_neg hk]
   refine ⟨?_, fun g h => ?_⟩
   ·rw [List.map_cons]
    exact List.mem_cons_of_mem _ i1
   ·rw [List.map_cons] at h ⊢
    rcases List.mem_cons.mp h with e | e
    ·exact List.mem_cons.mpr (.inl e)
    ·exact List.mem_cons_of_mem _ (i2 g e)
theorem zal (f : Str) (v : V) : ∀ fs : List (Str × V), (putF f v fs).length ≤ fs.length + 1
 | [] => by simp [putF]
 | (k, x) :: r => by
  have ih := zal f v r
  rw [show putF f v ((k, x) :: r) = (if k = f then (k, v) :: r else (k, x) :: putF f v r) from rfl]
  by_cases hk : k = f
  ·rw [if_pos hk, List.length_cons, List.length_cons]; omega
  ·rw [if_neg hk, List.length_cons, List.length_cons]; omega
theorem RelO.some_of {v : V} {o : Option Value} (r : RelO (some v) o) : ∃ u, o = some u ∧ RelV v u := by
 cases o with
 | none => exact (show False from r).elim
 | some u => exact ⟨u, rfl, r⟩
theorem RelO.none_of {o : Option Value} (r : RelO none o) : o = none := by
 cases o with
 | none => rfl
 | some u => exact (show False from r).elim
theorem handed_of {v : V} {u : Value} (r : RelV v u) : W.handedIn u = true := by
 cases v with
 | non => cases (show u = Value.none from r); rfl
 | bl b => cases (show u = Value.bool b from r); rfl
 | int i => obtain ⟨t, e⟩ := (show ∃ t, u = Value.int i t from r); cases e; rfl
 | str x => obtain ⟨t, e⟩ := (show ∃ t, u = Value.str x t from r); cases e; rfl
 | byt b => obtain ⟨t, e⟩ := (show ∃ t, u = Value.bytes b t from r); cases e; rfl
 | flt b => obtain ⟨t, e⟩ := (show ∃ t, u = Value.float b t from r); cases e; rfl
 | ref a => cases (show u = Value.ref a from r); rfl
 | ty n => cases (show u = Value.type n from r); rfl
section
variable {P : Program} {w : World} {H H' : Hp} {h h' : Heap} {a C dx : Addr} {fs fs' : List (Str × V)}
theorem zdo (hok : HOk P w H h) (e : H a = some (.ins C dx fs)) : ∃ mA, ObjM h a dx C mA ∧ (∀ f, RelO (fs.lookup f) (mA f)) ∧ PySem.Within mA (fs.map (·.1)) ∧ fs.length ≤ 1000 ∧ H dx = some (.own a) := by
 obtain ⟨d, z, ne, ob, mA, n, r, q⟩ := (show jp P w H h a (.ins C dx fs) from hok a _ e)
 exact ⟨mA, ⟨ob, n, ne⟩, r, q, z, d⟩
end
structure Cls (K : W.Frag) (C : Addr) : Prop where
 pg : W.plainGet K C Str.empty = true
 hd : W.hasDictIn K C = true
 po : W.plainOver K C = true
 sa : W.findIn K (.ref C) "__setattr__" = some (some (.builtin "object.__setattr__"))
theorem Cls.get {K : W.Frag} {C : Addr} (c : Cls K C) (f : Str) : W.plainGet K C f = true := c.pg
noncomputable def j1 (K : W.Frag) (C : Addr) (f : Str) : Prop := W.findIn K (.ref C) f = some none
theorem j1.taker {K : W.Frag} {C : Addr} {f : Str} (n : j1 K C f) : W.takerIn K C f = some none := by
 unfold W.takerIn
 rw [show W.findIn K (.ref C) f = some none from n]
 rfl
structure Meth (K : W.Frag) (C : Addr) (m : Str) (f : Addr) : Prop where
 at_ : W.findIn K (.ref C) m = some (some (.ref f))
 fn : W.isFn K (.ref f) = true
 kp : W.keepIn K (.ref f) = true
section
variable {X : Cx} {pins : List (Addr × Obj)} {σ : St} {H : Hp} {s : Shared} {a C dx : Addr} {fs : List (Str × V)} {f : Str} {v : V} {A : Around} {E : Value → Shared → Prop}
theorem zd5 {b : Bool} {Q : Value → Shared → Prop} (I : Inv X pins σ H s) (e : H a = some (.ins C dx fs)) (c : Cls X.K C) (n : j1 X.K C f) (l : fs.lookup f = some v)
  (h : ∀ u s', Inv X pins σ H s' → RelV v u → Q u s') : wpAny (model X.prog X.w) A (getAttr (.ref a) f b) Q E s := by
 obtain ⟨mA, O, r, _, _, _⟩ := zdo I.hok e
 obtain ⟨u, hu, ru⟩ := RelO.some_of (v := v) (o := mA f) (by rw [← l]; exact r f)
 exact get_map I.kIn O (c.get f) c.hd n hu (handed_of ru) (h u _ (I.tok _) ru)
theorem zcj {m : Str} {g : Addr} {pl : Sem Bool} {Q : Value × List Value → Shared → Prop} (I : Inv X pins σ H s) (e : H a = some (.ins C dx fs)) (c : Cls X.K C) (k : Meth X.K C m g) (l : fs.lookup m = none)
  (h : Q (.ref g, [.ref a]) s) : wpAny (model X.prog X.w) A (getMethod (.ref a) m pl) Q E s := by
 obtain ⟨mA, O, r, _, _, _⟩ := zdo I.hok e
 have hn : mA m = none := RelO.none_of (by rw [← l]; exact r m)
 exact get_meth I.kIn O (c.get m) k.at_ k.fn hn h
theorem zds {y : V} {u : Value} {Q : Unit → Shared → Prop} (I : Inv X pins σ H s) (e : H a = some (.ins C dx fs)) (c : Cls X.K C) (n : j1 X.K C f) (hl : fs.length < 1000) (ry : RelV y u)
  (h : ∀ s', Inv X pins σ (upd H a (.ins C dx (putF f y fs))) s' → Q () s') : wpAny (model X.prog X.w) A (setAttr (.ref a) f u) Q E s := by
 obtain ⟨mA, O, r, wi, _, ho⟩ := zdo I.hok e
 have hz : (fs.map (·.1)).length ≤ sizeLine := by rw [List.length_map, sizeLine_eq]; omega
 refine set_map I.kIn O c.sa c.po n.taker c.hd wi hz fun h' O' sb => h _ ?_
 have hd : ∃ o, h'.get? dx = some o := let ⟨o, _, _, e', _⟩ := O'.ns; ⟨o, e'⟩
 refine I.write (x := a) (e := dx) (by rw [e]; exact True.intro) (.inr ho) (fun b q hb z => (sb.2 b hb).trans z) hd ?_
 refine ⟨by rw [zl O.ne]; exact ho, ?_, O.ne, O'.obj, _, O'.ns, fun g => ?_, fun g hg => ?_⟩
 ·have := zal f y fs; omega
 ·show RelO ((putF f y fs).lookup g) (if g = f then some u else mA g)
  rw [zak]
  by_cases q : g = f
  ·rw [if_pos q, if_pos q]; exact ry
  ·rw [if_neg q, if_neg q]; exact r g
 ·by_cases q : g = f
  ·rw [q]; exact (zc6 f y fs).1
  ·refine (zc6 f y fs).2 g (wi g fun z => hg ?_)
   show (if g = f then some u else mA g) = none
   rw [if_neg q]; exact z
theorem Inv.made (I : Inv X pins σ H s) : Inv X pins σ (upd (upd H s.heap.objs.size (.own (s.heap.objs.size + 1))) (s.heap.objs.size + 1) (.ins C s.heap.objs.size []))
  {s with heap := (s.heap.push W.emptyDict).push (W.instObj C s.heap.objs.size) } := by
 have e1 : (s.heap.push W.emptyDict).get? s.heap.objs.size = some W.emptyDict := Heap.get?_push_size s.heap rfl
 have e2 : ((s.heap.push W.emptyDict).push (W.instObj C s.heap.objs.size)).get? (s.heap.objs.size + 1) = some (W.instObj C s.heap.objs.size) := by
  have := Heap.get?_push_size (s.heap.push W.emptyDict) (o := W.instObj C s.heap.objs.size) rfl
  rwa [Heap.size_push] at this
 have e3 : (s.heap.push W.emptyDict).Ns s.heap.objs.size (fun _ => none) := ⟨W.emptyDict, #[], _, e1, rfl, (fun e he => absurd he (by simp)), fun _ => rfl⟩
 have I1 := I.laid (a := s.heap.objs.size) (o := .own (s.heap.objs.size + 1)) (h' := s.heap.push W.emptyDict) (t' := s.toks) (fun b u q => Heap.get?_push_of_some _ q) (Nat.le_refl _) ⟨_, e1⟩
 refine I1.laid (a := s.heap.objs.size + 1) (o := .ins C s.heap.objs.size []) (t' := s.toks) (fun b u q => Heap.get?_push_of_some _ q) (Nat.le_of_eq (Heap.size_push _ _)) ?_
 have ne : s.heap.objs.size ≠ s.heap.objs.size + 1 := Nat.ne_of_lt (Nat.lt_succ_self _)
 refine ⟨by rw [zl ne, zc], Nat.zero_le _, ne, e2, fun _ => none, (Heap.Ns1.of_empty e3).at fun o q => Heap.get?_push_of_some _ q, fun _ => True.intro, fun y hy => absurd rfl hy⟩
theorem attr_of {prog : Program} {w : World} {env : Env} {e : Expr} {f : Str} {pos : Pos} {s : Shared} {Q : Value → Shared → Prop} (hb : attributeBase e f env (eval e env) = eval e env)
  (h : wpAny (model prog w) A (eval e env) (fun o s₁ => wpAny (model prog w) A (getAttr o f true) Q E s₁) E s) : wpAny (model prog w) A (eval (.Attribute e f pos) env) Q E s :=
 Attribute_any_ h (by rw [arm_eval_Attribute, hb])
end
noncomputable def tFld (K : W.Frag) (ta : TE) (f : Str) : TE := fun σ H Q => ta σ H fun x H1 => ∃ a C dx fs v, x = .ref a ∧ H1 a = some (.ins C dx fs) ∧ Cls K C ∧ j1 K C f ∧ fs.lookup f = some v ∧ Q v H1
noncomputable def sFld (K : W.Frag) (ta tv : TE) (f : Str) : TS := fun D σ H => tv σ H fun y H1 => ta σ H1 fun x H2 => ∃ a C dx fs, x = .ref a ∧ H2 a = some (.ins C dx fs) ∧ Cls K C ∧ j1 K C f ∧ fs.length < 1000 ∧
 D.nx σ (upd H2 a (.ins C dx (putF f y fs)))
noncomputable def InOp (X : Cx) (op : Operator) (rd : V → V → Hp → VK → Prop) : Prop :=
 ∀ (pins : List (Addr × Obj)) (s : Shared) (σ : St) (H : Hp) (x y : V) (u v : Value) (Q : VK), Inv X pins σ H s → RelV x u → RelV y v → rd x y H Q → wpAny (model X.prog X.w) X.A (inplaceOp op u v) (EP X pins σ Q) X.xe s
noncomputable def sFldAug (K : W.Frag) (ta tv : TE) (rd : V → V → Hp → VK → Prop) (f : Str) : TS := fun D σ H => ta σ H fun x H1 => ∃ a C dx fs v, x = .ref a ∧ H1 a = some (.ins C dx fs) ∧ Cls K C ∧ j1 K C f ∧ fs.lookup f = some v ∧
 tv σ H1 fun y H2 => rd v y H2 fun z H3 => ∃ dx' fs', H3 a = some (.ins C dx' fs') ∧ fs'.length < 1000 ∧ D.nx σ (upd H3 a (.ins C dx' (putF f z fs')))
section
variable {X : Cx} {o e value : Expr} {f : Str} {pos pos' tpos : Pos} {ta tv : TE}
theorem qq (he : PE X e ta) (hb : attributeBase e f X.env (eval e X.env) = eval e X.env) : PE X (.Attribute e f pos) (tFld X.K ta f) := by
 intro pins s σ H Q I h
 refine attr_of hb (thn (he pins s σ H _ I h) fun u s1 ⟨x, H1, I1, rx, a, C, dx, fs, v, ex, ea, c, n, l, q⟩ => ?_)
 subst ex
 obtain rfl : u = Value.ref a := rx
 exact zd5 I1 ea c n l fun u' s2 I2 ru => ⟨v, H1, I2, ru, q⟩
theorem zaa (ha : PE X o ta) (hv : PE X value tv) (hs : swapsWith value (some (.Attribute o f pos')) pos.line X.env = pure false) : PS X (.Assign [.Attribute o f pos'] value pos) (sFld X.K ta tv f) := by
 intro pins s σ H D I h
 refine plainObj_wpAny_Assign_Attribute (thn (hv pins s σ H _ I h) fun u s1 ⟨y, H1, I1, ry, q⟩ => thn (ha pins s1 σ H1 _ I1 q) fun ov s2 ⟨x, H2, I2, rx, a, C, dx, fs, ex, ea, c, n, l, q2⟩ => ?_) hs
 subst ex
 obtain rfl : ov = Value.ref a := rx
 exact zds I2 ea c n l ry fun s3 I3 => ⟨σ, _, I3, q2⟩
theorem ww {op : Operator} {rd : V → V → Hp → VK → Prop} (ha : PE X o ta) (hv : PE X value tv) (hop : InOp X op rd) : PS X (.AugAssign (.Attribute o f tpos) op value pos) (sFldAug X.K ta tv rd f) := by
 intro pins s σ H D I h
 refine wpAny_AugAssign_AttributeAny (thn (ha pins s σ H _ I h) fun ov s1 ⟨x, H1, I1, rx, a, C, dx, fs, v, ex, ea, c, n, l, q⟩ => ?_)
 subst ex
 obtain rfl : ov = Value.ref a := rx
 refine zd5 I1 ea c n l fun u s2 I2 ru => thn (hv pins s2 σ H1 _ I2 q) fun w3 s3 ⟨y, H2, I3, ry, q3⟩ => thn (hop pins s3 σ H2 v y u w3 _ I3 ru ry q3) fun w4 s4 ⟨z, H3, I4, rz, dx', fs', ea', l', q4⟩ => ?_
 exact zds I4 ea' c n l' rz fun s5 I5 => ⟨σ, _, I5, q4⟩
noncomputable def rAdd : V → V → Hp → VK → Prop := fun x y H Q => ∃ i j, x = .int i ∧ y = .int j ∧ Q (.int (i + j)) H
noncomputable def rSub : V → V → Hp → VK → Prop := fun x y H Q => ∃ i j, x = .int i ∧ y = .int j ∧ Q (.int (i - j)) H
theorem zge : InOp X .Add rAdd := by
 rintro pins s σ H x y u v Q I rx ry ⟨i, j, rfl, rfl, q⟩
 obtain ⟨t, rfl⟩ := (show ∃ t, u = Value.int i t from rx)
 obtain ⟨t', rfl⟩ := (show ∃ t', v = Value.int j t' from ry)
 exact PyProof.Rows.iadd_int ⟨.int (i + j), H, I.tok _, ⟨_, rfl⟩, q⟩
theorem zgd : InOp X .Sub rSub := by
 rintro pins s σ H x y u v Q I rx ry ⟨i, j, rfl, rfl, q⟩
 obtain ⟨t, rfl⟩ := (show ∃ t, u = Value.int i t from rx)
 obtain ⟨t', rfl⟩ := (show ∃ t', v = Value.int j t' from ry)
 exact PyProof.Rows.isub_int ⟨.int (i - j), H, I.tok _, ⟨_, rfl⟩, q⟩
theorem methcall_of {pl : Sem Bool} {m : Str} {apos : Pos} {args : List Expr} {pins : List (Addr × Obj)} {s : Shared} {σ : St} {H : Hp} {Q : Value → Shared → Prop} {te : TE} (he : PE X e te) (I : Inv X pins σ H s)
  (h : te σ H fun x H1 => ∃ a C dx fs g, x = .ref a ∧ H1 a = some (.ins C dx fs) ∧ Cls X.K C ∧ Meth X.K C m g ∧ fs.lookup m = none ∧
   ∀ s1, Inv X pins σ H1 s1 → wpAny (model X.prog X.w) X.A (callWith pos (.ref g) [.ref a] (backTo pos (starEach args X.env)) (backToKw pos (keywordEach [] X.env))) Q X.xe s1)
  (ht : eval (.Call (.Attribute e m apos) args [] pos) X.env = (do
   let ov ← eval e X.env
   standAt apos.atName
   let (f, first) ← holding [ov] (getMethod ov m pl)
   callWith pos f first (backTo pos (starEach args X.env)) (backToKw pos (keywordEach [] X.env)))) :
  wpAny (model X.prog X.w) X.A (eval (.Call (.Attribute e m apos) args [] pos) X.env) Q X.xe s := by
 refine W.methodCall_KW (pl := pl) (thn (he pins s σ H _ I h) fun u s1 ⟨x, H1, I1, rx, a, C, dx, fs, g, ex, ea, c, k, l, q⟩ => ?_) ht
 subst ex
 obtain rfl : u = Value.ref a := rx
 exact zcj I1 ea c k l (q s1 I1)
end
section
variable {X : Cx} {pins : List (Addr × Obj)} {σ : St} {H : Hp} {s : Shared} {A : Around} {E : Value → Shared → Prop} {Q : Value → Shared → Prop} {c : Value} {b : Bool}
inductive TyOf (K : W.Frag) (H : Hp) : V → Value → Prop where
 | non : TyOf K H .non (.type "NoneType")
 | bl (x : Bool) : TyOf K H (.bl x) (.type "bool")
 | int (i : Int) : TyOf K H (.int i) (.type "int")
 | str (x : Str) : TyOf K H (.str x) (.type "str")
 | flt (x : UInt64) : TyOf K H (.flt x) (.type "float")
 | lst {a : Addr} {xs : List V} (e : H a = some (.lst xs)) : TyOf K H (.ref a) (.type "list")
 | frz {a : Addr} {o : Obj} {xs : List V} (e : H a = some (.frz o (.lst xs))) : TyOf K H (.ref a) (.type "list")
 | tup {a : Addr} {xs : List V} (e : H a = some (.tup xs)) : TyOf K H (.ref a) (.type "tuple")
 | dK {a : Addr} {kvs : List (Key × V)} (e : H a = some (.dK kvs)) : TyOf K H (.ref a) (.type "dict")
 | dT {a : Addr} {kvs : List (List Key × V)} (e : H a = some (.dT kvs)) : TyOf K H (.ref a) (.type "dict")
 | ins {a C dx : Addr} {fs : List (Str × V)} (e : H a = some (.ins C dx fs)) (cl : Cls K C) (ha : W.findIn K (.ref C) "__class__" = some (some (.builtin "object.__class__")))
   (hn : W.specialIn K (.builtin "object.__class__") "__get__" = some (some (.builtin "getset_descriptor.__get__"))) (htk : W.takesIn K (.builtin "object.__class__") = some true)
   (hm : W.mroIn K C (.type "object") = some true) : TyOf K H (.ref a) (.ref C)
theorem isinst_ok {x : V} {u t : Value} (I : Inv X pins σ H s) (rx : RelV x u) (ty : TyOf X.K H x t) (e : W.kitOne X.K t c = some b) (h : ∀ tk, Q (.bool b) { s with toks := tk }) :
  wpAny (model X.prog X.w) A (call (.builtin "isinstance") [u, c]) Q E s := by
 cases ty with
 | non => cases (show u = Value.none from rx); exact W.kia_one W.kitx_none I.kIn True.intro e (fun z => nomatch z) h
 | bl y => cases (show u = Value.bool y from rx); exact W.kia_one W.kitx_bool I.kIn True.intro e (fun z => nomatch z) h
 | int i => obtain ⟨t, q⟩ := (show ∃ t, u = Value.int i t from rx); cases q; exact W.kia_one W.kitx_int I.kIn True.intro e (fun z => nomatch z) h
 | str y => obtain ⟨t, q⟩ := (show ∃ t, u = Value.str y t from rx); cases q; exact W.kia_one W.kitx_str I.kIn True.intro e (fun z => nomatch z) h
 | flt y => obtain ⟨t, q⟩ := (show ∃ t, u = Value.float y t from rx); cases q; exact W.kia_one W.kitx_float I.kIn True.intro e (fun z => nomatch z) h
 | @lst a xs ea =>
  cases (show u = Value.ref a from rx)
  obtain ⟨_, _, n, _, h1⟩ := (show jp X.prog X.w H s.heap a (.lst xs) from I.hok a _ ea)
  exact W.kia_one W.kitx_list I.kIn ⟨_, h1, rfl⟩ e (fun z => nomatch z) h
 | @frz a ob xs ea =>
  cases (show u = Value.ref a from rx)
  obtain ⟨_, _, _, n, _, h1⟩ := (show jp X.prog X.w H s.heap a (.frz ob (.lst xs)) from I.hok a _ ea)
  exact W.kia_one W.kitx_list I.kIn ⟨_, h1, rfl⟩ e (fun z => nomatch z) h
 | @tup a xs ea =>
  cases (show u = Value.ref a from rx)
  obtain ⟨_, _, _, p⟩ := (show jp X.prog X.w H s.heap a (.tup xs) from I.hok a _ ea)
  obtain ⟨o, h1, h2, _⟩ := p
  exact W.kia_one W.kitx_tuple I.kIn ⟨o, h1, h2⟩ e (fun z => nomatch z) h
 | @dK a kvs ea =>
  cases (show u = Value.ref a from rx)
  obtain ⟨_, _, vs, _, p⟩ := (show jp X.prog X.w H s.heap a (.dK kvs) from I.hok a _ ea)
  obtain ⟨o, es, ep, h1, h2, _⟩ := p
  exact W.kia_one W.kitx_dict I.kIn ⟨o, h1, h2.1⟩ e (fun z => nomatch z) h
 | @dT a kvs ea =>
  cases (show u = Value.ref a from rx)
  obtain ⟨_, _, xs, _, o, es, ep, h1, h2, _⟩ := (show jp X.prog X.w H s.heap a (.dT kvs) from I.hok a _ ea)
  exact W.kia_one W.kitx_dict I.kIn ⟨o, h1, h2.1⟩ e (fun z => nomatch z) h
 | @ins a C dx fs ea cl ha hn htk hm =>
  cases (show u = Value.ref a from rx)
  obtain ⟨mA, O, _⟩ := zdo I.hok ea
  obtain ⟨od, J, _⟩ := O.look
  exact W.kia_one (W.kitx_own (cl.get _) cl.hd ha hn htk hm) I.kIn J e (fun z => nomatch z) h
end
structure Room (k : Nat) (A : Around) : Prop where
 hd : A.handled = none
 dp : A.depth + 3 * k + 5 < recursionLimit
 un : A.units + 16 * k + 200 < cLine
theorem Room.mono {j k : Nat} {A : Around} (r : Room k A) (h : j ≤ k) : Room j A := ⟨r.hd, by have := r.dp; omega, by have := r.un; omega⟩
theorem Room.deeper {k : Nat} {A : Around} (r : Room (k + 1) A) (env : Env) : Room k (A.deeper env) :=
 ⟨r.hd, by have := r.dp; show A.depth + 1 + 3 * k + 5 < _; omega, by have := r.un; show A.units + 3 + 16 * k + 200 < _; omega⟩
theorem make_depth {A : Around} {C : Addr} {us : List Value} {kw : List (Str × Value)} : (A.under (.builtin "type.__call__" ⟨.ref C :: us, kw⟩)).depth = A.depth + 1 := by
 first | rfl | simp [Around.under, Code.weight, Code.isCreation, Code.isGuard, Code.isCaller, Code.frames, Code.isFrame, guardIds]
theorem make_units {A : Around} {C : Addr} {us : List Value} {kw : List (Str × Value)} : (A.under (.builtin "type.__call__" ⟨.ref C :: us, kw⟩)).units = A.units + 1 := by
 first | rfl | simp [Around.under, Code.cUnits, Code.frames, Code.isFrame]
theorem Room.make {k : Nat} {A : Around} (r : Room (k + 1) A) (C : Addr) (us : List Value) (kw : List (Str × Value)) : Room k (A.under (.builtin "type.__call__" ⟨.ref C :: us, kw⟩)) :=
 ⟨r.hd, by have := r.dp; rw [make_depth]; omega, by have := r.un; rw [make_units]; omega⟩
theorem Room.depth {k : Nat} {A : Around} (r : Room k A) : A.depth < recursionLimit := by have := r.dp; omega
theorem Room.units0 {k : Nat} {A : Around} (r : Room k A) : A.units < cLine := by have := r.un; omega
noncomputable def tNil : TA := fun _ H Q => Q [] H
noncomputable def zeh (ta : TE) (tr : TA) : TA := fun σ H Q => ta σ H fun x H1 => tr σ H1 fun xs H2 => Q (x :: xs) H2
section
variable {X : Cx} {e : Expr} {es : List Expr} {te : TE} {t : TA} {pos : Pos}
theorem zb : PA X [] tNil := fun _ _ _ _ H Q I h => Calls.spliced_nil ⟨[], H, I, .nil, h⟩
theorem za (ha : PE X e te) (hr : PA X es t) (hs : starEach (e :: es) X.env = (false, eval e X.env) :: starEach es X.env := by rfl) : PA X (e :: es) (zeh te t) := by
 intro pos pins s σ H Q I h
 rw [hs]
 show wpAny _ _ (spliced ((false, eval e X.env) :: backTo pos (starEach es X.env))) _ _ s
 refine Calls.spliced_cons (thn (ha pins s σ H _ I h) fun u s1 ⟨x, H1, I1, r1, q1⟩ => ?_)
 exact thn (hr pos pins s1 σ H1 _ I1 q1) fun us s2 ⟨xs, H2, I2, r2, q2⟩ => ⟨x :: xs, H2, I2, .cons r1 r2, q2⟩
noncomputable def tTup (t : TA) : TE := fun σ H Q => t σ H fun xs H1 => xs.length ≤ sizeLine ∧ ∀ p, H1 p = none → Q (.ref p) (upd H1 p (.tup xs))
noncomputable def tLst (t : TA) : TE := fun σ H Q => t σ H fun xs H1 => xs.length ≤ sizeLine ∧ ∀ p, H1 p = none → Q (.ref p) (upd H1 p (.lst xs))
theorem qb {x1} (h : PA X es t) : PE X (.Tuple es x1 pos) (tTup t) := by
 intro pins s σ H Q I hq
 refine wpAny_Tuple_spliced (thn (h pos pins s σ H _ I hq) fun us s1 ⟨xs, H1, I1, r, z, q⟩ => ⟨by rw [← r.length]; exact z, ?_⟩)
 have hf : H1 s1.heap.objs.size = none := I1.hok.fresh (Nat.le_refl _)
 refine ⟨.ref s1.heap.objs.size, upd H1 s1.heap.objs.size (.tup xs), I1.laid (t' := s1.toks) (fun b u e => Heap.get?_push_of_some _ e) (Nat.le_refl _) ?_, rfl, q _ hf⟩
 exact ⟨z, us, r, ⟨_, Heap.get?_push_size _ rfl, rfl, _, rfl⟩⟩
theorem ql (h : PA X es t) : PE X (.List es pos) (tLst t) := by
 intro pins s σ H Q I hq
 refine wpAny_List_spliced (thn (h pos pins s σ H _ I hq) fun us s1 ⟨xs, H1, I1, r, z, q⟩ => ⟨by rw [← r.length]; exact z, ?_⟩)
 have hf : H1 s1.heap.objs.size = none := I1.hok.fresh (Nat.le_refl _)
 refine ⟨.ref s1.heap.objs.size, upd H1 s1.heap.objs.size (.lst xs), I1.laid (t' := s1.toks) (fun b u e => Heap.get?_push_of_some _ e) (Nat.le_refl _) ?_, rfl, q _ hf⟩
 exact ⟨z, us, 0, r, Heap.get?_push_size _ rfl⟩
end
noncomputable abbrev Sp := List V → Hp → VK → XK → Prop
noncomputable abbrev CXT := List Env → Hp → Shared → XK → Value → Shared → Prop
structure Env0 (P : Program) (w : World) (K : W.Frag) (mg : Str → Option Value) (base : Heap) (A : Around) (outer : List Env) (s : Shared) (H : Hp) : Prop where
 frames : A.frames = some outer
 mod : Mod K mg base
 bs : ∀ b o, base.get? b = some o → s.heap.get? b = some o ∧ H b = none
 bsz : base.objs.size ≤ s.heap.objs.size
 funs : s.heap.FunFrames base outer
 frf : ∀ b ∈ frs outer, H b = none
 hok : HOk P w H s.heap
 bare : AllBare s.gens
noncomputable def CE (outer : List Env) (P : Program) (w : World) (H : Hp) (s : Shared) (Q : VK) (u : Value) (s' : Shared) : Prop :=
 ∃ v H', s'.os = s.os ∧ AllBare s'.gens ∧ Un (frs outer) [] H H' s.heap s'.heap ∧ HOk P w H' s'.heap ∧ RelV v u ∧ Q v H'
noncomputable def CR (CX : CXT) (outer : List Env) (P : Program) (w : World) (H : Hp) (s : Shared) (Q : VK) (E : XK) (r : Result) (s' : Shared) : Prop :=
 match r with
 | .ok (.ret u) => CE outer P w H s Q u s'
 | .ok _ => False
 | .error e => CX outer H s E e s'
structure FnOk (P : Program) (w : World) (K : W.Frag) (mg : Str → Option Value) (base : Heap) (CX : CXT) (k : Nat) (f : Addr) (fd : FuncData) (ps : List Str) (sp : Sp) : Prop where
 len : ∀ vs H Q E, sp vs H Q E → vs.length = ps.length
 run : ∀ (A : Around) (outer : List Env) (s : Shared) (H : Hp) (args : Args) (us : List Value) (vs : List V) (Q : VK) (E : XK), Room k A → Env0 P w K mg base A outer s H → BindsTo s fd args (ps.zip us) → Vals vs us → sp vs H Q E →
  codeAny (model P w) A (.call (.ref f) args) (CR CX outer P w H s Q E) s
theorem FnOk.mono {P : Program} {w : World} {K : W.Frag} {mg : Str → Option Value} {base : Heap} {CX : CXT} {j k : Nat} {f : Addr} {fd : FuncData} {ps : List Str} {sp : Sp} (F : FnOk P w K mg base CX j f fd ps sp) (h : j ≤ k) :
  FnOk P w K mg base CX k f fd ps sp := ⟨F.len, fun A outer s H args us vs Q E hr => F.run A outer s H args us vs Q E (hr.mono h)⟩
theorem Env0.make {P : Program} {w : World} {K : W.Frag} {mg : Str → Option Value} {base : Heap} {A : Around} {outer : List Env} {s : Shared} {H : Hp} (e : Env0 P w K mg base A outer s H) (C : Addr) (us : List Value) (kw : List (Str × Value)) :
  Env0 P w K mg base (A.under (.builtin "type.__call__" ⟨.ref C :: us, kw⟩)) outer s H := ⟨by first | exact e.frames | (simpa [Around.under, Code.envs, Code.isFrame, pushEnvs] using e.frames), e.mod, e.bs, e.bsz, e.funs, e.frf, e.hok, e.bare⟩
section
variable {X : Cx} {pins : List (Addr × Obj)} {σ : St} {H : Hp} {s s' : Shared}
theorem Inv.env0 (I : Inv X pins σ H s) : Env0 X.prog X.w X.K X.mg X.base X.A X.stack s H :=
 ⟨I.ok.frames, I.ok.mod, I.bs, Nat.le_trans I.ok.bsz I.sz, I.stack, I.stkFree, I.hok, I.bare⟩
theorem Inv.after {Q : VK} {u : Value} (I : Inv X pins σ H s) (h : CE X.stack X.prog X.w H s Q u s') : EP X pins σ Q u s' := by
 obtain ⟨v, H', os, bare, un, hok, r, q⟩ := h
 obtain ⟨hh, g, d, t, os'⟩ := s'
 obtain rfl : os' = s.os := os
 exact ⟨v, H', I.call (h' := hh) (g' := g) (d' := d) (t' := t) (ch := []) un hok bare (fun b z => absurd z (by simp)), r, q⟩
end
noncomputable def tCall (sp : Sp) (dvs : List V) (E : XK) (t : TA) : TE := fun σ H Q => t σ H fun vs H1 => sp (vs ++ dvs) H1 Q E
noncomputable def tMeth (C : Addr) (m : Str) (sp : Sp) (dvs : List V) (E : XK) (ta : TE) (t : TA) : TE := fun σ H Q => ta σ H fun x H1 => ∃ a dx fs, x = .ref a ∧ H1 a = some (.ins C dx fs) ∧ fs.lookup m = none ∧
 t σ H1 fun vs H2 => sp (x :: (vs ++ dvs)) H2 Q E
noncomputable def tMake (C : Addr) (sp : Sp) (dvs : List V) (E : XK) (t : TA) : TE := fun σ H Q => t σ H fun vs H1 => ∀ x dx, H1 x = none → H1 dx = none → dx ≠ x →
 sp (.ref x :: (vs ++ dvs)) (upd (upd H1 dx (.own x)) x (.ins C dx [])) (fun v H2 => v = .non ∧ Q (.ref x) H2) E
noncomputable def zb1 (K : W.Frag) (fd : FuncData) (ps : List Str) (ds : List Value) : Prop :=
 ∀ (s : Shared) (us : List Value), K.In s.heap → (us ++ ds).length = ps.length → BindsTo s fd ⟨us, []⟩ (ps.zip (us ++ ds))
theorem zb1.all {K : W.Frag} {fd : FuncData} {ps : List Str} (h : ∀ us : List Value, us.length = ps.length → bindArgs fd ⟨us, []⟩ = pure (ps.zip us)) : zb1 K fd ps [] := fun s us _ hl => by
 rw [List.append_nil] at hl ⊢
 exact .of_eq (h us hl)
noncomputable def zcl (CX : CXT) (X : Cx) (E : XK) : Prop := ∀ (pins : List (Addr × Obj)) (σ : St) (H : Hp) (s : Shared) (e : Value) (s' : Shared), Inv X pins σ H s → CX X.stack H s E e s' → X.xe e s'
section
variable {X : Cx} {CX : CXT} {k : Nat} {f C : Addr} {fd : FuncData} {ps : List Str} {sp : Sp} {dvs : List V} {ds : List Value} {E : XK} {x m : Str} {p pos apos : Pos} {e o : Expr} {es : List Expr} {ta : TE} {t : TA}
theorem zf8 {pins : List (Addr × Obj)} {σ : St} {H : Hp} {s : Shared} {Q : VK} {us : List Value} {vs : List V} (F : FnOk X.prog X.w X.K X.mg X.base CX k f fd ps sp) (hr : Room k X.A) (hb : zb1 X.K fd ps ds) (hd : Vals dvs ds) (hx : zcl CX X E)
  (I : Inv X pins σ H s) (r : Vals vs us) (h : sp (vs ++ dvs) H Q E) : wpAny (model X.prog X.w) X.A (call (.ref f) us) (EP X pins σ Q) X.xe s := by
 have r2 : Vals (vs ++ dvs) (us ++ ds) := r.append hd
 have hl : (us ++ ds).length = ps.length := by rw [← r2.length]; exact F.len _ _ _ _ h
 refine wpAny_call (codeAny_mono (F.run X.A X.stack s H ⟨us, []⟩ (us ++ ds) (vs ++ dvs) Q E hr I.env0 (hb s us I.kIn hl) r2 h) fun r s' hq => ?_)
 cases r with
 | error e => exact hx pins σ H s e s' I hq
 | ok fl =>
  cases fl with
  | ret u => exact I.after hq
  | next => exact False.elim hq
  | brk => exact False.elim hq
  | cont => exact False.elim hq
theorem zk (F : FnOk X.prog X.w X.K X.mg X.base CX k f fd ps sp) (hr : Room k X.A) (hg : Gl X x) (hm : X.mg x = some (.ref f)) (hk : W.keepIn X.K (.ref f) = true) (hb : zb1 X.K fd ps ds) (hd : Vals dvs ds) (hx : zcl CX X E)
  (ha : PA X (e :: es) t) (hdb : (x == ("__debug__" : Str)) = false := by decide) (he : starEach (e :: es) X.env = (false, eval e X.env) :: starEach es X.env := by rfl) (hpl : (backTo pos (starEach es X.env)).any (·.1) = false := by rfl) :
  PE X (.Call (.Name x p) (e :: es) [] pos) (tCall sp dvs E t) := by
 intro pins s σ H Q I h
 refine wpAny_Call_Name_kw (ze7 I hg hm ?_ hdb)
 refine W.callWith_K (h₀ := X.base) I.ok.mod.kin hk (thn (ha pos pins s σ H _ I h) fun us s1 ⟨vs, H1, I1, r, q⟩ => ⟨I1.kIn, ?_⟩) he hpl
 exact zf8 F hr hb hd hx I1 r q
theorem x3 {pl : Sem Bool} (he : PE X o ta) (c : Cls X.K C) (hm : Meth X.K C m f) (F : FnOk X.prog X.w X.K X.mg X.base CX k f fd ps sp) (hr : Room k X.A) (hb : zb1 X.K fd ps ds) (hd : Vals dvs ds) (hx : zcl CX X E) (ha : PA X (e :: es) t)
  (hst : starEach (e :: es) X.env = (false, eval e X.env) :: starEach es X.env := by rfl) (hpl : (backTo pos (starEach es X.env)).any (·.1) = false := by rfl)
  (ht : eval (.Call (.Attribute o m apos) (e :: es) [] pos) X.env = (do
   let ov ← eval o X.env
   standAt apos.atName
   let (f, first) ← holding [ov] (getMethod ov m pl)
   callWith pos f first (backTo pos (starEach (e :: es) X.env)) (backToKw pos (keywordEach [] X.env))) := by rfl) :
  PE X (.Call (.Attribute o m apos) (e :: es) [] pos) (tMeth C m sp dvs E ta t) := by
 intro pins s σ H Q I h
 refine W.methodCall_KW (pl := pl) (thn (he pins s σ H _ I h) fun u s1 ⟨x, H1, I1, rx, a, dx, fs, ex, ea, l, q⟩ => ?_) ht
 subst ex
 obtain rfl : u = Value.ref a := rx
 refine zcj I1 ea c hm l ?_
 refine W.callWith_K (first := [.ref a]) (h₀ := X.base) I.ok.mod.kin hm.kp (thn (ha pos pins s1 σ H1 _ I1 q) fun us s2 ⟨vs, H2, I2, r, q2⟩ => ⟨I2.kIn, ?_⟩) hst hpl
 exact zf8 (us := .ref a :: us) (vs := .ref a :: vs) F hr hb hd hx I2 (.cons rfl r) q2
theorem j6 {pl : Sem Bool} (he : PE X o ta) (c : Cls X.K C) (hm : Meth X.K C m f) (F : FnOk X.prog X.w X.K X.mg X.base CX k f fd ps sp) (hr : Room k X.A) (hb : zb1 X.K fd ps ds) (hd : Vals dvs ds) (hx : zcl CX X E)
  (ht : eval (.Call (.Attribute o m apos) [] [] pos) X.env = (do
   let ov ← eval o X.env
   standAt apos.atName
   let (f, first) ← holding [ov] (getMethod ov m pl)
   callWith pos f first (backTo pos (starEach [] X.env)) (backToKw pos (keywordEach [] X.env))) := by rfl) :
  PE X (.Call (.Attribute o m apos) [] [] pos) (tMeth C m sp dvs E ta tNil) := by
 intro pins s σ H Q I h
 refine W.methodCall_KW (pl := pl) (thn (he pins s σ H _ I h) fun u s1 ⟨x, H1, I1, rx, a, dx, fs, ex, ea, l, q⟩ => ?_) ht
 subst ex
 obtain rfl : u = Value.ref a := rx
 refine zcj I1 ea c hm l ?_
 exact W.callWith_K0 (first := [.ref a]) I1.kIn hm.kp (zf8 (us := [.ref a]) (vs := [.ref a]) F hr hb hd hx I1 (.cons rfl .nil) q)
structure Mk (K : W.Frag) (C f : Addr) : Prop where
 makes : W.makesIn K C = true
 init : W.findIn K (.ref C) "__init__" = some (some (.ref f))
 fn : W.isFn K (.ref f) = true
 kp : W.keepIn K (.ref C) = true
theorem run_make {pins : List (Addr × Obj)} {σ : St} {H : Hp} {s : Shared} {Q : VK} {us : List Value} {vs : List V} (M : Mk X.K C f) (F : FnOk X.prog X.w X.K X.mg X.base CX k f fd ps sp) (hr : Room (k + 1) X.A) (hb : zb1 X.K fd ps ds) (hd : Vals dvs ds)
  (hx : zcl CX X E) (I : Inv X pins σ H s) (r : Vals vs us)
  (h : ∀ x dx, H x = none → H dx = none → dx ≠ x → sp (.ref x :: (vs ++ dvs)) (upd (upd H dx (.own x)) x (.ins C dx [])) (fun v H2 => v = .non ∧ Q (.ref x) H2) E) :
  wpAny (model X.prog X.w) X.A (call (.ref C) us) (EP X pins σ Q) X.xe s := by
 have hq := h (s.heap.objs.size + 1) s.heap.objs.size (I.hok.fresh (Nat.le_succ _)) (I.hok.fresh (Nat.le_refl _)) (Nat.ne_of_lt (Nat.lt_succ_self _))
 have I2 := Inv.made (C := C) I
 have r2 : Vals (V.ref (s.heap.objs.size + 1) :: (vs ++ dvs)) (Value.ref (s.heap.objs.size + 1) :: (us ++ ds)) := .cons rfl (r.append hd)
 have hl : (Value.ref (s.heap.objs.size + 1) :: us ++ ds).length = ps.length := by
  have e := r2.length
  rw [F.len _ _ _ _ hq] at e
  exact e.symm
 refine wpAny_call (make_map (f := f) I.kIn M.makes M.init (beq_iff_eq.mp M.fn) (codeAny_mono (F.run _ X.stack _ _ ⟨Value.ref (s.heap.objs.size + 1) :: us, []⟩ (Value.ref (s.heap.objs.size + 1) :: (us ++ ds)) _ _ E (hr.make C us [])
  (I2.env0.make C us []) (hb _ (Value.ref (s.heap.objs.size + 1) :: us) I2.kIn hl) r2 hq) fun r s' hq' => ?_))
 cases r with
 | error e => exact hx pins σ _ _ e s' I2 hq'
 | ok fl =>
  cases fl with
  | ret u =>
   obtain ⟨v, H', I3, rv, ev, q3⟩ := I2.after hq'
   subst ev
   exact ⟨rv, ⟨V.ref (s.heap.objs.size + 1), H', I3, rfl, q3⟩⟩
  | next => exact False.elim hq'
  | brk => exact False.elim hq'
  | cont => exact False.elim hq'
theorem pe_make (M : Mk X.K C f) (F : FnOk X.prog X.w X.K X.mg X.base CX k f fd ps sp) (hr : Room (k + 1) X.A) (hg : Gl X x) (hm : X.mg x = some (.ref C)) (hb : zb1 X.K fd ps ds) (hd : Vals dvs ds) (hx : zcl CX X E)
  (ha : PA X (e :: es) t) (hdb : (x == ("__debug__" : Str)) = false := by decide) (he : starEach (e :: es) X.env = (false, eval e X.env) :: starEach es X.env := by rfl) (hpl : (backTo pos (starEach es X.env)).any (·.1) = false := by rfl) :
  PE X (.Call (.Name x p) (e :: es) [] pos) (tMake C sp dvs E t) := by
 intro pins s σ H Q I h
 refine wpAny_Call_Name_kw (ze7 I hg hm ?_ hdb)
 refine W.callWith_K (h₀ := X.base) I.ok.mod.kin M.kp (thn (ha pos pins s σ H _ I h) fun us s1 ⟨vs, H1, I1, r, q⟩ => ⟨I1.kIn, ?_⟩) he hpl
 exact run_make M F hr hb hd hx I1 r q
end
section
variable {X : Cx} {CX : CXT} {k : Nat} {f C : Addr} {fd : FuncData} {ps ks : List Str} {sp : Sp} {E : XK} {x m : Str} {p pos apos kpos : Pos} {e o : Expr} {es : List Expr} {kws : List Keyword} {te ta : TE} {t tk : TA} {nm : Option Str}
variable {g : List Value → List Value → List Value} {gV : List V → List V → List V}
end
structure qh (N P : List Str) (sc : Scope) : Prop where
 kind : sc.kind = .function
 co : sc.isCoroutine = false
 gen : sc.isGenerator = false
 nd : N.Nodup
 pre : N.take P.length = P
 par : ∀ x ∈ P, sc.names.lookup x = some .local ∨ sc.names.lookup x = some .cell
 nofree : ∀ y ∈ sc.names, y.2 ≠ .free
theorem zew {kindOf : Str → Option NameKind} {x : Str} : ∀ {binds : List (Str × Value)} {m : Str → Option Value}, (∀ v, (x, v) ∉ binds) → bindL kindOf binds m x = m x
 | [], _, _ => rfl
 | (n, v) :: r, m, h => by
  unfold bindL
  rw [zew fun w hw => h w (List.mem_cons_of_mem _ hw)]
  split
  ·have : x ≠ n := by rintro rfl; exact h v List.mem_cons_self
   simp [this]
  ·rfl
theorem zey {kindOf : Str → Option NameKind} {x : Str} : ∀ {binds : List (Str × Value)} {m : Str → Option Value}, (∀ v, (x, v) ∉ binds) → bindC kindOf binds m x = m x
 | [], _, _ => rfl
 | (n, v) :: r, m, h => by
  unfold bindC
  rw [zey fun w hw => h w (List.mem_cons_of_mem _ hw)]
  split
  ·rfl
  ·have : x ≠ n := by rintro rfl; exact h v List.mem_cons_self
   simp [this]
theorem zex {kindOf : Str → Option NameKind} {x : Str} {v : Value} : ∀ {P : List Str} {vs : List Value} {i : Nat} {m : Str → Option Value}, P.Nodup → P[i]? = some x → vs[i]? = some v → kindOf x = some .local →
  bindL kindOf (P.zip vs) m x = some v
 | [], _, _, _, _, h, _, _ => by simp at h
 | _ :: _, [], _, _, _, _, h, _ => by simp at h
 | p :: P, w :: vs, 0, m, nd, h1, h2, hk => by
  simp at h1 h2; subst h1; subst h2
  show bindL kindOf ((p, w) :: P.zip vs) m p = _
  unfold bindL
  rw [zew fun v hv => (List.nodup_cons.mp nd).1 (List.of_mem_zip hv).1, if_pos hk]
  simp
 | p :: P, w :: vs, i + 1, m, nd, h1, h2, hk => by
  show bindL kindOf ((p, w) :: P.zip vs) m x = _
  unfold bindL
  exact zex (i := i) (List.nodup_cons.mp nd).2 (by simpa using h1) (by simpa using h2) hk
theorem zez {kindOf : Str → Option NameKind} {x : Str} {v : Value} : ∀ {P : List Str} {vs : List Value} {i : Nat} {m : Str → Option Value}, P.Nodup → P[i]? = some x → vs[i]? = some v → kindOf x ≠ some .local →
  bindC kindOf (P.zip vs) m x = some v
 | [], _, _, _, _, h, _, _ => by simp at h
 | _ :: _, [], _, _, _, _, h, _ => by simp at h
 | p :: P, w :: vs, 0, m, nd, h1, h2, hk => by
  simp at h1 h2; subst h1; subst h2
  show bindC kindOf ((p, w) :: P.zip vs) m p = _
  unfold bindC
  rw [zey fun v hv => (List.nodup_cons.mp nd).1 (List.of_mem_zip hv).1, if_neg hk]
  simp
 | p :: P, w :: vs, i + 1, m, nd, h1, h2, hk => by
  show bindC kindOf ((p, w) :: P.zip vs) m x = _
  unfold bindC
  exact zez (i := i) (List.nodup_cons.mp nd).2 (by simpa using h1) (by simpa using h2) hk
noncomputable def start (N : List Str) (vs : List V) : St := vs.map some ++ List.replicate (N.length - vs.length) none
noncomputable def cxOf (CX : CXT) (P : Program) (w : World) (K : W.Frag) (mg : Str → Option Value) (base : Heap) (N : List Str) (qual : Str) (scope : Scope) (f : Addr) (cd : Value) (A : Around) (outer : List Env) (s : Shared) (H : Hp) (E : XK) : Cx where
 prog := P
 w := w
 K := K
 mg := mg
 base := base
 A := A.deeper (envOfC qual scope s.heap.objs.size f cd)
 N := N
 s₀ := s
 H₀ := H
 env := envOfC qual scope s.heap.objs.size f cd
 outer := outer
 stack := envOfC qual scope s.heap.objs.size f cd :: outer
 ex := []
 calm := true
 fn := fun _ => true
 pn := []
 xe := fun e s' => wpAny (model P w) (A.deeper (envOfC qual scope s.heap.objs.size f cd)) (leaving (envOfC qual scope s.heap.objs.size f cd) e) (fun _ s'' => CX outer H s E e s'') (fun e' s'' => CX outer H s E e' s'') s'
theorem zf2 {sc : Scope} {n : Nat} {x : Str} (h : sc.names.lookup x = some .cell) : ∃ c, (cellsFrom n sc.names []).lookup x = some c := by
 have q := W.cellsFrom_some sc.names n [] (.inl h)
 exact Option.isSome_iff_exists.mp q
theorem inv_start {CX : CXT} {P : Program} {w : World} {K : W.Frag} {mg : Str → Option Value} {base : Heap} {N ps : List Str} {qual : Str} {scope : Scope} {f : Addr} {cd : Value} {A : Around} {outer : List Env} {s s1 : Shared} {H : Hp} {E : XK} {us : List Value} {vs : List V}
  (S : qh N ps scope) (hd : A.handled = none) (e0 : Env0 P w K mg base A outer s H) (hl : vs.length = ps.length) (r : Vals vs us)
  (x : InCallC s s.heap.objs.size (bindL (envOfC qual scope s.heap.objs.size f cd).kindOf (ps.zip us) fun _ => none) (cellsFrom (s.heap.objs.size + 1) scope.names []) (bindC (envOfC qual scope s.heap.objs.size f cd).kindOf (ps.zip us) fun _ => none) s1) :
  Inv (cxOf CX P w K mg base N qual scope f cd A outer s H E) [] (start N vs) H s1 := by
 have hpl : ps.length ≤ N.length := by have := congrArg List.length S.pre; rw [List.length_take] at this; omega
 obtain ⟨h1, tk, rfl, hk⟩ := x.done
 have noA : ∀ b : Addr, b ∉ (cxOf CX P w K mg base N qual scope f cd A outer s H E).ex := fun b z => absurd (show b ∈ ([] : List Addr) from z) (by simp)
 refine ⟨⟨e0.mod, S.kind, rfl, rfl, Nat.le_refl _, fun y z c h1 h2 => ?_, fun y hy => ?_, fun y c _ h => ?_, fun _ => hd, Around.frames_deeper e0.frames, .inr ⟨rfl, rfl⟩, fun b z => absurd z (noA b), e0.bs, e0.bsz, fun b _ _ => noA b, fun b z => absurd z (noA b), e0.funs, e0.frf⟩,
  rfl, e0.bare, Un.kept hk, ⟨_, x.toInCall.ns, fun i y v h1 h2 h3 => ?_⟩, fun y c h => ⟨_, x.cell y c h⟩, e0.hok.fresh (Nat.le_refl _), fun y c h => ?_, fun p hp => absurd (show p ∈ ([] : List (Addr × Obj)) from hp) (by simp), e0.hok.kept hk, ?_⟩
 ·exact name_of_addr x.apart (PySem.mem_of_lookup h1) (PySem.mem_of_lookup h2)
 ·have hy : scope.names.lookup y = some .cell ∨ scope.names.lookup y = some .free := hy
  rcases hy with hy | hy
  ·exact zf2 hy
  ·exact absurd rfl (S.nofree _ (PySem.mem_of_lookup hy))
 ·exact Nat.le_of_lt (x.above y c (PySem.mem_of_lookup h))
 ·have hi : i < vs.length := by
   unfold start at h2
   by_cases hi : i < vs.length
   ·exact hi
   ·rw [List.getElem?_append_right (by simpa using hi)] at h2
    rw [List.getElem?_replicate] at h2
    split at h2 <;> cases h2
  have ha : vs[i]? = some v := by
   unfold start at h2
   rw [List.getElem?_append_left (by simpa using hi), List.getElem?_map] at h2
   cases e : vs[i]? with
   | none => rw [e] at h2; cases h2
   | some a => rw [e] at h2; cases h2; rfl
  obtain ⟨u, hu, rv⟩ := r.get ha
  have hp : ps[i]? = some y := by
   rw [← S.pre, List.getElem?_take_of_lt (by omega)]; exact h1
  have ndP : ps.Nodup := by rw [← S.pre]; exact S.nd.sublist (List.take_sublist _ _)
  refine ⟨u, rv, ?_⟩
  rcases S.par y (List.mem_of_getElem? hp) with k | k
  ·exact .inl ⟨k, zex ndP hp hu k⟩
  ·obtain ⟨c, e⟩ := zf2 (n := s.heap.objs.size + 1) k
   refine .inr ⟨.inl k, c, e, ?_⟩
   have q := x.cell y c e
   rw [zez ndP hp hu (by show scope.names.lookup y ≠ _; rw [k]; decide)] at q
   exact q
 ·exact e0.hok.fresh (Nat.le_of_lt (x.above y c (PySem.mem_of_lookup h)))
 ·unfold start
  show _ = N.length
  rw [List.length_append, List.length_map, List.length_replicate]
  omega
theorem fn_of {CX : CXT} {P : Program} {w : World} {K : W.Frag} {mg : Str → Option Value} {base : Heap} {k : Nat} {f : Addr} {name qual : Str} {params : Arguments} {body : List Stmt} {scope : Scope} {dV kV doc pm cdv ct oc : Value} {an od : Option Addr}
  {osl : Array (Option Value)} {N ps : List Str} {sp : Sp} (lk : K.lookup f = some ⟨oc, od, .func (W.fnOf name qual params body scope dV kV doc pm an cdv ct), osl⟩) (hcd : W.codeIn K cdv qual = true) (S : qh N ps scope)
  (len : ∀ vs H Q E, sp vs H Q E → vs.length = ps.length)
  (hbody : ∀ (A : Around) (outer : List Env) (s : Shared) (H : Hp) (vs : List V) (Q : VK) (E : XK), Room k (A.deeper (envOfC qual scope s.heap.objs.size f cdv)) → sp vs H Q E →
   ∃ t, PSs (cxOf CX P w K mg base N qual scope f cdv A outer s H E) body t ∧ t { nx := fun _ H' => Q .non H', rt := Q } (start N vs) H) :
  FnOk P w K mg base CX (k + 1) f (W.fnOf name qual params body scope dV kV doc pm an cdv ct) ps sp := by
 refine ⟨len, fun A outer s H args us vs Q E hr e0 hb r hsp => ?_⟩
 have hl := len _ _ _ _ hsp
 have KX : K.In s.heap := e0.mod.kin.keeps fun b o e => (e0.bs b o e).1
 have lim : s.heap.NoLimit := e0.mod.nolimit.keeps fun b o e => (e0.bs b o e).1
 have hkind : ∀ y ∈ ps.zip us, scope.names.lookup y.1 = some .local ∨ (scope.names.lookup y.1 = some .cell ∧ ((cellsFrom (s.heap.objs.size + 1) scope.names []).lookup y.1).isSome = true) := fun ⟨n, v⟩ hy => by
  rcases S.par n (List.of_mem_zip hy).1 with q | q
  ·exact .inl q
  ·exact .inr ⟨q, W.cellsFrom_some _ _ _ (.inl q)⟩
 refine codeAny_call_function hr.depth (KX _ _ lk) rfl S.co S.gen rfl (W.codeRec_of KX hcd) (hb _ _ _ _ ?_)
 refine wpAny_newFunctionEnv_cells S.kind hkind fun env he s1 x => ?_
 subst he
 refine ⟨lim.keeps x.toInCall.keep, codeAny_func ?_⟩
 obtain ⟨t, ht, hq⟩ := hbody A outer s H vs Q E (hr.deeper _) hsp
 have I : Inv (cxOf CX P w K mg base N qual scope f cdv A outer s H E) [] (start N vs) H s1 := inv_start S hr.hd e0 hl r x
 refine wpAny_mono (ht [] s1 (start N vs) H _ I hq) (fun fl s' hs => ?_) fun e s' hs => hs
 have fin : ∀ {σ' : St} {H' : Hp} {v : V} {u : Value}, Inv (cxOf CX P w K mg base N qual scope f cdv A outer s H E) [] σ' H' s' → RelV v u → Q v H' → CE outer P w H s Q u s' :=
  fun {σ' H' v u} J rv q => ⟨v, H', J.os, J.bare, J.base, J.hok, rv, q⟩
 cases fl with
 | ret u =>
  obtain ⟨v, σ', H', J, rv, q⟩ := hs
  exact fin J rv q
 | next =>
  obtain ⟨σ', H', J, q⟩ := hs
  exact fin (v := V.non) (u := Value.none) J rfl q
 | brk =>
  obtain ⟨_, _, _, q⟩ := hs
  exact False.elim q
 | cont =>
  obtain ⟨_, _, _, q⟩ := hs
  exact False.elim q
section
variable {X : Cx} {x : Str} {p pos : Pos} {e : Expr} {es : List Expr} {t : TA} {id T : String} {r : List V → Hp → VK → Prop}
noncomputable def tCB (r : List V → Hp → VK → Prop) (t : TA) : TE := fun σ H Q => t σ H fun vs H1 => r vs H1 Q
theorem qk (hc : zcd X (.builtin id) r) (hg : Gl X x) (hm : X.mg x = none) (hv : bootBuiltins x = some (.builtin id)) (ha : PA X (e :: es) t) (hn : x ≠ "__name__" := by decide) (hdb : (x == ("__debug__" : Str)) = false := by decide)
  (he : starEach (e :: es) X.env = (false, eval e X.env) :: starEach es X.env := by rfl) (hpl : (backTo pos (starEach es X.env)).any (·.1) = false := by rfl) : PE X (.Call (.Name x p) (e :: es) [] pos) (tCB r t) := by
 intro pins s σ H Q I h
 refine wpAny_Call_Name_kw (zch I hg hm hv ?_ hn hdb)
 exact PyProof.Rows.callWith_builtin1 (thn (ha pos pins s σ H _ I h) fun us s1 ⟨vs, H1, I1, r1, q1⟩ => hc pins s1 σ H1 vs us Q I1 r1 q1) he hpl
theorem j0 (hc : zcd X (.type T) r) (hg : Gl X x) (hm : X.mg x = none) (hv : bootBuiltins x = some (.type T)) (ha : PA X (e :: es) t) (hn : x ≠ "__name__" := by decide) (hdb : (x == ("__debug__" : Str)) = false := by decide)
  (he : starEach (e :: es) X.env = (false, eval e X.env) :: starEach es X.env := by rfl) (hpl : (backTo pos (starEach es X.env)).any (·.1) = false := by rfl) : PE X (.Call (.Name x p) (e :: es) [] pos) (tCB r t) := by
 intro pins s σ H Q I h
 refine wpAny_Call_Name_kw (zch I hg hm hv ?_ hn hdb)
 exact PyProof.Rows.callWith_type1 (thn (ha pos pins s σ H _ I h) fun us s1 ⟨vs, H1, I1, r1, q1⟩ => hc pins s1 σ H1 vs us Q I1 r1 q1) he hpl
end
end L2
namespace HT
open PySem PyProof.Rows
section
open PySem.SeqAt
open PySem.AutoSeq1 (wpAny_loadPart')
open PySem.MeetsSeq PySem.MeetsSeq2 PySem.MeetsSeq3
end
section
variable {prog : Program} {w : World} {A : Around} {E : Value → Shared → Prop} {s : Shared}
noncomputable def sIx (n d : Nat) : Option Int → Nat
 | none => d
 | some v => if v < 0 then (v + (n : Int)).toNat else min v.toNat n
theorem sIx_le (n d : Nat) (hd : d ≤ n) (o : Option Int) : sIx n d o ≤ n := by
 cases o with
 | none => exact hd
 | some v =>
  show (if v < 0 then (v + (n : Int)).toNat else min v.toNat n) ≤ n
  by_cases hv : v < 0
  ·rw [if_pos hv]; omega
  ·rw [if_neg hv]; exact Nat.min_le_right _ _
theorem clip_eq (v : Int) (n d : Nat) : (if v < 0 then max (v + (n : Int)) 0 else min v (n : Int)) = ((sIx n d (some v) : Nat) : Int) := by
 show (if v < 0 then max (v + (n : Int)) 0 else min v (n : Int)) = (((if v < 0 then (v + (n : Int)).toNat else min v.toNat n) : Nat) : Int)
 by_cases hv : v < 0
 ·simp only [if_pos hv]; omega
 ·simp only [if_neg hv]; omega
theorem adjust_gen (lo hi : Option Int) (n : Nat) : Builtin.Slice.sliceAdjust lo hi 1 (n : Int) = (((sIx n 0 lo : Nat) : Int), ((sIx n n hi : Nat) : Int)) := by
 have h1 : ¬ ((1 : Int) < 0) := by omega
 unfold Builtin.Slice.sliceAdjust
 simp only [h1, if_false]
 refine Prod.ext ?_ ?_
 ·cases lo with
  | none => rfl
  | some v => exact clip_eq v n 0
 ·cases hi with
  | none => rfl
  | some v => exact clip_eq v n n
theorem places_gen (i j : Nat) : Builtin.Slice.slicePlaces (i : Int) (j : Int) 1 = j - i := by
 unfold Builtin.Slice.slicePlaces
 have h1 : (1 : Int) > 0 := by omega
 simp only [h1, if_true, Int.ediv_one]
 split <;> omega
theorem zdr {v : Value} {o : Option Int} {Q : Option Int → Shared → Prop} (p : IsPart v o) (h : Q o s) : wpAny (model prog w) A (Builtin.Slice.slicePartIndex v) Q E s := by
 cases p with
 | none => exact slicePart_none h
 | int i t => exact slicePart_int h
theorem sliceApplied_gen {sl : Addr} {vl vu : Value} {lo hi : Option Int} {n : Nat} {Q : Int × Int × Nat → Shared → Prop} (hs : s.heap.IsSliceOf sl vl vu .none) (pl : IsPart vl lo) (pu : IsPart vu hi)
  (h : Q (((sIx n 0 lo : Nat) : Int), 1, sIx n n hi - sIx n 0 lo) s) : wpAny (model prog w) A (Builtin.Slice.sliceApplied (.ref sl) (pure (n : Int))) Q E s := by
 obtain ⟨os, hos, hcs, hds⟩ := id hs
 unfold Builtin.Slice.sliceApplied Builtin.Slice.sliceFields
 refine wpAny_bind (wpAny_bind (wpAny_field hos hds (x := vl) rfl (wpAny_bind (wpAny_field hos hds (x := vu) rfl (wpAny_bind (wpAny_field hos hds (x := .none) rfl (wpAny_pure ?_)))))))
 refine wpAny_bind (slicePart_none ?_)
 show wpAny _ _ (if ((1 : Int) == 0) = true then _ else _) _ _ s
 rw [if_neg (by decide)]
 refine wpAny_bind (zdr pl (wpAny_bind (zdr pu (wpAny_bind (wpAny_pure ?_)))))
 show wpAny _ _ (match Builtin.Slice.sliceAdjust lo hi 1 (n : Int) with | (lo, hi) => pure (lo, (1 : Int), Builtin.Slice.slicePlaces lo hi 1)) _ _ s
 rw [adjust_gen lo hi n]
 show wpAny _ _ (pure (((sIx n 0 lo : Nat) : Int), (1 : Int), Builtin.Slice.slicePlaces ((sIx n 0 lo : Nat) : Int) ((sIx n n hi : Nat) : Int) 1)) _ _ s
 rw [places_gen]
 exact wpAny_pure h
theorem pick_gen (xs : Array Value) (i k : Nat) : ((List.range k).filterMap fun (m : Nat) => xs[((i : Int) + (m : Int) * 1).toNat]?).toArray = ((xs.toList.drop i).take k).toArray := by
 have e : (fun (m : Nat) => xs[((i : Int) + (m : Int) * 1).toNat]?) = fun m => xs[i + m]? := by
  funext m
  have : ((i : Int) + (m : Int) * 1).toNat = i + m := by omega
  rw [this]
 rw [e]
 have := pick_run xs i k
 rw [List.filterMap_map] at this
 have e2 : ((fun x => xs[x]?) ∘ fun x => i + x) = fun m => xs[i + m]? := rfl
 rw [e2] at this
 rw [this]
theorem getItem_tuple_cut {t sl : Addr} {items : Array Value} {vl vu : Value} {lo hi : Option Int} {Q : Value → Shared → Prop} (ht : IsTup s.heap t items) (hs : s.heap.IsSliceOf sl vl vu .none) (pl : IsPart vl lo) (pu : IsPart vu hi)
  (hw : ¬ (sIx items.size 0 lo = 0 ∧ sIx items.size items.size hi = items.size))
  (h : Q (.ref s.heap.objs.size) { s with heap := s.heap.push { cls := .type "tuple", data := .seq ((items.toList.drop (sIx items.size 0 lo)).take (sIx items.size items.size hi - sIx items.size 0 lo)).toArray } })
  (hsz : items.size ≤ sizeLine) : wpAny (model prog w) A (getItem (.ref t) (.ref sl)) Q E s := by
 have htake : sizeOk (.seq ((items.toList.drop (sIx items.size 0 lo)).take (sIx items.size items.size hi - sIx items.size 0 lo)).toArray) := by
  show ((items.toList.drop (sIx items.size 0 lo)).take (sIx items.size items.size hi - sIx items.size 0 lo)).toArray.size ≤ sizeLine
  rw [List.size_toArray, List.length_take, List.length_drop, Array.length_toList]
  omega
 have hj : sIx items.size items.size hi ≤ items.size := sIx_le _ _ (Nat.le_refl _) hi
 obtain ⟨os, hos, hcs, hds⟩ := id hs
 have hTs : s.TypeIs (.ref sl) "slice" := ⟨os, hos, hcs⟩
 unfold getItem
 try with_reducible refine wpAny_holding ?_
 first | refine wpAny_bind (wpAny_pure ?_) | skip
 refine wpAny_bind (wpAny_sequenceKey ht.typeIs (by decide) ?_)
 refine wpAny_bind (wpAny_callSpecial?_slot (name := Str.ofString "__getitem__") ht.typeIs PyProof.Rows.slot_tuple_getitem
  (wpAny_call_entry PyProof.Rows.slot_tuple_getitem ht.typeIs entry_tuple_getitem ?_ (args_tuple_getitem _ _)))
 show wpAny _ _ (Builtin.Tuple.tupleItemsOf (.ref t) >>= _) _ _ s
 refine wpAny_bind (tupleItemsOf_ ht ?_)
 refine wpAny_bind (wpAny_typeOf hTs ?_)
 rw [if_pos (by decide)]
 refine wpAny_bind (sliceApplied_gen hs pl pu ?_)
 have hno : ¬ ((((sIx items.size 0 lo : Nat) : Int) == 0 && (1 : Int) == 1 && (sIx items.size items.size hi - sIx items.size 0 lo) == items.size) = true) := by
  intro q
  rw [Bool.and_eq_true, Bool.and_eq_true] at q
  have q1 : ((sIx items.size 0 lo : Nat) : Int) = 0 := eq_of_beq q.1.1
  have q2 : sIx items.size items.size hi - sIx items.size 0 lo = items.size := eq_of_beq q.2
  exact hw ⟨by omega, by omega⟩
 show wpAny _ _ (if (((sIx items.size 0 lo : Nat) : Int) == 0 && (1 : Int) == 1 && (sIx items.size items.size hi - sIx items.size 0 lo) == items.size) = true then _ else _) _ _ s
 rw [if_neg hno, pick_gen]
 first
  | exact wpAny_bind (m := Builtin.Tuple.tupleExact _) (wpAny_newObj_type (wpAny_pure ⟨_, rfl, wpAny_pure h⟩) htake)
  | exact wpAny_bind (m := Builtin.Tuple.tupleExact _) (wpAny_newObj_type (wpAny_bind (wpAny_pure (wpAny_pure ⟨_, rfl, wpAny_pure h⟩))) htake)
  | exact wpAny_bind (wpAny_bind (m := Builtin.Tuple.tupleExact _) (wpAny_newObj_type (wpAny_pure (wpAny_pure ⟨_, rfl, wpAny_pure h⟩)) htake))
  | exact wpAny_bind (wpAny_bind (m := Builtin.Tuple.tupleExact _) (wpAny_newObj_type (wpAny_pure ⟨_, rfl, wpAny_pure h⟩) htake))
end
end HT
namespace L2
open PySem PySem.Spec PyProof.Rows
noncomputable abbrev TO := St → Hp → (Option Int → Hp → Prop) → Prop
noncomputable def PO (X : Cx) (e : Option Expr) (t : TO) : Prop :=
 ∀ (pins : List (Addr × Obj)) (s : Shared) (σ : St) (H : Hp) (Q : Option Int → Hp → Prop), Inv X pins σ H s → t σ H Q →
  wpAny (model X.prog X.w) X.A (evalPart e X.env) (fun u s' => ∃ o H', Inv X pins σ H' s' ∧ IsPart u o ∧ Q o H') X.xe s
noncomputable def tNoPart : TO := fun _ H Q => Q none H
noncomputable def tPart (t : TE) : TO := fun σ H Q => t σ H fun x H1 => ∃ i, x = .int i ∧ Q (some i) H1
section
variable {X : Cx} {e : Expr} {te : TE} {lo hi : Option Expr} {tl th : TO} {pos p2 : Pos}
theorem zba : PO X none tNoPart := by
 intro pins s σ H Q I h
 rw [evalPart_none]
 exact wpAny_pure ⟨none, H, I, .none, h⟩
theorem kh (h : PE X e te) : PO X (some e) (tPart te) := by
 intro pins s σ H Q I hw
 rw [evalPart_some]
 refine thn (h pins s σ H _ I hw) fun u s1 ⟨x, H1, I1, r1, q1⟩ => ?_
 obtain ⟨i, rfl, q⟩ := q1
 obtain ⟨t, rfl⟩ := r1
 exact ⟨some i, H1, I1, .int i t, q⟩
noncomputable def SlR (X : Cx) (r : V → Option Int → Option Int → Hp → VK → Prop) : Prop :=
 ∀ (pins : List (Addr × Obj)) (s : Shared) (σ : St) (H : Hp) (x : V) (v vl vu : Value) (lo hi : Option Int) (sl : Addr) (Q : VK), Inv X pins σ H s → RelV x v → s.heap.IsSliceOf sl vl vu .none → IsPart vl lo → IsPart vu hi → r x lo hi H Q →
  ∃ T id, typeLookup (.type T) "__getitem__" = pure (some (.builtin id)) ∧ s.TypeIs v T ∧ wpAny (model X.prog X.w) X.A (getItem v (.ref sl)) (EP X pins σ Q) X.xe s
noncomputable def tSl (r : V → Option Int → Option Int → Hp → VK → Prop) (te : TE) (tl th : TO) : TE := fun σ H Q => te σ H fun x H1 => tl σ H1 fun l H2 => th σ H2 fun u H3 => r x l u H3 Q
theorem kj {r : V → Option Int → Option Int → Hp → VK → Prop} (hr : SlR X r) (he : PE X e te) (hl : PO X lo tl) (hu : PO X hi th) : PE X (.Subscript e (.Slice lo hi none p2) pos) (tSl r te tl th) := by
 intro pins s σ H Q I h
 refine Subscript_ (thn (he pins s σ H _ I h) fun v s1 ⟨x, H1, I1, r1, q1⟩ => ?_)
 refine wpAny_Slice (thn (hl pins s1 σ H1 _ I1 q1) fun vl s2 ⟨l, H2, I2, pl, q2⟩ => thn (hu pins s2 σ H2 _ I2 q2) fun vu s3 ⟨u, H3, I3, pu, q3⟩ => ?_)
 rw [evalPart_none]
 refine wpAny_pure ?_
 have I4 : Inv X pins σ H3 { s3 with heap := s3.heap.push { cls := .type "slice", data := .fields #[vl, vu, .none] } } := I3.kept (t' := s3.toks) fun b ob q => Heap.get?_push_of_some _ q
 obtain ⟨T, id, hT, ht, hg⟩ := hr pins { s3 with heap := s3.heap.push { cls := .type "slice", data := .fields #[vl, vu, .none] } } σ H3 x v vl vu l u s3.heap.objs.size Q I4 r1 (Heap.IsSliceOf.new ..) pl pu q3
 show wpAny (model X.prog X.w) X.A (subscriptTail e (.Slice lo hi none p2) v (.ref s3.heap.objs.size)) (EP X pins σ Q) X.xe { s3 with heap := s3.heap.push { cls := .type "slice", data := .fields #[vl, vu, .none] } }
 exact tail_any (ops := [.ref s3.heap.objs.size, v]) ht hT hg (by with_unfolding_all rfl)
noncomputable def cutV (xs : List V) (lo hi : Option Int) : List V := (xs.drop (HT.sIx xs.length 0 lo)).take (HT.sIx xs.length xs.length hi - HT.sIx xs.length 0 lo)
theorem zde (xs : List V) (lo hi : Option Int) : (cutV xs lo hi).length ≤ xs.length := by
 unfold cutV
 rw [List.length_take, List.length_drop]
 omega
noncomputable def rSlT (K : W.Frag) : V → Option Int → Option Int → Hp → VK → Prop := fun x lo hi H Q => ∃ a xs, x = .ref a ∧ SqT K H a xs ∧
 ¬ (HT.sIx xs.length 0 lo = 0 ∧ HT.sIx xs.length xs.length hi = xs.length) ∧ ∀ p, H p = none → Q (.ref p) (upd H p (.tup (cutV xs lo hi)))
theorem sl_tup : SlR X (rSlT X.K) := by
 intro pins s σ H x v vl vu lo hi sl Q I rx hs pl pu h
 obtain ⟨a, xs, rfl, hx, hw, q⟩ := h
 cases rx
 obtain ⟨its, r, ht, hz⟩ := I.tuple hx
 have hlen : its.toArray.size = xs.length := by rw [List.size_toArray]; exact r.length.symm
 refine ⟨"tuple", _, PyProof.Rows.slot_tuple_getitem.lookup, ht.typeIs, ?_⟩
 refine HT.getItem_tuple_cut ht hs pl pu (by rw [hlen]; exact hw) ?_ (by rw [hlen]; exact hz)
 rw [hlen]
 refine ⟨.ref s.heap.objs.size, _, I.laid (t' := s.toks) (o := .tup (cutV xs lo hi)) (fun b ob q => Heap.get?_push_of_some _ q) (Nat.le_refl _) ?_, rfl, q _ (I.hok.fresh (Nat.le_refl _))⟩
 exact ⟨Nat.le_trans (zde xs lo hi) hz, _, (r.drop (HT.sIx xs.length 0 lo)).take (HT.sIx xs.length xs.length hi - HT.sIx xs.length 0 lo), IsTup.new _ _⟩
end
noncomputable def ixN (n : Nat) (i : Int) : Option Nat := if 0 ≤ i then (if i < n then some i.toNat else none) else if -(n : Int) ≤ i then some (i + n).toNat else none
noncomputable def atI {α : Type} (xs : List α) (i : Int) : Option α := (ixN xs.length i).bind fun j => xs[j]?
theorem ixN_seq {n : Nat} {i : Int} {j : Nat} (h : ixN n i = some j) : seqIndex? i n = some j ∧ j < n ∧ -(n : Int) ≤ i ∧ i < n := by
 unfold ixN at h
 by_cases h0 : 0 ≤ i
 ·rw [if_pos h0] at h
  by_cases h1 : i < n
  ·rw [if_pos h1] at h
   have e : i.toNat = j := Option.some.inj h
   exact ⟨by rw [seqIndex_of h0 h1, e], by omega, by omega, h1⟩
  ·rw [if_neg h1] at h; cases h
 ·rw [if_neg h0] at h
  by_cases h1 : -(n : Int) ≤ i
  ·rw [if_pos h1] at h
   have e : (i + n).toNat = j := Option.some.inj h
   exact ⟨by rw [seqIndex_neg (by omega) h1, e], by omega, h1, by omega⟩
  ·rw [if_neg h1] at h; cases h
theorem zfe {α : Type} {xs : List α} {i : Int} {v : α} (h : atI xs i = some v) : ∃ j, seqIndex? i xs.length = some j ∧ xs[j]? = some v ∧ j < xs.length ∧ -(xs.length : Int) ≤ i ∧ i < xs.length := by
 unfold atI at h
 cases e : ixN xs.length i with
 | none => rw [e] at h; cases h
 | some j =>
  rw [e] at h
  obtain ⟨h1, h2, h3, h4⟩ := ixN_seq e
  exact ⟨j, h1, h, h2, h3, h4⟩
theorem zu {α : Type} {xs : List α} {j : Nat} {v : α} (h : xs[j]? = some v) : atI xs (j : Int) = some v := by
 have hj : j < xs.length := (List.getElem?_eq_some_iff.mp h).1
 have e : ixN xs.length (j : Int) = some j := by
  unfold ixN
  rw [if_pos (by omega), if_pos (by omega)]; simp
 unfold atI; rw [e]; exact h
theorem za6 {α : Type} (xs : List α) (v : α) : atI (xs ++ [v]) (-1) = some v := by
 have hl : (xs ++ [v]).length = xs.length + 1 := by simp
 have e : ixN (xs ++ [v]).length (-1) = some xs.length := by
  unfold ixN
  rw [hl, if_neg (by decide), if_pos (by omega)]
  congr 1
  omega
 unfold atI
 rw [e]
 show (xs ++ [v])[xs.length]? = some v
 simp
noncomputable def PlainIx (b : Expr) : Prop := ∀ o i, subscripted b false o i = operate [o, i] (getItem o i)
noncomputable def IxR (X : Cx) (r : R2) : Prop :=
 ∀ (value slice : Expr) (pins : List (Addr × Obj)) (s : Shared) (σ : St) (H : Hp) (x y : V) (v u : Value) (Q : VK), Inv X pins σ H s → RelV x v → RelV y u → r x y H Q →
  subscripted slice false v u = operate [v, u] (getItem v u) → wpAny (model X.prog X.w) X.A (subscriptTail value slice v u) (EP X pins σ Q) X.xe s
noncomputable def MtR (X : Cx) (id : String) (r : V → List V → Hp → VK → Prop) : Prop :=
 ∀ (pins : List (Addr × Obj)) (s : Shared) (σ : St) (H : Hp) (x : V) (xs : List V) (v : Value) (us : List Value) (Q : VK), Inv X pins σ H s → RelV x v → Vals xs us → r x xs H Q →
  wpAny (model X.prog X.w) X.A (call (.builtin id) (v :: us)) (EP X pins σ Q) X.xe s
section
variable {X : Cx} {a b : Expr} {ta tb : TE} {pos : Pos}
theorem zn {r : R2} (hr : IxR X r) (ha : PE X a ta) (hb : PE X b tb) (hs : PlainIx b) : PE X (.Subscript a b pos) (tOp r ta tb) := by
 intro pins s σ H Q I h
 exact Subscript_ (binT ha hb I h fun v u s2 x y H2 I2 rx ry q => hr a b pins s2 σ H2 x y v u Q I2 rx ry q (hs _ _))
noncomputable def rIxL (K : W.Frag) : R2 := fun x y H Q => ∃ p xs i v, x = .ref p ∧ y = .int i ∧ SqL K H p xs ∧ atI xs i = some v ∧ Q v H
noncomputable def rIxT (K : W.Frag) : R2 := fun x y H Q => ∃ p xs i v, x = .ref p ∧ y = .int i ∧ SqT K H p xs ∧ atI xs i = some v ∧ Q v H
noncomputable def rIxS : R2 := fun x y H Q => ∃ z i c, x = .str z ∧ y = .int i ∧ z.length ≤ sizeLine ∧ atI z.cps.toList i = some c ∧ Q (.str ⟨#[c]⟩) H
theorem qp : IxR X (rIxL X.K) := by
 intro value slice pins s σ H x y v u Q I rx ry h hs
 obtain ⟨p, xs, i, z, rfl, rfl, hq, he, q⟩ := h
 cases rx
 obtain ⟨t, rfl⟩ := ry
 obtain ⟨its, r, pl, hz⟩ := I.list hq
 obtain ⟨j, h1, h2, h3, h4, h5⟩ := zfe he
 obtain ⟨w, ew, rw'⟩ := r.get h2
 have hl := r.length
 have hn := zc4
 have fin : EP X pins σ Q w s := ⟨z, H, I, rw', q⟩
 by_cases h0 : 0 ≤ i
 ·have hj : i.toNat = j := by
   rw [seqIndex_of h0 h5] at h1
   exact Option.some.inj h1
  exact item_listR pl.isList h0 (by omega) (by rw [hj]; simpa using ew) fin hs
 ·have hj : (i + (its.toArray.size : Int)).toNat = j := by
   rw [seqIndex_neg (by omega) h4] at h1
   rw [List.size_toArray, ← hl]
   exact Option.some.inj h1
  exact subscriptTail_builtinR (x := w) pl.isList.typeIs slot_list_getitem.lookup
   (wpAny_getItem_list_neg (Q := fun r s' => r = w ∧ EP X pins σ Q r s') pl.isList (by omega) (by rw [List.size_toArray] <;> omega) (by omega) (by rw [hj]; simpa using ew) ⟨rfl, fin⟩) hs
theorem zm : IxR X (rIxT X.K) := by
 intro value slice pins s σ H x y v u Q I rx ry h hs
 obtain ⟨p, xs, i, z, rfl, rfl, hq, he, q⟩ := h
 cases rx
 obtain ⟨t, rfl⟩ := ry
 obtain ⟨its, r, pl, hz⟩ := I.tuple hq
 obtain ⟨j, h1, h2, h3, h4, h5⟩ := zfe he
 obtain ⟨w, ew, rw'⟩ := r.get h2
 have hl := r.length
 have hn := zc4
 have fin : EP X pins σ Q w s := ⟨z, H, I, rw', q⟩
 exact subscriptTail_builtinR (x := w) pl.typeIs slot_tuple_getitem.lookup
  (getItem_tuple (j := j) (Q := fun r s' => r = w ∧ EP X pins σ Q r s') pl (by omega) (by omega) (by rw [List.size_toArray, ← hl]; exact h1) (by simpa using ew) ⟨rfl, fin⟩) hs
theorem ix_str : IxR X rIxS := by
 intro value slice pins s σ H x y v u Q I rx ry h hs
 obtain ⟨z, i, c, rfl, rfl, hz, he, q⟩ := h
 obtain ⟨t, rfl⟩ := rx
 obtain ⟨t', rfl⟩ := ry
 obtain ⟨j, h1, h2, h3, h4, h5⟩ := zfe he
 have hl : z.cps.toList.length = z.length := by simp [Str.length]
 rw [hl] at h1 h4 h5
 have hn := zc4
 exact tail_any (typeIs_str s z t) slot_str_getitem.lookup (getItem_str (c := c) (by
  have e1 : decide (i < -(2 ^ 63 : Int)) = false := decide_eq_false (by omega)
  have e2 : decide (i ≥ 2 ^ 63) = false := decide_eq_false (by omega)
  rw [e1, e2, Bool.or_false]) (by rw [h1]; simpa using h2) ⟨.str ⟨#[c]⟩, H, I.tok _, ⟨_, rfl⟩, q⟩) hs
theorem mapSeq_set (its : List Value) (n j : Nat) (u : Value) : Obj.mapSeq (·.setIfInBounds j u) { cls := .type "list", data := .seq its.toArray n } = { cls := .type "list", data := .seq (its.set j u).toArray n } := by
 simp [Obj.mapSeq]
theorem Inv.lst {pins : List (Addr × Obj)} {σ : St} {H : Hp} {s : Shared} {p : Addr} {xs : List V} (I : Inv X pins σ H s) (h : H p = some (.lst xs)) :
  ∃ (its : List Value) (n : Nat), Vals xs its ∧ s.heap.get? p = some { cls := .type "list", data := .seq its.toArray n } ∧ xs.length ≤ sizeLine := by
 obtain ⟨z, its, n, r, e⟩ := I.hok p _ h
 exact ⟨its, n, r, e, z⟩
theorem Inv.lstUpd {pins : List (Addr × Obj)} {σ : St} {H : Hp} {s : Shared} {p : Addr} {xs ys : List V} {its its' : List Value} {n n' : Nat} {f : Obj → Obj} (I : Inv X pins σ H s) (h : H p = some (.lst xs))
  (ho : s.heap.get? p = some { cls := .type "list", data := .seq its.toArray n }) (hf : f { cls := .type "list", data := .seq its.toArray n } = { cls := .type "list", data := .seq its'.toArray n' }) (r : Vals ys its') (hz : ys.length ≤ sizeLine) (t : Nat) :
  Inv X pins σ (upd H p (.lst ys)) { s with heap := s.heap.update p f, toks := t } := by
 have e : (s.heap.update p f).get? p = some { cls := .type "list", data := .seq its'.toArray n' } := by
  rw [Heap.get?_update_self f ho (by rw [hf] <;> rfl), hf]
 refine I.write (x := p) (e := p) (by rw [h]; trivial) (.inl rfl) (fun b u hb q => (Heap.get?_update_other _ _ (Ne.symm hb)).trans q) ⟨_, e⟩ ?_
 exact ⟨hz, its', n', r, e⟩
noncomputable def rSetL : V → V → V → Hp → (Hp → Prop) → Prop := fun o i v H Q => ∃ p xs k j, o = .ref p ∧ i = .int k ∧ H p = some (.lst xs) ∧ ixN xs.length k = some j ∧ Q (upd H p (.lst (xs.set j v)))
theorem zbn : PSet X rSetL := by
 intro pins s σ H o i v ov iv u Q I ro ri rv h
 obtain ⟨p, xs, k, j, rfl, rfl, hp, hj, q⟩ := h
 cases ro
 obtain ⟨t, rfl⟩ := ri
 obtain ⟨its, n, r, ho, hz⟩ := I.lst hp
 obtain ⟨h1, h2, h3, h4⟩ := ixN_seq hj
 have hl := r.length
 have hn := zc4
 have I' : Inv X pins σ (upd H p (.lst (xs.set j v))) { s with heap := s.heap.update p (Obj.mapSeq (·.setIfInBounds j u)) } :=
  I.lstUpd hp ho (mapSeq_set its n j u) (r.set rv j) (by rw [List.length_set]; exact hz) s.toks
 by_cases h0 : 0 ≤ k
 ·have hk : k.toNat = j := by
   rw [seqIndex_of h0 h4] at h1
   exact Option.some.inj h1
  exact W.ki_setAt ho h0 (by omega) (by rw [List.size_toArray, ← hl]; exact h4) (by rw [hk]; exact ⟨_, I', q⟩)
 ·have hk : (k + (its.toArray.size : Int)).toNat = j := by
   rw [seqIndex_neg (by omega) h3] at h1
   rw [List.size_toArray, ← hl]
   exact Option.some.inj h1
  exact W.ki_setBack ho (by omega) (by rw [List.size_toArray, ← hl]; exact h3) (by omega) (by rw [hk]; exact ⟨_, I', q⟩)
theorem slice_bounds (lo hi : Option Int) (n : Nat) : (sliceBounds lo hi none n).1 = ((HT.sIx n 0 lo : Nat) : Int) ∧ (sliceBounds lo hi none n).2.1 = ((HT.sIx n n hi : Nat) : Int) ∧ (sliceBounds lo hi none n).2.2 = 1 := by
 refine ⟨?_, ?_, rfl⟩
 ·cases lo with
  | none => simp [sliceBounds, HT.sIx]
  | some i =>
   simp only [sliceBounds, HT.sIx, Option.getD_none, show (1 : Int) > 0 by decide, if_true]
   by_cases h : i < 0
   ·simp only [h, if_true] <;> omega
   ·simp only [h, if_false] <;> omega
 ·cases hi with
  | none => simp [sliceBounds, HT.sIx]
  | some i =>
   simp only [sliceBounds, HT.sIx, Option.getD_none, show (1 : Int) > 0 by decide, if_true]
   by_cases h : i < 0
   ·simp only [h, if_true] <;> omega
   ·simp only [h, if_false] <;> omega
theorem slicePick_cut (its : List Value) (lo hi : Option Int) : slicePick its.toArray lo hi none = ((its.drop (HT.sIx its.length 0 lo)).take (HT.sIx its.length its.length hi - HT.sIx its.length 0 lo)).toArray := by
 obtain ⟨h1, h2, h3⟩ := slice_bounds lo hi its.toArray.size
 unfold slicePick
 rw [h1, h2, h3]
 simp only [sliceRange_one, pick_run, List.size_toArray] <;> rfl
noncomputable def rSlL (K : W.Frag) : V → Option Int → Option Int → Hp → VK → Prop := fun x lo hi H Q => ∃ a xs, x = .ref a ∧ SqL K H a xs ∧ ∀ p, H p = none → Q (.ref p) (upd H p (.lst (cutV xs lo hi)))
theorem zb2 : SlR X (rSlL X.K) := by
 intro pins s σ H x v vl vu lo hi sl Q I rx hs pl pu h
 obtain ⟨a, xs, rfl, hx, q⟩ := h
 cases rx
 obtain ⟨its, r, ht, hz⟩ := I.list hx
 have hlen := r.length
 refine ⟨"list", _, slot_list_getitem.lookup, ht.isList.typeIs, ?_⟩
 refine wpAny_getItem_list_slice ht.isList hs pl pu .none (by simp) ?_ (by rw [List.size_toArray] <;> omega)
 rw [slicePick_cut, ← hlen]
 refine ⟨.ref s.heap.objs.size, _, I.laid (t' := s.toks) (o := .lst (cutV xs lo hi)) (fun b ob q => Heap.get?_push_of_some _ q) (Nat.le_refl _) ?_, rfl, q _ (I.hok.fresh (Nat.le_refl _))⟩
 exact ⟨Nat.le_trans (zde xs lo hi) hz, _, 0, (r.drop (HT.sIx xs.length 0 lo)).take (HT.sIx xs.length xs.length hi - HT.sIx xs.length 0 lo), Heap.get?_push_size _ rfl⟩
noncomputable def zcw : V → Bool
 | .non => true
 | .bl _ => true
 | .int _ => true
 | .str _ => true
 | _ => false
noncomputable def eqV : V → V → Bool
 | .non, .non => true
 | .bl a, .bl b => a == b
 | .bl a, .int b => (if a then 1 else 0) == b
 | .int a, .bl b => a == (if b then 1 else 0)
 | .int a, .int b => a == b
 | .str a, .str b => a == b
 | _, _ => false
theorem eqAt_V {A : Around} {s : Shared} {y x : V} {u v : Value} (ry : RelV y u) (rx : RelV x v) (fy : zcw y = true) (fx : zcw x = true) : SeqAt.EqAt A s u v (eqV y x) := by
 cases y with
 | non =>
  cases ry
  cases x with
  | non => cases rx; exact SeqAt.EqAt.same _
  | bl b => cases rx; exact SeqAt.EqAt.none_bool b
  | int b => obtain ⟨t, rfl⟩ := rx; exact SeqAt.EqAt.none_int b t
  | str b => obtain ⟨t, rfl⟩ := rx; exact SeqAt.EqAt.none_str b t
  | _ => exact absurd (show false = true from fx) Bool.false_ne_true
 | bl a =>
  cases ry
  cases x with
  | non => cases rx; exact SeqAt.EqAt.bool_none a
  | bl b => cases rx; exact SeqAt.EqAt.bool_bool a b
  | int b => obtain ⟨t, rfl⟩ := rx; exact SeqAt.EqAt.bool_int a b t
  | str b => obtain ⟨t, rfl⟩ := rx; exact SeqAt.EqAt.bool_str a b t
  | _ => exact absurd (show false = true from fx) Bool.false_ne_true
 | int a =>
  obtain ⟨t', rfl⟩ := ry
  cases x with
  | non => cases rx; exact SeqAt.EqAt.int_none a t'
  | bl b => cases rx; exact SeqAt.EqAt.int_bool a t' b
  | int b => obtain ⟨t, rfl⟩ := rx; exact SeqAt.EqAt.int_int a t' b t
  | str b => obtain ⟨t, rfl⟩ := rx; exact SeqAt.EqAt.int_str a t' b t
  | _ => exact absurd (show false = true from fx) Bool.false_ne_true
 | str a =>
  obtain ⟨t', rfl⟩ := ry
  cases x with
  | non => cases rx; exact SeqAt.EqAt.str_none a t'
  | bl b => cases rx; exact SeqAt.EqAt.str_bool a t' b
  | int b => obtain ⟨t, rfl⟩ := rx; exact SeqAt.EqAt.str_int a t' b t
  | str b => obtain ⟨t, rfl⟩ := rx; exact SeqAt.EqAt.str_str a t' b t
  | _ => exact absurd (show false = true from fx) Bool.false_ne_true
 | _ => exact absurd (show false = true from fy) Bool.false_ne_true
noncomputable def eqU (x : V) (u : Value) : Bool := match u with
 | .none => eqV .non x
 | .bool b => eqV (.bl b) x
 | .int i _ => eqV (.int i) x
 | .str z _ => eqV (.str z) x
 | _ => false
theorem eqU_of {x y : V} {u : Value} (r : RelV y u) (f : zcw y = true) : eqU x u = eqV y x := by
 cases y with
 | non => cases r; rfl
 | bl b => cases r; rfl
 | int i => obtain ⟨t, rfl⟩ := r; rfl
 | str z => obtain ⟨t, rfl⟩ := r; rfl
 | _ => exact absurd (show false = true from f) Bool.false_ne_true
theorem zc2 {x : V} : ∀ {xs : List V} {us : List Value}, Vals xs us → xs.all zcw = true → us.any (eqU x) = xs.any fun y => eqV y x
 | _, _, .nil, _ => rfl
 | y :: xs, u :: us, .cons r t, f => by
  rw [List.all_cons, Bool.and_eq_true] at f
  rw [List.any_cons, List.any_cons, eqU_of r f.1, zc2 t f.2]
theorem zbv {A : Around} {s : Shared} {x : V} {v : Value} (rx : RelV x v) (fx : zcw x = true) : ∀ {xs : List V} {us : List Value}, Vals xs us → xs.all zcw = true → ∀ u ∈ us, SeqAt.EqAt A s u v (eqU x u)
 | _, _, .nil, _ => fun u hu => by cases hu
 | y :: xs, u :: us, .cons r t, f => fun u' hu => by
  rw [List.all_cons, Bool.and_eq_true] at f
  rcases List.mem_cons.mp hu with rfl | hu
  ·rw [eqU_of r f.1]; exact eqAt_V r rx f.1 fx
  ·exact zbv rx fx t f.2 u' hu
noncomputable def inV (x : V) (xs : List V) : Bool := xs.any fun y => eqV y x
noncomputable def rIn (K : W.Frag) (neg : Bool) : R2 := fun x y H Q => ∃ p xs, y = .ref p ∧ (SqL K H p xs ∨ SqT K H p xs) ∧ zcw x = true ∧ xs.all zcw = true ∧ Q (.bl (if neg then !inV x xs else inV x xs)) H
theorem op_in_seq : OpR X (compareOp .In) (rIn X.K false) := by
 intro pins s σ H x y v u Q I rx ry h
 obtain ⟨p, xs, rfl, hq, fx, fs, q⟩ := h
 cases ry
 rcases hq with hq | hq
 ·obtain ⟨its, r, pl, hz⟩ := I.list hq
  refine SeqAt.in_listAt (eqU x) pl.isList (fun w hw => zbv rx fx r fs w (by simpa using hw)) ⟨.bl _, H, I, rfl, ?_⟩
  rw [show its.toArray.any (eqU x) = its.any (eqU x) by simp, zc2 r fs]
  exact q
 ·obtain ⟨its, r, pl, hz⟩ := I.tuple hq
  refine SeqAt.in_tupleAt (eqU x) pl (fun w hw => zbv rx fx r fs w (by simpa using hw)) ⟨.bl _, H, I, rfl, ?_⟩
  rw [show its.toArray.any (eqU x) = its.any (eqU x) by simp, zc2 r fs]
  exact q
theorem op_notIn_seq : OpR X (compareOp .NotIn) (rIn X.K true) := by
 intro pins s σ H x y v u Q I rx ry h
 obtain ⟨p, xs, rfl, hq, fx, fs, q⟩ := h
 cases ry
 rcases hq with hq | hq
 ·obtain ⟨its, r, pl, hz⟩ := I.list hq
  refine SeqAt.notIn_listAt (eqU x) pl.isList (fun w hw => zbv rx fx r fs w (by simpa using hw)) ⟨.bl _, H, I, rfl, ?_⟩
  rw [show its.toArray.any (eqU x) = its.any (eqU x) by simp, zc2 r fs]
  exact q
 ·obtain ⟨its, r, pl, hz⟩ := I.tuple hq
  refine SeqAt.notIn_tupleAt (eqU x) pl (fun w hw => zbv rx fx r fs w (by simpa using hw)) ⟨.bl _, H, I, rfl, ?_⟩
  rw [show its.toArray.any (eqU x) = its.any (eqU x) by simp, zc2 r fs]
  exact q
theorem qa : zcd X (.builtin "len") (fun xs H Q => ∃ p ys, xs = [.ref p] ∧ (SqL X.K H p ys ∨ SqT X.K H p ys) ∧ Q (.int ys.length) H) := by
 intro pins s σ H xs us Q I r h
 obtain ⟨p, ys, rfl, hq, q⟩ := h
 obtain ⟨u, rfl, rx⟩ := vals1 r
 cases rx
 have hn := zc4
 rcases hq with hq | hq
 ·obtain ⟨its, r', pl, hz⟩ := I.list hq
  have hlen := r'.length
  exact Calls.call_len_list pl.isList (by simp only [List.size_toArray] <;> omega) ⟨.int ys.length, H, I.tok _, ⟨s.toks + 1, by rw [List.size_toArray, hlen]⟩, q⟩
 ·obtain ⟨its, r', pl, hz⟩ := I.tuple hq
  have hlen := r'.length
  exact len_tuple pl (by simp only [List.size_toArray] <;> omega) ⟨.int ys.length, H, I.tok _, ⟨s.toks + 1, by rw [List.size_toArray, hlen]⟩, q⟩
theorem jf : zcd X (.type "list") (fun xs H Q => ∃ p ys, xs = [.ref p] ∧ (SqL X.K H p ys ∨ SqT X.K H p ys) ∧ ∀ l, H l = none → Q (.ref l) (upd H l (.lst ys))) := by
 intro pins s σ H xs us Q I r h
 obtain ⟨p, ys, rfl, hq, q⟩ := h
 obtain ⟨u, rfl, rx⟩ := vals1 r
 cases rx
 have fin : ∀ (its : List Value), Vals ys its → ys.length ≤ sizeLine → ∀ (h' : Heap) (c' : Nat), (∀ b o', s.heap.get? b = some o' → h'.get? b = some o') →
   h'.get? s.heap.objs.size = some { cls := .type "list", dict := none, data := .seq its.toArray c', slots := #[] } → EP X pins σ Q (.ref s.heap.objs.size) { s with heap := h' } := fun its r' hz h' c' kp e =>
  ⟨.ref s.heap.objs.size, _, I.laid (t' := s.toks) kp (Nat.le_refl _) (show jp X.prog X.w _ h' _ (.lst ys) from ⟨hz, its, c', r', e⟩), rfl, q _ (I.hok.fresh (Nat.le_refl _))⟩
 rcases hq with hq | hq
 ·obtain ⟨its, r', pl, hz⟩ := I.list hq
  have hlen := r'.length
  obtain ⟨o, ho, hc, n, hd⟩ := pl.isList
  exact call_list_seq p (.inl rfl) ho hc hd (fun h' c' kp e => fin its r' hz h' c' kp e) (by simp only [List.size_toArray] <;> omega)
 ·obtain ⟨its, r', pl, hz⟩ := I.tuple hq
  have hlen := r'.length
  obtain ⟨o, ho, hc, n, hd⟩ := pl
  exact call_list_seq p (.inr rfl) ho hc hd (fun h' c' kp e => fin its r' hz h' c' kp e) (by simp only [List.size_toArray] <;> omega)
noncomputable def tyV (K : W.Frag) (T : String) (x : V) (H : Hp) : Prop := match x with
 | .str _ => T = "str"
 | .int _ => T = "int"
 | .ref p => (T = "list" ∧ ∃ xs, SqL K H p xs) ∨ (T = "tuple" ∧ ∃ o, K.lookup p = some o ∧ o.cls = .type "tuple" ∧ o.dict = none) ∨
   (T = "dict" ∧ ((∃ kvs, H p = some (.dK kvs)) ∨ ∃ kvs, H p = some (.dT kvs))) ∨ (T = "set" ∧ ∃ S n, H p = some (.set S n))
 | _ => False
theorem tyV_is {pins : List (Addr × Obj)} {σ : St} {H : Hp} {s : Shared} {T : String} {x : V} {v : Value} (I : Inv X pins σ H s) (r : RelV x v) (ty : tyV X.K T x H) :
  s.TypeIs v T ∧ ∀ a, v = .ref a → ∃ ob, s.heap.get? a = some ob ∧ ob.dict = none := by
 cases x with
 | str z =>
  obtain ⟨t, rfl⟩ := r
  cases (show T = "str" from ty)
  exact ⟨typeIs_str s z t, fun _ e => nomatch e⟩
 | int i =>
  obtain ⟨t, rfl⟩ := r
  cases (show T = "int" from ty)
  exact ⟨typeIs_int s i t, fun _ e => nomatch e⟩
 | ref p =>
  cases r
  rcases ty with ⟨rfl, xs, hq⟩ | ⟨rfl, o, hk, hc, hd⟩ | ⟨rfl, hk⟩ | ⟨rfl, S, n, hk⟩
  ·obtain ⟨its, _, pl, _⟩ := I.list hq
   refine ⟨pl.isList.typeIs, fun a e => ?_⟩
   cases e
   obtain ⟨o, n, e, c, hd, _⟩ := pl
   exact ⟨o, e, hd⟩
  ·refine ⟨⟨o, I.kIn p o hk, hc⟩, fun a e => ?_⟩
   cases e
   exact ⟨o, I.kIn _ o hk, hd⟩
  ·have z : ∃ o, s.heap.get? p = some o ∧ o.ExactDict := by
    rcases hk with ⟨kvs, hk⟩ | ⟨kvs, hk⟩
    ·obtain ⟨_, _, _, _, o, _, _, e, ex, _⟩ := I.hok p _ hk
     exact ⟨o, e, ex⟩
    ·obtain ⟨_, _, _, _, o, _, _, e, ex, _⟩ := I.hok p _ hk
     exact ⟨o, e, ex⟩
   obtain ⟨o, e, ex⟩ := z
   refine ⟨⟨o, e, ex.1⟩, fun a e2 => ?_⟩
   cases e2
   exact ⟨o, e, ex.2.1⟩
  ·obtain ⟨o, _, _, _, e, ex, _⟩ := I.hok p _ hk
   refine ⟨⟨o, e, ex.1⟩, fun a e2 => ?_⟩
   cases e2
   exact ⟨o, e, ex.2.1⟩
 | _ => exact False.elim ty
noncomputable def tBM0 (K : W.Frag) (T : String) (r : V → List V → Hp → VK → Prop) (to : TE) : TE := fun σ H Q => to σ H fun x H1 => tyV K T x H1 ∧ r x [] H1 Q
noncomputable def tBM (K : W.Frag) (T : String) (r : V → List V → Hp → VK → Prop) (to : TE) (t : TA) : TE := fun σ H Q => to σ H fun x H1 => tyV K T x H1 ∧ t σ H1 fun xs H2 => r x xs H2 Q
variable {o e : Expr} {es : List Expr} {to : TE} {t : TA} {name : Str} {apos cpos : Pos} {T id : String} {r : V → List V → Hp → VK → Prop}
theorem wg (pa : PlainAttrs T) (slot : Slot T name id) (hty : typeOf (.builtin id) = pure (.type "method_descriptor")) (hm : MtR X id r) (ho : PE X o to)
  (hbase : attributeBase o name X.env (eval o X.env) = eval o X.env := by rfl) (hline : (apos.endLine == cpos.line) = true := by rfl) : PE X (.Call (.Attribute o name apos) [] [] cpos) (tBM0 X.K T r to) := by
 intro pins s σ H Q I h
 refine wpAny_Call_method0_late hbase hline (thn (ho pins s σ H _ I h) fun v s1 ⟨x, H1, I1, r1, ty, q1⟩ => ?_)
 obtain ⟨h1, h2⟩ := tyV_is I1 r1 ty
 exact ⟨T, id, pa, slot, hty, h1, h2, Calls.callWith_builtin rfl (PySem.evalArgs_none (hm pins s1 σ H1 x [] v [] Q I1 r1 .nil q1))⟩
theorem qx (pa : PlainAttrs T) (slot : Slot T name id) (hty : typeOf (.builtin id) = pure (.type "method_descriptor")) (hm : MtR X id r) (ho : PE X o to) (ha : PA X (e :: es) t)
  (hbase : attributeBase o name X.env (eval o X.env) = eval o X.env := by rfl)
  (hfew : ((backTo cpos (starEach (e :: es) X.env)).all (fun x => !x.1) && (backToKw cpos (keywordEach [] X.env)).all (fun x => x.1.isSome)
   && decide ((e :: es).length + ([] : List Keyword).length + (if ([] : List Keyword).isEmpty then 0 else 1) < 30)) = true := by rfl)
  (hline : (apos.endLine == cpos.line) = true := by rfl) (hs : starEach (e :: es) X.env = (false, eval e X.env) :: starEach es X.env := by rfl) (hplain : (backTo cpos (starEach es X.env)).any (·.1) = false := by rfl) :
  PE X (.Call (.Attribute o name apos) (e :: es) [] cpos) (tBM X.K T r to t) := by
 intro pins s σ H Q I h
 refine wpAny_Call_method_late hbase hfew hline rfl (thn (ho pins s σ H _ I h) fun v s1 ⟨x, H1, I1, r1, ty, q1⟩ => ?_)
 obtain ⟨h1, h2⟩ := tyV_is I1 r1 ty
 refine ⟨T, id, pa, slot, hty, h1, h2, ?_⟩
 have hA := ha cpos pins s1 σ H1 _ I1 q1
 rw [hs] at hA ⊢
 refine Calls.callWith_builtin (by show (false || (backTo cpos (starEach es X.env)).any (·.1)) = false; rw [hplain] <;> rfl) (Calls.evalArgs_plain ?_)
 exact thn hA fun us s2 ⟨vs, H2, I2, r2, q2⟩ => hm pins s2 σ H2 x vs v us Q I2 r1 r2 q2
end
noncomputable def MtM (X : Cx) (id : String) (r : V → List V → Hp → VK → Prop) : Prop :=
 ∀ (pins : List (Addr × Obj)) (s : Shared) (σ : St) (H : Hp) (x : V) (xs : List V) (v : Value) (us : List Value) (Q : VK), Inv X pins σ H s → RelV x v → Vals xs us → r x xs H Q →
  wpAny (model X.prog X.w) X.A (call (.builtin id) (v :: us)) (EP X pins σ Q) X.xe s
theorem Vals.one : ∀ {x : V} {us : List Value}, Vals [x] us → ∃ u, us = [u] ∧ RelV x u
 | _, _, .cons r .nil => ⟨_, rfl, r⟩
theorem Vals.zero : ∀ {us : List Value}, Vals [] us → us = []
 | _, .nil => rfl
theorem Vals.dropLast {xs : List V} {us : List Value} (h : Vals xs us) : Vals xs.dropLast us.dropLast := by
 induction h with
 | nil => exact .nil
 | cons r t ih =>
  cases t with
  | nil => exact .nil
  | cons q t' => exact .cons r ih
theorem erase_last {α : Type} (l : List α) : l.eraseIdx (l.length - 1) = l.dropLast := by
 induction l with
 | nil => rfl
 | cons a r ih =>
  cases r with
  | nil => rfl
  | cons b r =>
   have e : (a :: b :: r).length - 1 = ((b :: r).length - 1) + 1 := by
    have h1 : (a :: b :: r).length = r.length + 2 := rfl
    have h2 : (b :: r).length = r.length + 1 := rfl
    omega
   rw [e, List.eraseIdx_cons_succ, ih]
   all_goals rfl
section
variable {X : Cx} {pins : List (Addr × Obj)} {σ : St} {H : Hp} {s : Shared} {l b : Addr} {xs ys zs : List V}
theorem Inv.lset {its its' : List Value} {n : Nat} {f : Array Value → Array Value} {t' : Nat} (I : Inv X pins σ H s) (hH : H l = some (.lst xs))
  (e : s.heap.get? l = some { cls := .type "list", data := .seq its.toArray n }) (hf : f its.toArray = its'.toArray) (hv : Vals ys its') (hz : ys.length ≤ sizeLine) :
  Inv X pins σ (upd H l (.lst ys)) { s with heap := s.heap.update l (Obj.mapSeq f), toks := t' } := by
 have q := PySem.IsL.update e f
 rw [hf] at q
 refine I.write (x := l) (e := l) (by rw [hH]; exact trivial) (.inl rfl) (fun b' u hb hu => (Heap.get?_update_other s.heap (Obj.mapSeq f) (Ne.symm hb)).trans hu) ⟨_, q⟩ ?_
 exact ⟨hz, its', _, hv, q⟩
theorem Inv.lnew {its : List Value} {t' : Nat} (I : Inv X pins σ H s) (hv : Vals ys its) (hz : ys.length ≤ sizeLine) :
  Inv X pins σ (upd H s.heap.objs.size (.lst ys)) { s with heap := s.heap.push { cls := .type "list", data := .seq its.toArray }, toks := t' } :=
 I.laid (fun _ _ q => Heap.get?_push_of_some _ q) (Nat.le_refl _) ⟨hz, its, 0, hv, Heap.get?_push_size _ rfl⟩
theorem Inv.fresh (I : Inv X pins σ H s) : H s.heap.objs.size = none := I.hok.fresh (Nat.le_refl _)
theorem Inv.lstM (I : Inv X pins σ H s) (hH : H l = some (.lst xs)) : xs.length ≤ sizeLine ∧ ∃ (its : List Value) (n : Nat), Vals xs its ∧ xs.length = its.length ∧ s.heap.get? l = some { cls := .type "list", data := .seq its.toArray n } := by
 obtain ⟨z, its, n, r, e⟩ := I.hok l _ hH
 exact ⟨z, its, n, r, r.length, e⟩
theorem zft {n : Nat} (h : n ≤ sizeLine) : Builtin.List.listTooLong n = false := by
 unfold Builtin.List.listTooLong
 exact decide_eq_false (by omega)
end
section
variable {X : Cx}
noncomputable def rAppend : V → List V → Hp → VK → Prop := fun x vs H Q => ∃ l xs y, x = .ref l ∧ vs = [y] ∧ H l = some (.lst xs) ∧ xs.length < sizeLine ∧ Q .non (upd H l (.lst (xs ++ [y])))
theorem qo : MtM X "list.append" rAppend := by
 intro pins s σ H x vs v us Q I rx rv h
 obtain ⟨l, xs, y, rfl, rfl, hH, hz, q⟩ := h
 cases rx
 obtain ⟨u, rfl, ru⟩ := rv.one
 obtain ⟨z, its, n, r, hl, e⟩ := I.lstM hH
 refine call_meets F.slot_list_append ⟨_, e, rfl⟩ F.entry_list_append (F.args_list_append_2 _ _) (PySem.list_append l its.toArray n u (by rw [List.size_toArray]; omega)) ⟨e, ?_⟩
 refine ⟨.non, _, I.lset (its' := its ++ [u]) hH e (by simp) (r.append (.cons ru .nil)) ?_, rfl, q⟩
 rw [List.length_append, List.length_singleton]
 omega
noncomputable def rExtend : V → List V → Hp → VK → Prop := fun x vs H Q => ∃ l b xs zs, x = .ref l ∧ vs = [.ref b] ∧ H l = some (.lst xs) ∧ H b = some (.lst zs) ∧ xs.length + zs.length ≤ sizeLine ∧ Q .non (upd H l (.lst (xs ++ zs)))
theorem mt_extend : MtM X "list.extend" rExtend := by
 intro pins s σ H x vs v us Q I rx rv h
 obtain ⟨l, b, xs, zs, rfl, rfl, hH, hB, hz, q⟩ := h
 cases rx
 obtain ⟨u, rfl, ru⟩ := rv.one
 cases ru
 obtain ⟨z, its, n, r, hl, e⟩ := I.lstM hH
 obtain ⟨z2, its2, n2, r2, hl2, e2⟩ := I.lstM hB
 have hsz : its.toArray.size + its2.toArray.size ≤ sizeLine := by rw [List.size_toArray, List.size_toArray]; omega
 have hlong : ¬ (!its.toArray.isEmpty && Builtin.List.listTooLong (its.toArray.size + its2.toArray.size)) = true := by
  rw [zft hsz, Bool.and_false]
  exact Bool.false_ne_true
 refine call_meets F.slot_list_extend ⟨_, e, rfl⟩ F.entry_list_extend (F.args_list_extend_2 _ _)
  (AutoSeq1.list_extend_list_list_0 l its.toArray n b its2.toArray n2 hlong (by rw [List.size_toArray]; omega) (by omega)) ⟨e, e2, ?_⟩
 refine ⟨.non, _, I.lset (its' := its ++ its2) hH e (by simp) (r.append r2) ?_, rfl, q⟩
 rw [List.length_append]
 omega
noncomputable def rPop : V → List V → Hp → VK → Prop := fun x vs H Q => ∃ l xs y, x = .ref l ∧ vs = [] ∧ H l = some (.lst xs) ∧ xs[xs.length - 1]? = some y ∧ Q y (upd H l (.lst xs.dropLast))
theorem wj : MtM X "list.pop" rPop := by
 intro pins s σ H x vs v us Q I rx rv h
 obtain ⟨l, xs, y, rfl, rfl, hH, hy, q⟩ := h
 cases rx
 have hus := rv.zero
 subst hus
 obtain ⟨z, its, n, r, hl, e⟩ := I.lstM hH
 obtain ⟨u, hu, ru⟩ := r.get hy
 have hy' : its.toArray[its.toArray.size - 1]? = some u := by
  show its.toArray[its.length - 1]? = some u
  rw [← Array.getElem?_toList, ← hl]
  exact hu
 refine call_meets F.slot_list_pop ⟨_, e, rfl⟩ F.entry_list_pop (F.args_list_pop_1 _) (MeetsSeq.list_pop_last l its.toArray n u hy' (by rw [List.size_toArray]; omega)) ⟨e, ?_⟩
 refine ⟨y, _, I.lset (its' := its.dropLast) hH e ?_ r.dropLast ?_, ru, q⟩
 ·show its.toArray.eraseIdxIfInBounds (its.toArray.size - 1) = its.dropLast.toArray
  rw [List.size_toArray, List.eraseIdxIfInBounds_toArray, erase_last]
 ·rw [List.length_dropLast]
  omega
noncomputable def rCat : R2 := fun x y H Q => ∃ l b xs zs, x = .ref l ∧ y = .ref b ∧ H l = some (.lst xs) ∧ H b = some (.lst zs) ∧ xs.length + zs.length ≤ sizeLine ∧ ∀ p, H p = none → Q (.ref p) (upd H p (.lst (xs ++ zs)))
theorem qr : OpR X (binaryOp .Add) rCat := by
 intro pins s σ H x y v u Q I rx ry h
 obtain ⟨l, b, xs, zs, rfl, rfl, hH, hB, hz, q⟩ := h
 cases rx
 cases ry
 obtain ⟨z, its, n, r, hl, e⟩ := I.lstM hH
 obtain ⟨z2, its2, n2, r2, hl2, e2⟩ := I.lstM hB
 refine PySem.P.add_list e e2 ?_ (by rw [List.size_toArray, List.size_toArray]; omega)
 have ea : its.toArray ++ its2.toArray = (its ++ its2).toArray := by simp
 rw [ea]
 exact ⟨.ref _, _, I.lnew (t' := s.toks) (r.append r2) (by rw [List.length_append]; omega), rfl, q _ I.fresh⟩
end
section
variable {prog : Program} {w : World} {A : Around} {E : Value → Shared → Prop} {s : Shared}
set_option maxRecDepth 100000 in
end
section
variable {X : Cx}
end
end L2
namespace Att
open PySem PySem.W PySem.Calls PyProof.Rows
theorem ints_of_wellAll {P : Params} {h : Heap} : ∀ (ns : List Int) (vs : List Value), WellAll P h vs (ns.map WData.int) → IntsAre vs ns := by
 intro ns
 induction ns with
 | nil =>
  intro vs w
  rw [List.map_nil] at w
  cases w
  exact .nil
 | cons n ns ih =>
  intro vs w
  rw [List.map_cons] at w
  cases w with
  | cons a b =>
   cases a
   exact .cons _ _ (ih _ b)
theorem script_of {l : OpenLaw} {n : Nat} (hn : l.most = some n) {P : Params} {h : Heap} {args : List WData} {vals : List Value}
  (hpre : l.row.toRowW.claim.pre args = true) (hwl : WellAll P h vals args) :
  ∃ a vs ns, vals = [Value.ref a] ∧ args = [WData.list (ns.map WData.int)] ∧ h.get? a = some { cls := .type "list", data := .seq vs.toArray } ∧ IntsAre vs ns ∧ ns.length ≤ n := by
 have hsh : WShape.hasAll [] args [.list .int] = true := (pre_splitW hpre).1
 have hc : l.pre.holds [] { args := args } = true := (pre_splitW hpre).2
 obtain ⟨d, r, rfl, h1, h2⟩ := hasAllW_cons hsh
 obtain rfl := hasAllW_nil h2
 obtain ⟨xs, rfl, h3⟩ := hasW_list h1
 obtain ⟨ns, rfl⟩ := items_int h3
 have hlen : ns.length ≤ n := by
  unfold OpenLaw.pre at hc
  have h4 : (WTm.not (.lt (.lit (.int (n : Int))) (.len (.arg 0)))).holds [] { args := [.list (ns.map .int)] } = true := by
   have h4 := (holds_andW hc).1
   rw [hn] at h4
   exact h4
  have h5 := condW_of h4 (w_not (w_lt w_lit (w_len_list (w_arg rfl))))
  rw [List.length_map] at h5
  refine Nat.le_of_not_lt fun q => ?_
  have q' : (n : Int) < ((ns.length : Nat) : Int) := by omega
  first
   | (rw [decide_eq_true q'] at h5; exact absurd h5 (by decide))
   | (simp at h5; omega)
 cases hwl with
 | cons w1 w2 =>
  cases w2
  cases w1 with
  | list ho hall => exact ⟨_, _, ns, rfl, rfl, ho, ints_of_wellAll ns _ hall, hlen⟩
theorem post_true (l : OpenLaw) (args : List WData) : l.row.toRowW.claim.post args (.bool true) args = true :=
 postW_of (r := l.row.toRowW) (X := (true == true))
  (show WShape.has [] (.bool true) .bool = true by first | rfl | decide | simp [WShape.has, WShape.arms, WShape.armsAll])
  (show (WTm.eq .res (.lit (.bool true))).value [] { args := args, res := some (.bool true), after := args } = some (.bool (true == true)) from w_eq_bool (w_res rfl) w_lit) rfl
theorem attach_call {l : OpenLaw} {n : Nat} {q : Program} {loose : List Str} {XP : (Str → Option Value) → Heap → Prop} {YP : World → Heap → Prop} {d : DefRec}
  (hn : l.most = some n) (hdf : d.params.defaults = [])
  (call : ∀ (w : World) (s₀ s₁ : Shared) (mg mb : Str → Option Value) (fa : Addr) (o : Obj) (pm cd doc : Value) (a : Addr) (vs : List Value) (ns : List Int),
   Ground q loose [] XP w s₀ mg mb s₁.heap → YP w s₁.heap →
   s₁.heap.get? fa = some o → o.data = .func (docDef d.name d.params d.body d.scope pm cd doc) → s₁.heap.CodeRec cd d.name → mg d.name = some (.ref fa) →
   s₁.heap.get? a = some { cls := .type "list", data := .seq vs.toArray } → IntsAre vs ns → ns.length ≤ n → s₁.gens = #[] →
   codeAny (model l.prog w) callerA (.call (.ref fa) ⟨[.ref a], []⟩) (fun r s' => r = .ok (.ret (.bool true)) ∧ OldK s₁.heap s'.heap ∧ s'.os = s₁.os ∧ AllBare s'.gens) s₁) :
  WalkO q loose XP YP l.row.toRowW d [] (fun f vs => PySem.call f vs) := by
 intro w s₀ s₁ mg mb G Y fa o pm cd doc dV kV ho hd hcd hD hmg hg args vals as hpre hlay hrd hwl hlo
 obtain rfl : dV = .none := Dflts.none hD hdf
 obtain rfl : kV = .none := Dflts.noKw hD
 obtain ⟨a, vs, ns, rfl, rfl, hobj, hints, hlen⟩ := script_of hn hpre hwl
 refine enter_call (codeAny_mono (call w s₀ s₁ mg mb fa o pm cd doc a vs ns G Y ho (fd_plain hd) hcd hmg hobj hints hlen hg) fun r s' hq => ?_)
 obtain ⟨rfl, h2, h3, h4⟩ := hq
 exact ⟨.inl ⟨.bool true, .bool true, [], rfl, fun _ => rfl, .bool true, post_true l _, fun _ => ⟨List.Pairwise.nil, fun _ hm => (nomatch hm)⟩⟩, h2, h3, h4⟩
section
variable {prog : Program} {w : World} {A : Around} {E : Value → Shared → Prop} {s : Shared} {K : Frag}
theorem make_obj {R : Result → Shared → Prop} {C fI : Addr} {rest : List Value} {kw : List (Str × Value)}
  (X : K.In s.heap) (hm : makesIn K C = true) (hi : findIn K (.ref C) "__init__" = some (some (.ref fI))) (hf : isFn K (.ref fI) = true)
  (h : codeAny (model prog w) (A.under (.builtin "type.__call__" ⟨.ref C :: rest, kw⟩)) (.call (.ref fI) ⟨.ref (s.heap.objs.size + 1) :: rest, kw⟩) (InitBack (s.heap.objs.size + 1) R)
   {s with heap := (s.heap.push emptyDict).push (instObj C s.heap.objs.size) }) : codeAny (model prog w) A (.call (.ref C) ⟨rest, kw⟩) R s := by
 obtain ⟨hh, g, d, t, os⟩ := s
 exact make_core (makes_of X hm) (looks_findIn X hi) (fun self => bind_fn X self (beq_iff_eq.mp hf)) (.inl rfl) h
theorem get_field {x C : Addr} {ox : Obj} {es : List DictEntry} {n : Nat} {name : Str} {expr : Bool} {v : Value} {Q : Value → Shared → Prop}
  (X : K.In s.heap) (I : W.InstAt s.heap x ox C (some (dictOf es n))) (hg : plainGet K C name = true) (hh : hasDictIn K C = true) (ha : findIn K (.ref C) name = some none)
  (hl : getL name es = some (some v)) (hv : handedIn v = true) (h : Q v { s with toks := s.toks + 1 }) : wpAny (model prog w) A (getAttr (.ref x) name expr) Q E s :=
 get_value X I (plainGet_of hg).1 (findObj_own hh ha rfl hl) hv h
end
end Att
namespace L2
open PySem PySem.Spec PyProof.Rows
theorem zee : ∀ {vs : List Value} {ns : List Int}, IntsAre vs ns → Vals (ns.map V.int) vs
 | _, _, .nil => .nil
 | _, _, .cons n t h => .cons ⟨t, rfl⟩ (zee h)
noncomputable def Only (H : Hp) : Prop := ∀ b, H b = none ∨ ∃ o xs, H b = some (.frz o (.lst xs))
theorem law_call {P : Program} {w : World} {K : W.Frag} {mg mb : Str → Option Value} {CX : CXT} {k : Nat} {fa a : Addr} {fd : FuncData} {x : Str} {sp : Sp} {s₁ : Shared} {vs : List Value} {ns : List Int}
  (KX : K.In s₁.heap) (hns : s₁.heap.Ns mainGlobals mg) (hb : s₁.heap.Ns builtinsNs mb) (hbb : ∀ x : Str, x ≠ "__name__" → mb x = bootBuiltins x) (hlim : s₁.heap.NoLimit) (hg : s₁.gens = #[])
  (ha : s₁.heap.get? a = some { cls := .type "list", data := .seq vs.toArray }) (hi : IntsAre vs ns) (hl : ns.length ≤ sizeLine) (hr : Room k callerA)
  (F : ∀ base : Heap, K.In base → base.Ns mainGlobals mg → FnOk P w K mg base CX k fa fd [x] sp) (hbind : ∀ (s : Shared) (u : Value), BindsTo s fd ⟨[u], []⟩ [(x, u)])
  (hsp : ∀ H : Hp, Only H → SqL K H a (ns.map V.int) → sp [.ref a] H (fun v _ => v = .bl true) fun _ _ _ => False)
  (hCX : ∀ H e s', CX [] H s₁ (fun _ _ _ => False) e s' → False) :
  codeAny (model P w) callerA (.call (.ref fa) ⟨[.ref a], []⟩) (fun r s' => r = .ok (.ret (.bool true)) ∧ OldK s₁.heap s'.heap ∧ s'.os = s₁.os ∧ AllBare s'.gens) s₁ := by
 have rv := zee hi
 have lenV := hi.length
 have core : ∀ H : Hp, Only H → SqL K H a (ns.map V.int) → HOk P w H s₁.heap → (∀ b, H b ≠ none → b = a) → (H a ≠ none → K.lookup a = none) →
   codeAny (model P w) callerA (.call (.ref fa) ⟨[.ref a], []⟩) (fun r s' => r = .ok (.ret (.bool true)) ∧ OldK s₁.heap s'.heap ∧ s'.os = s₁.os ∧ AllBare s'.gens) s₁ := by
  intro H hO hS hok hA hK
  have base_of : ∀ {b : Addr} {o : Obj}, s₁.heap.get? b = some o → H b = none → (hidT s₁.heap H).get? b = some o := fun e n => hidT_get e n
  have noA : ∀ {b : Addr} {o : Obj} {es : Array DictEntry} {ep : Nat}, s₁.heap.get? b = some o → o.data = .dict es ep → H b = none := fun {b o es ep} e d => by
   cases q : H b with
   | none => rfl
   | some u =>
    have e' : b = a := hA b (by rw [q]; simp)
    subst e'
    rw [ha] at e; cases e
    have d' : Data.seq vs.toArray _ = Data.dict es ep := d
    cases d'
  have nsK : ∀ {b : Addr} {m : Str → Option Value}, s₁.heap.Ns b m → (hidT s₁.heap H).Ns b m := fun {b m} ⟨o, es, ep, e, d, r⟩ => ⟨o, es, ep, base_of e (noA e d), d, r⟩
  have hKb : K.In (hidT s₁.heap H) := fun b o e => base_of (KX b o e) (by
   cases q : H b with
   | none => rfl
   | some u =>
    have e' : b = a := hA b (by rw [q]; simp)
    subst e'
    rw [hK (by rw [q]; simp)] at e; cases e)
  have hM : Mod K mg (hidT s₁.heap H) := ⟨hKb, nsK hns, ⟨mb, nsK hb, hbb⟩, let ⟨mc, h1, h2⟩ := hlim; ⟨mc, nsK h1, h2⟩⟩
  have e0 : Env0 P w K mg (hidT s₁.heap H) callerA [] s₁ H := ⟨rfl, hM, fun b o e => of_hidT e, Nat.le_of_eq (hidT_size _ _), trivial, fun b hb => absurd (show b ∈ ([] : List Addr) from hb) (by simp), hok, .of_eq hg⟩
  refine codeAny_mono ((F _ hKb (nsK hns)).run callerA [] s₁ H ⟨[.ref a], []⟩ [.ref a] [.ref a] _ _ hr e0 (hbind s₁ (.ref a)) (.cons rfl .nil) (hsp H hO hS)) fun r s' h => ?_
  cases r with
  | error e => exact (hCX H e s' h).elim
  | ok fl =>
   cases fl with
   | next => exact False.elim h
   | brk => exact False.elim h
   | cont => exact False.elim h
   | ret u =>
    obtain ⟨v, H', os, bare, un, hok', r', q⟩ := h
    have q' : v = .bl true := q
    subst q'
    obtain rfl : u = Value.bool true := r'
    refine ⟨rfl, OldK.of_keep fun b o e => ?_, os, bare⟩
    cases q : H b with
    | none => exact un.keep b o e q (by intro z; exact absurd (show b ∈ ([] : List Addr) from z) (by simp)) (by simp)
    | some u =>
     rcases hO b with z | ⟨ob, xs, z⟩
     ·rw [q] at z; cases z
     ·have z2 := un.frzs b ob _ z
      obtain ⟨e1, _⟩ := hok b _ z
      obtain ⟨e2, _⟩ := hok' b _ z2
      rw [e] at e1; cases e1
      exact e2
 cases hk : K.lookup a with
 | some o =>
  have e := KX a o hk
  rw [ha] at e
  cases e
  refine core (fun _ => none) (fun _ => .inl rfl) (.inr ⟨_, vs.toArray, _, hk, rfl, rfl, rfl, by rw [List.size_toArray, lenV]; exact hl, by simpa using rv⟩) (fun b u z => by have z' : (none : Option HO) = some u := z; cases z') (fun b z => absurd rfl z) fun z => absurd rfl z
 | none =>
  refine core (fun b => if b = a then some (.frz { cls := .type "list", data := .seq vs.toArray } (.lst (ns.map V.int))) else none) (fun b => ?_) (.inl (.inr ⟨{ cls := .type "list", data := .seq vs.toArray }, if_pos rfl⟩)) (fun b u z => ?_) (fun b z => ?_) fun _ => hk
  ·by_cases hb : b = a
   ·exact .inr ⟨_, _, if_pos hb⟩
   ·exact .inl (if_neg hb)
  ·by_cases hb : b = a
   ·have z' := (if_pos hb).symm.trans z
    cases z'
    subst hb
    exact ⟨ha, by rw [List.length_map]; exact hl, vs, _, rv, ha⟩
   ·have z' := (if_neg hb).symm.trans z
    cases z'
  ·by_cases hb : b = a
   ·exact hb
   ·exact absurd (if_neg hb) z
theorem walk_of {l : W.OpenLaw} {n k : Nat} {q : Program} {loose : List Str} {XP : (Str → Option Value) → Heap → Prop} {YP : World → Heap → Prop} {d : DefRec} {K : Params → W.Frag} {CX : World → CXT} {sp : World → Sp} {x : Str}
  (hn : l.most = some n) (hn2 : n ≤ sizeLine) (hdf : d.params.defaults = []) (hr : Room k callerA)
  (hY : ∀ (w : World) (h : Heap), YP w h → (K w.params).In h)
  (F : ∀ (w : World) (mg : Str → Option Value) (fa : Addr) (h : Heap), (K w.params).In h → h.Ns mainGlobals mg → mg d.name = some (.ref fa) →
   ∃ fd : FuncData, (∀ (s : Shared) (u : Value), BindsTo s fd ⟨[u], []⟩ [(x, u)]) ∧
    ∀ base : Heap, (K w.params).In base → base.Ns mainGlobals mg → FnOk l.prog w (K w.params) mg base (CX w) k fa fd [x] (sp w))
  (hsp : ∀ (w : World) (H : Hp) (a : Addr) (ns : List Int), ns.length ≤ n → Only H → SqL (K w.params) H a (ns.map V.int) → sp w [.ref a] H (fun v _ => v = .bl true) fun _ _ _ => False)
  (hCX : ∀ (w : World) (H : Hp) (s : Shared) (e : Value) (s' : Shared), CX w [] H s (fun _ _ _ => False) e s' → False) :
  W.WalkO q loose XP YP l.row.toRowW d [] (fun f vs => PySem.call f vs) := by
 refine Att.attach_call hn hdf fun w s₀ s₁ mg mb fa o pm cd doc a vs ns G Y ho hd hcd hmg hobj hints hlen hg => ?_
 have KX := hY w _ Y
 obtain ⟨fd, hb, hF⟩ := F w mg fa _ KX G.T.g hmg
 exact law_call KX G.T.g G.T.b G.T.builtins G.T.nolimit hg hobj hints (Nat.le_trans hlen hn2) hr hF hb (fun H hO hS => hsp w H a ns hlen hO hS) fun H e s' => hCX w H s₁ e s'
noncomputable def je (s : Stmt) (j : Nat) : Stmt := match s with
 | .ClassDef _ _ _ body _ _ _ _ _ _ _ => body.getD j (.Pass ⟨0, 0, 0, 0⟩)
 | _ => .Pass ⟨0, 0, 0, 0⟩
noncomputable def qg (s : Stmt) : Arguments := match s with
 | .FunctionDef _ a _ _ _ _ _ _ _ _ => a
 | _ => { posonlyargs := [], args := [], vararg := none, kwonlyargs := [], kw_defaults := [], kwarg := none, defaults := [] }
noncomputable def qe (s : Stmt) : List Stmt := match s with
 | .FunctionDef _ _ b _ _ _ _ _ _ _ => b
 | _ => []
noncomputable def zh (s : Stmt) : Scope := match s with
 | .FunctionDef _ _ _ _ _ _ sc _ _ _ => sc
 | _ => { kind := .function, names := [], isGenerator := false, isCoroutine := false }
noncomputable abbrev CX0 : CXT := fun _ _ _ _ _ _ => False
noncomputable abbrev E0 : XK := fun _ _ _ => False
theorem zq {X : Cx} : zcl CX0 X E0 := fun _ _ _ _ _ _ _ h => h.elim
structure Fun (K : W.Frag) (x qual : Str) (st : Stmt) (f : Addr) (fd : FuncData) : Prop where
 ex : ∃ (oc : Value) (od : Option Addr) (kV doc pm : Value) (an : Option Addr) (cdv ct : Value) (osl : Array (Option Value)),
  fd = W.fnOf x qual (qg st) (qe st) (zh st) .none kV doc pm an cdv ct ∧ K.lookup f = some ⟨oc, od, .func fd, osl⟩ ∧ W.codeIn K cdv qual = true
 kp : W.keepIn K (.ref f) = true
section
variable {P : Program} {w : World} {K : W.Frag} {mg : Str → Option Value} {base : Heap}
theorem Fun.ok {x qual : Str} {st : Stmt} {f : Addr} {fd : FuncData} {N ps : List Str} {k : Nat} {sp : Sp} (F : Fun K x qual st f fd) (S : qh N ps (zh st)) (len : ∀ vs H Q E, sp vs H Q E → vs.length = ps.length)
  (hbody : ∀ (cdv : Value) (A : Around) (outer : List Env) (s : Shared) (H : Hp) (vs : List V) (Q : VK) (E : XK), Room k (A.deeper (envOfC qual (zh st) s.heap.objs.size f cdv)) → sp vs H Q E →
   ∃ t, PSs (cxOf CX0 P w K mg base N qual (zh st) f cdv A outer s H E).nox (qe st) t ∧ t { nx := fun _ H' => Q .non H', rt := Q } (start N vs) H) : FnOk P w K mg base CX0 (k + 1) f fd ps sp := by
 obtain ⟨oc, od, kV, doc, pm, an, cdv, ct, osl, rfl, lk, hcd⟩ := F.ex
 refine fn_of lk hcd S len fun A outer s H vs Q E hr hsp => ?_
 obtain ⟨t, h, q⟩ := hbody cdv A outer s H vs Q E hr hsp
 exact ⟨t, h.nox, q⟩
theorem Fun.binds {x qual : Str} {st : Stmt} {f : Addr} {fd : FuncData} {ps : List Str} (F : Fun K x qual st f fd)
  (h : ∀ (kV doc pm : Value) (an : Option Addr) (cdv ct : Value) (us : List Value), us.length = ps.length → bindArgs (W.fnOf x qual (qg st) (qe st) (zh st) .none kV doc pm an cdv ct) ⟨us, []⟩ = pure (ps.zip us)) : zb1 K fd ps [] := by
 obtain ⟨oc, od, kV, doc, pm, an, cdv, ct, osl, rfl, lk, hcd⟩ := F.ex
 exact .all (h kV doc pm an cdv ct)
theorem qm {x qual : Str} {st : Stmt} {f : Addr} {oc : Value} {od an : Option Addr} {osl : Array (Option Value)} {kV doc pm cdv ct : Value} (l : K.lookup f = some ⟨oc, od, .func (W.fnOf x qual (qg st) (qe st) (zh st) .none kV doc pm an cdv ct), osl⟩)
  (c : W.codeIn K cdv qual = true) (k : W.keepIn K (.ref f) = true) : Fun K x qual st f (W.fnOf x qual (qg st) (qe st) (zh st) .none kV doc pm an cdv ct) := ⟨⟨oc, od, kV, doc, pm, an, cdv, ct, osl, rfl, l, c⟩, k⟩
end
section
variable {X : Cx}
theorem pv (i : Nat) {x : Str} {pos : Pos} (hN : X.N[i]? = some x := by rfl) (hv : Vis X.env.scope x := by first | exact Or.inl rfl | exact Or.inr (Or.inl rfl) | exact Or.inr (Or.inr rfl)) (hd : (x == ("__debug__" : Str)) = false := by decide)
  (hcd : (x == ("__classdict__" : Str)) = false := by decide) : PE X (.Name x pos) (tVar i) := pe_var hN hv hd hcd
end
theorem iteF {A B : Prop} (h : B) : if false = true then A else B := by
 rw [if_neg Bool.false_ne_true]
 exact h
theorem iteT {A B : Prop} (h : A) : if true = true then A else B := by
 rw [if_pos rfl]
 exact h
theorem ite2 {c A B : Prop} [Decidable c] (h1 : c → A) (h2 : ¬ c → B) : if c then A else B := by
 by_cases h : c
 ·rw [if_pos h]
  exact h1 h
 ·rw [if_neg h]
  exact h2 h
noncomputable def Same (H H' : Hp) : Prop := ∀ b o, H b = some o → H' b = some o
theorem Same.refl (H : Hp) : Same H H := fun _ _ h => h
theorem Same.trans {H H1 H2 : Hp} (a : Same H H1) (b : Same H1 H2) : Same H H2 := fun c o h => b c o (a c o h)
theorem Same.free {H H' : Hp} (e : Same H H') {l : Addr} (h : H' l = Option.none) : H l = Option.none := by
 cases q : H l with
 | none => rfl
 | some o =>
  rw [e l o q] at h
  cases h
theorem Same.seq {K : W.Frag} {H H' : Hp} {a : Addr} {xs : List V} (e : Same H H') (h : SqL K H a xs) : SqL K H' a xs := by
 rcases h with (h | ⟨o, h⟩) | h
 ·exact .inl (.inl (e _ _ h))
 ·exact .inl (.inr ⟨o, e _ _ h⟩)
 ·exact .inr h
noncomputable def za4 (cells : List (Str × Addr)) : List (Str × NameKind) → List (Str × Addr) → List (Str × Addr)
 | [], acc => acc
 | (n, k) :: r, acc => za4 cells r (if k == .free then (n, (cells.lookup n).getD 0) :: acc else acc)
theorem closureFor_eq {scope : Scope} {env : Env} (h : ∀ y ∈ scope.names, y.2 = .free → ∃ c, env.cells.lookup y.1 = some c) : closureFor scope env = pure (za4 env.cells scope.names []) := by
 unfold closureFor
 have go : ∀ (l : List (Str × NameKind)) (acc : List (Str × Addr)), (∀ y ∈ l, y.2 = .free → ∃ c, env.cells.lookup y.1 = some c) →
   (forIn l acc fun (p : Str × NameKind) (cs : List (Str × Addr)) => (if (p.2 == .free) = true then (do let c ← cellOf env p.1; pure (ForInStep.yield ((p.1, c) :: cs))) else pure (ForInStep.yield cs) : Sem _)) = (pure (za4 env.cells l acc) : Sem _) := by
  intro l
  induction l with
  | nil => intro acc _; rfl
  | cons p r ih =>
   intro acc hp
   obtain ⟨n, k⟩ := p
   rw [List.forIn_cons]
   have hr := fun a => ih a fun y hy => hp y (List.mem_cons_of_mem _ hy)
   by_cases hk : k = .free
   ·subst hk
    obtain ⟨c, hc⟩ := hp (n, .free) List.mem_cons_self rfl
    have e : cellOf env n = pure c := by unfold cellOf; rw [hc]
    simp only [beq_self_eq_true, if_true, e, pure_bind, hr, za4, hc, Option.getD_some]
   ·have hb : (k == NameKind.free) = false := by simpa using hk
    simp only [hb, Bool.false_eq_true, if_false, pure_bind, hr, za4]
 have := go scope.names [] h
 exact (congrArg (fun (m : Sem (List (Str × Addr))) => m >>= fun cs => pure cs) this).trans (pure_bind _ _)
theorem zcz {cells : List (Str × Addr)} {y : Str} {c : Addr} : ∀ (l : List (Str × NameKind)) (acc : List (Str × Addr)), (za4 cells l acc).lookup y = some c →
  acc.lookup y = some c ∨ ((y, NameKind.free) ∈ l ∧ c = (cells.lookup y).getD 0)
 | [], acc, h => .inl h
 | (n, k) :: r, acc, h => by
  unfold za4 at h
  rcases zcz r _ h with h' | ⟨h1, h2⟩
  ·by_cases hk : k = .free
   ·subst hk
    simp only [beq_self_eq_true, if_true, List.lookup_cons] at h'
    by_cases hy : y = n
    ·subst hy
     simp only [beq_self_eq_true] at h'
     cases h'
     exact .inr ⟨List.mem_cons_self, rfl⟩
    ·have : (y == n) = false := by simpa using hy
     simp only [this] at h'
     exact .inl h'
   ·have hb : (k == NameKind.free) = false := by simpa using hk
    simp only [hb, Bool.false_eq_true, if_false] at h'
    exact .inl h'
  ·exact .inr ⟨List.mem_cons_of_mem _ h1, h2⟩
theorem zck {cells : List (Str × Addr)} {y : Str} : ∀ (l : List (Str × NameKind)) (acc : List (Str × Addr)), ((y, NameKind.free) ∈ l ∨ ∃ c, acc.lookup y = some c) → ∃ c, (za4 cells l acc).lookup y = some c
 | [], acc, h => by
  rcases h with h | h
  ·cases h
  ·exact h
 | (n, k) :: r, acc, h => by
  unfold za4
  refine zck r _ ?_
  by_cases hk : k = .free
  ·subst hk
   simp only [beq_self_eq_true, if_true, List.lookup_cons]
   by_cases hy : y = n
   ·subst hy; simp
   ·have e : (y == n) = false := by simpa using hy
    simp only [e]
    rcases h with h | h
    ·rcases List.mem_cons.mp h with h | h
     ·cases h; exact absurd rfl hy
     ·exact .inl h
    ·exact .inr h
  ·have hb : (k == NameKind.free) = false := by simpa using hk
   simp only [hb, Bool.false_eq_true, if_false]
   rcases h with h | h
   ·rcases List.mem_cons.mp h with h | h
    ·cases h; exact absurd rfl hk
    ·exact .inl h
   ·exact .inr h
structure zff (scope : Scope) (env : Env) (x : Str) (ys : List Str) : Prop where
 kind : scope.kind = .function
 nocell : ∀ y ∈ scope.names, y.2 ≠ .cell
 names : ∀ y ∈ scope.names, y.2 = .local → scope.names.lookup y.1 = some .local
 hx : scope.names.lookup x = some .local
 free : ∀ y ∈ scope.names, y.2 = .free → y.1 ≠ x ∧ env.kindOf y.1 = some .cell
 read : ∀ y ∈ ys, (y, NameKind.free) ∈ scope.names ∧ (relabel scope env).names.lookup y = some .cell
noncomputable def compB (scope : Scope) (env : Env) (x : Str) (ys : List Str) : Bool :=
 decide (scope.kind = .function) && scope.names.all (fun y => decide (y.2 ≠ .cell)) && scope.names.all (fun y => decide (y.2 ≠ .local) || decide (scope.names.lookup y.1 = some .local)) &&
 decide (scope.names.lookup x = some .local) && scope.names.all (fun y => decide (y.2 ≠ .free) || (decide (y.1 ≠ x) && decide (env.kindOf y.1 = some .cell))) &&
 ys.all (fun y => decide ((y, NameKind.free) ∈ scope.names) && decide ((relabel scope env).names.lookup y = some .cell))
theorem zer {scope : Scope} {env : Env} {x : Str} {ys : List Str} (h : compB scope env x ys = true) : zff scope env x ys := by
 unfold compB at h
 simp only [Bool.and_eq_true, decide_eq_true_eq, List.all_eq_true, Bool.or_eq_true] at h
 obtain ⟨⟨⟨⟨⟨h1, h2⟩, h3⟩, h4⟩, h5⟩, h6⟩ := h
 exact ⟨h1, h2, fun y hy e => (h3 y hy).resolve_left (fun z => z e), h4, fun y hy e => (h5 y hy).resolve_left (fun z => z e), h6⟩
noncomputable def cSt (js : List Nat) (o : Option V) (σ : St) : St := o :: js.map fun j => (σ[j]?).join
noncomputable def kn (X : Cx) (scope : Scope) (x : Str) (ys : List Str) (C : Addr) (s₀ : Shared) (H₀ : Hp) (fp : List Addr) : Cx where
 prog := X.prog
 w := X.w
 K := X.K
 mg := X.mg
 base := X.base
 A := X.A
 N := x :: ys
 s₀ := s₀
 H₀ := H₀
 env := compEnvC scope (za4 X.env.cells scope.names []) C X.env
 outer := X.stack
 stack := X.stack
 ex := fp
 fn := fun y => decide (y = x)
 calm := true
 pn := []
 xe := fun _ _ => False
section
variable {X : Cx} {pins : List (Addr × Obj)} {σ : St} {H : Hp} {s : Shared} {scope : Scope} {x : Str} {ys : List Str} {js : List Nat}
theorem zdd {scope : Scope} {env : Env} {y : Str} {k : NameKind} (h : (relabel scope env).names.lookup y = some k) : ∃ k0, (y, k0) ∈ scope.names ∧ (k = k0 ∨ (k = .cell ∧ k0 = .free)) := by
 have hm := PySem.mem_of_lookup h
 unfold relabel at hm
 obtain ⟨⟨n, k0⟩, hn, e⟩ := List.mem_map.mp hm
 dsimp only at e
 split at e
 ·cases e
  rename_i hc
  simp only [Bool.and_eq_true, beq_iff_eq] at hc
  exact ⟨k0, hn, .inr ⟨rfl, hc.1.1⟩⟩
 ·cases e
  exact ⟨k, hn, .inl rfl⟩
theorem zec (ok : X.Ok) (S : zff scope X.env x ys) {y : Str} {c : Addr} (h : (za4 X.env.cells scope.names []).lookup y = some c) : (y, NameKind.free) ∈ scope.names ∧ X.env.cells.lookup y = some c := by
 rcases zcz _ _ h with h | ⟨h1, h2⟩
 ·cases h
 ·refine ⟨h1, ?_⟩
  obtain ⟨c', e⟩ := ok.has y (.inl (S.free _ h1 rfl).2)
  rw [e] at h2
  rw [e, h2]
  rfl
theorem comp_in (hc : X.calm = true) (S : zff scope X.env x ys) (hjs : js.map (fun j => X.N[j]?) = ys.map some) {fp : List Addr} {h₁ : Heap} {H3 : Hp} {s3 : Shared}
  (I3 : Inv X pins σ H3 s3) (hf : ∀ b ∈ fp, FpOk X pins H3 b ∧ b < s3.heap.objs.size)
  (hn : h₁.Ns s3.heap.objs.size fun _ => none) (k34 : ∀ b o, s3.heap.get? b = some o → h₁.get? b = some o) (tk : Nat) :
  Inv (kn X scope x ys s3.heap.objs.size s3 H3 fp) [] (cSt js none σ) H3 { s3 with heap := h₁, toks := tk } := by
 have hcells : ∀ y c, (za4 X.env.cells scope.names []).lookup y = some c → X.env.cells.lookup y = some c := fun y c h => (zec I3.ok S h).2
 have hcs : ∀ y c, X.env.cells.lookup y = some c → c < s3.heap.objs.size := fun y c h => by
  obtain ⟨v, o, ho, _⟩ := I3.cell y c h
  exact Heap.lt_size ho
 have nofp : ∀ b o, X.base.get? b = some o → b ∉ fp := fun b o e hb => by
  obtain ⟨⟨_, _, _, h4, _, _⟩, _⟩ := hf b hb
  rcases h4 with h4 | h4
  ·exact I3.ok.noex b o e h4
  ·exact absurd (Nat.lt_of_lt_of_le (Heap.lt_size e) (Nat.le_trans I3.ok.bsz h4)) (Nat.lt_irrefl _)
 refine ⟨⟨I3.ok.mod, S.kind, I3.ok.glob, I3.ok.blt, Nat.le_refl _, fun y z c h1 h2 => I3.ok.inj y z c (hcells y c h1) (hcells z c h2), fun y hy => ?_, fun y c h1 h2 => ?_, fun _ => I3.ok.hd hc, I3.ok.frames, .inl rfl,
   fun b hb => ⟨Nat.ne_of_lt (hf b hb).2, fun y c h => (hf b hb).1.2.2.2.2.1 y c (hcells y c h)⟩, I3.bs, Nat.le_trans I3.ok.bsz I3.sz, nofp, fun b hb z => ?_, I3.stack, I3.stkFree⟩,
  rfl, I3.bare, Un.kept k34, ⟨_, hn, fun i y v e1 e2 e3 => ?_⟩, fun y c h => ?_, I3.hok.fresh (Nat.le_refl _), fun y c h => I3.freeC y c (hcells y c h), fun p hp => absurd (show p ∈ ([] : List (Addr × Obj)) from hp) (by simp), I3.hok.kept k34, ?_⟩
 ·have hy : (relabel scope X.env).names.lookup y = some .cell ∨ (relabel scope X.env).names.lookup y = some .free := hy
  have hm : (y, NameKind.free) ∈ scope.names := by
   rcases hy with hy | hy
   ·obtain ⟨k0, h1, h2⟩ := zdd hy
    rcases h2 with h2 | ⟨_, h2⟩
    ·subst h2; exact absurd rfl (S.nocell _ h1)
    ·subst h2; exact h1
   ·obtain ⟨k0, h1, h2⟩ := zdd hy
    rcases h2 with h2 | ⟨h2, _⟩
    ·subst h2; exact h1
    ·cases h2
  exact zck _ _ (.inl hm)
 ·have e : y = x := of_decide_eq_true h1
  exact absurd e (S.free _ (zec I3.ok S h2).1 rfl).1
 ·rcases List.mem_cons.mp (I3.stkSub b z) with e | e
  ·exact (hf b hb).1.2.1 e
  ·exact (hf b hb).1.2.2.1 e
 ·cases i with
  | zero => cases e2
  | succ i =>
   have e1 : ys[i]? = some y := e1
   have e2 : (js.map fun j => (σ[j]?).join)[i]? = some (some v) := e2
   rw [List.getElem?_map] at e2
   cases hj : js[i]? with
   | none => rw [hj] at e2; cases e2
   | some j =>
    rw [hj] at e2
    have e2' : (σ[j]?).join = some v := Option.some.inj e2
    have e4 : σ[j]? = some (some v) := by
     cases q : σ[j]? with
     | none => rw [q] at e2'; cases e2'
     | some o => rw [q] at e2'; rw [show o = some v from e2']
    have e5 : X.N[j]? = some y := by
     have q := congrArg (fun l => l[i]?) hjs
     rw [List.getElem?_map, List.getElem?_map, hj, e1] at q
     exact Option.some.inj q
    have hm := List.mem_of_getElem? e1
    obtain ⟨m1, m2⟩ := S.read y hm
    have hk := (S.free _ m1 rfl).2
    obtain ⟨m, hnm, hl⟩ := I3.loc
    obtain ⟨u, r, l⟩ := hl j y v e5 e4 (.inr (.inl hk))
    refine ⟨u, r, .inr ⟨.inl m2, ?_⟩⟩
    rcases l with ⟨l, _⟩ | ⟨_, c, e, z⟩
    ·have : some NameKind.local = some NameKind.cell := l.symm.trans hk
     cases this
    ·obtain ⟨c', e'⟩ := zck (cells := X.env.cells) scope.names [] (.inl m1)
     have e'' := hcells y c' e'
     rw [e] at e''
     cases e''
     obtain ⟨o, ho, hd⟩ := z
     exact ⟨c, e', o, k34 c o ho, hd⟩
 ·obtain ⟨v, o, ho, hd⟩ := I3.cell y c (hcells y c h)
  exact ⟨v, o, k34 c o ho, hd⟩
 ·show (cSt js none σ).length = (x :: ys).length
  have q := congrArg List.length hjs
  simp only [List.length_map] at q
  simp [cSt, q]
theorem comp_out {fp : List Addr} {D : Addr} {H2 H3 H' : Hp} {s2 s3 s' : Shared} {σ' : St} {C : Addr} (I2 : Inv X pins σ H2 s2) (hf : ∀ b ∈ fp, FpOk X pins H2 b) (k23 : ∀ b o, s2.heap.get? b = some o → s3.heap.get? b = some o)
  (hos : s3.os = s2.os) (hD : s2.heap.objs.size ≤ D) (h23 : ∀ b, b ≠ D → H3 b = H2 b) (t23 : H2 D = none) (I' : Inv (kn X scope x ys C s3 H3 fp) [] σ' H' s') : Inv X pins σ H' s' := by
 have neD : ∀ b o, s2.heap.get? b = some o → b ≠ D := fun b o e z => absurd (Nat.lt_of_lt_of_le (Heap.lt_size e) (z ▸ hD)) (Nat.lt_irrefl _)
 have tne : ∀ b o, H2 b = some o → b ≠ D := fun b o e z => by subst z; rw [t23] at e; cases e
 refine I2.call' (ch := fp) (I'.os.trans hos) ⟨fun b o e n hb hx => ?_, fun b o e n hb hx => ?_, fun b o e n hx => ?_, fun b o e hx => ?_, fun b xs e => ?_, fun b o u e => ?_, fun b ps e => ?_⟩ I'.hok I'.bare fun b hb => ?_
 ·exact I'.base.keep b o (k23 b o e) ((h23 b (neD b o e)).trans n) hb hx
 ·exact I'.base.slot b o (k23 b o e) ((h23 b (neD b o e)).trans n) hb hx
 ·exact I'.base.free b o (k23 b o e) ((h23 b (neD b o e)).trans n) hx
 ·exact I'.base.there b o (k23 b o e) hx
 ·exact I'.base.tups b xs ((h23 b (tne b _ e)).trans e)
 ·exact I'.base.frzs b o u ((h23 b (tne b _ e)).trans e)
 ·exact I'.base.tbls b ps ((h23 b (tne b _ e)).trans e)
 ·obtain ⟨f0, f1, f2, f3, f4, f5⟩ := hf b hb
  exact ⟨f3, f1, f4, f5⟩
end
noncomputable def tSeqM (t u : TS) : TS := fun D σ H => ∃ M : St → Hp → Prop, t { D with nx := M } σ H ∧ ∀ σ' H', M σ' H' → u D σ' H'
theorem ve {X : Cx} {st : Stmt} {rest : List Stmt} {t u : TS} (h1 : PS X st t) (h2 : PSs X rest u) : PSs X (st :: rest) (tSeqM t u) := by
 intro pins s σ H D I h
 obtain ⟨M, ht, hu⟩ := h
 have h2' : PSs X rest (fun D' σ' H' => D' = D ∧ M σ' H') := fun pins s σ' H' D' I' ⟨e, m⟩ => by subst e; exact h2 pins s σ' H' D' I' (hu σ' H' m)
 refine zf (u := fun D' σ' H' => D' = D ∧ M σ' H') (t := fun D' σ' H' => ∃ D0, t D0 σ' H' ∧ D0.nx = M ∧ D0.rt = D'.rt ∧ D0.bk = D'.bk ∧ D0.ct = D'.ct ∧ ∀ σ' H', M σ' H' → D'.nx σ' H') (fun pins s σ' H' D' I' ⟨D0, k, e1, e2, e3, e4, e5⟩ => ?_) h2' pins s σ H D I ?_
 ·refine thn (h1 pins s σ' H' D0 I' k) fun f s' q => ?_
  cases f with
  | next => obtain ⟨a, b, c, d⟩ := q; exact ⟨a, b, c, e5 _ _ (e1 ▸ d)⟩
  | brk => obtain ⟨a, b, c, d⟩ := q; exact ⟨a, b, c, e3 ▸ d⟩
  | cont => obtain ⟨a, b, c, d⟩ := q; exact ⟨a, b, c, e4 ▸ d⟩
  | ret v => obtain ⟨a, b, c, d, r, e⟩ := q; exact ⟨a, b, c, d, r, e2 ▸ e⟩
 ·exact ⟨{ D with nx := M }, ht, rfl, rfl, rfl, rfl, fun σ' H' m => ⟨rfl, m⟩⟩
noncomputable def tIfM (c : TT) (t u : TS) : TS := fun D σ H => ∃ Mt Mf : Hp → Prop, (c σ H fun b H1 => if b = true then Mt H1 else Mf H1) ∧ (∀ H1, Mt H1 → t D σ H1) ∧ ∀ H1, Mf H1 → u D σ H1
theorem zf9 {X : Cx} {c : Expr} {a b : List Stmt} {pos : Pos} {tc : TT} {t u : TS} (hc : PT X c tc) (ha : PSs X a t) (hb : PSs X b u) : PS X (.If c a b pos) (tIfM tc t u) := by
 intro pins s σ H D I h
 obtain ⟨Mt, Mf, h1, h2, h3⟩ := h
 have ha' : PSs X a (fun D' σ' H' => D' = D ∧ σ' = σ ∧ Mt H') := fun pins s σ' H' D' I' ⟨e1, e2, m⟩ => by subst e1 e2; exact ha pins s σ' H' D' I' (h2 H' m)
 have hb' : PSs X b (fun D' σ' H' => D' = D ∧ σ' = σ ∧ Mf H') := fun pins s σ' H' D' I' ⟨e1, e2, m⟩ => by subst e1 e2; exact hb pins s σ' H' D' I' (h3 H' m)
 have hc' : PT X c (fun σ' H' Q => σ' = σ ∧ H' = H ∧ ∀ b H1, (if b = true then Mt H1 else Mf H1) → Q b H1) := fun pins s σ' H' Q I' ⟨e1, e2, m⟩ => by
  subst e1 e2
  refine thn (hc pins s σ' H' _ I' h1) fun b s1 ⟨H1, I1, q1⟩ => ⟨H1, I1, m b H1 q1⟩
 refine z0 hc' ha' hb' pins s σ H D I ⟨rfl, rfl, fun b H1 q => ?_⟩
 cases b with
 | true => exact iteT ⟨rfl, rfl, q⟩
 | false => exact iteF ⟨rfl, rfl, q⟩
noncomputable def PTs (X : Cx) (ifs : List Expr) (t : TT) : Prop :=
 ∀ (pins : List (Addr × Obj)) (s : Shared) (σ : St) (H : Hp) (Q : Bool → Hp → Prop), Inv X pins σ H s → t σ H Q →
  wpAny (model X.prog X.w) X.A (forIn ifs true fun c r => if r = true then do let ok ← isTrue c X.env (eval c X.env); pure (ForInStep.yield ok) else pure (ForInStep.yield r)) (TP X pins σ Q) X.xe s
noncomputable def tTrue : TT := fun _ H Q => Q true H
theorem pts_nil {X : Cx} : PTs X [] tTrue := fun _ _ _ H _ I h => wpAny_tests_nil ⟨H, I, h⟩
theorem pts_one {X : Cx} {c : Expr} {t : TT} (h : PT X c t) : PTs X [c] t := fun pins s σ H Q I q => wpAny_tests_one (h pins s σ H Q I q)
section
variable {prog : Program} {w : World} {A : Around} {R : Result → Shared → Prop} {s : Shared}
theorem compLoop_own {elt target iter : Expr} {ifs : List Expr} {scope : Scope} {pos : Pos} {it acc : Value} {env : Env} (I : Nat → Shared → Prop)
  (turn : ∀ n s, I n s → wpAny (model prog w) A (pyNext it) (fun r s₁ => match r with
   | none => R (.ok .next) s₁
   | some v => wpAny (model prog w) A (letOwnedTupleGo target it v) (fun _ s₁' => wpAny (model prog w) A (assign target env v) (fun _ s₂ =>
     wpAny (model prog w) A (forIn ifs true fun c r => if r = true then do let ok ← isTrue c env (eval c env); pure (ForInStep.yield ok) else pure (ForInStep.yield r)) (fun ok s₃ =>
      if ok = true then wpAny (model prog w) A (eval elt env) (fun x s₄ =>
       wpAny (model prog w) A (call (.builtin "list.append") [acc, x]) (fun _ s₅ => ∃ m, m < n ∧ I m s₅) (fun _ _ => False) s₄) (fun _ _ => False) s₃
      else ∃ m, m < n ∧ I m s₃) (fun _ _ => False) s₂) (fun _ _ => False) s₁') (fun _ _ => False) s₁) (fun _ _ => False) s)
  (n : Nat) (h : I n s) :
  codeAny (model prog w) A (.compLoop (.ListComp elt [⟨target, iter, ifs, 0⟩] scope pos) 0 it acc env) R s := by
 refine codeAny_loop rfl I (fun n s hI => ?_) n h
 show wpAny _ A ((compTurn (.ListComp elt [⟨target, iter, ifs, 0⟩] scope pos) 0 it acc env).onRaise (fun x => do noteFrame x env; theTreesLotGoes x)) _ _ s
 refine wpAny_noted ?_
 rw [compTurn_list]
 refine wpAny_bind (wpAny_standAt (wpAny_bind (wpAny_mono (turn n s hI) (fun r s₁ h₁ => ?_) fun _ _ h' => h'.elim)))
 cases r with
 | none => exact wpAny_pure h₁
 | some v =>
  refine wpAny_bind (wpAny_mono h₁ (fun _ s₁' h₁' => ?_) fun _ _ h' => h'.elim)
  refine wpAny_bind (wpAny_mono h₁' (fun _ s₂ h₂ => wpAny_bind (wpAny_mono h₂ (fun ok s₃ h₃ => ?_) fun _ _ h' => h'.elim)) fun _ _ h' => h'.elim)
  cases ok with
  | false => exact wpAny_pure ⟨rfl, h₃⟩
  | true =>
   exact wpAny_bind (wpAny_bind (wpAny_mono h₃ (fun x s₄ h₄ => wpAny_bind (wpAny_mono h₄ (fun _ s₅ h₅ => wpAny_pure (wpAny_pure ⟨rfl, h₅⟩)) fun _ _ h' => h'.elim)) fun _ _ h' => h'.elim))
end
noncomputable def zf5 (J : It) (js : List Nat) (tc : TT) (te : TE) (σ : St) (R : V → Hp → Prop) (D : Addr) (H1 : Hp) : Prop :=
 ∃ W : Nat → Nat → Hp → Prop, (∃ m, W 0 m (upd H1 D (.lst []))) ∧ ∀ i m H, W i m H →
  (J.stop i H ∧ R (.ref D) H) ∨ (J.go i H ∧ ∃ N : Hp → Prop, (∀ H', N H' → ∃ m', m' < m ∧ W (i + 1) m' H') ∧ ∀ x H', J.yld i H x H' → tc (cSt js (some x) σ) H' fun c H2 => if c = true then te (cSt js (some x) σ) H2 fun y H3 =>
   ∃ ys, H3 D = some (.lst ys) ∧ ys.length < sizeLine ∧ N (upd H3 D (.lst (ys ++ [y]))) else N H2)
noncomputable def zf6 (wi : TI) (js : List Nat) (tc : TT) (te : TE) (σ : St) (H : Hp) (R : V → Hp → Prop) : Prop :=
 wi σ H fun J H1 => ∀ D, H1 D = none → zf5 J js tc te σ R D H1
section
variable {X : Cx} {elt iter : Expr} {x : Str} {px pos : Pos} {ifs : List Expr} {scope : Scope} {wi : TI} {tc : TT} {te : TE} {ys : List Str} {js : List Nat}
theorem zeq {use : Option (Value → Sem Unit)} {pins : List (Addr × Obj)} {s : Shared} {σ : St} {H : Hp} {R : V → Hp → Prop} {Q : Value → Shared → Prop} {pos' : Pos} (hc : X.calm = true) (hi : PI X (.Name x px) iter wi)
  (S : zff scope X.env x ys) (hjs : js.map (fun j => X.N[j]?) = ys.map some) (hnd : (x :: ys).Nodup)
  (ht : ∀ C s₀ H₀ fp, PTs (kn X scope x ys C s₀ H₀ fp) ifs tc) (he : ∀ C s₀ H₀ fp, PE (kn X scope x ys C s₀ H₀ fp) elt te)
  (I : Inv X pins σ H s) (h : zf6 wi js tc te σ H R)
  (fin : ∀ (D C : Addr) (H' : Hp) (s' : Shared) (m : Str → Option Value), Inv X pins σ H' s' → s'.heap.Ns C m → H' C = none → C ≠ X.env.locals → X.s₀.heap.objs.size ≤ C → (∀ y c, X.env.cells.lookup y = some c → c ≠ C) → (∀ p ∈ X.pn ++ pins, p.1 ≠ C) →
   R (.ref D) H' → compPost (model X.prog X.w) X.A X.xe use Q (.ref D) C (.ok .next) s')
  (hs : ∀ x, foldedSetIterable iter X.env x = pure x) :
  wpAny (model X.prog X.w) X.A (comprehension (.ListComp elt [⟨.Name x px, iter, ifs, 0⟩] scope pos) scope X.env pos' (newList []) false (eval iter X.env) use) Q X.xe s := by
 refine wpAny_comprehension_free (use := use) rfl hs (closureFor_eq fun y hy e => I.ok.has y.1 (.inl (S.free y hy e).2)) S.kind S.names ?_
 refine thn (hi pins s σ H _ I h) fun v s1 h1 => thn h1 fun itv s2 h2 => ?_
 obtain ⟨it, fp, tn, J, H2, e, I2, T, st2, f2, rd⟩ := h2
 subst e
 refine wpAny_newObj_type (wpAny_newFunctionEnv S.nocell (by intro y hy; simp at hy) (fun h₁ hns₁ hsb₁ => ?_) S.kind)
 have hDn : H2 s2.heap.objs.size = none := I2.hok.fresh (Nat.le_refl _)
 obtain ⟨W, ⟨m0, w0⟩, turn⟩ := rd s2.heap.objs.size hDn
 have I3 : Inv X pins σ (upd H2 s2.heap.objs.size (.lst [])) { s2 with heap := s2.heap.push { cls := .type "list", data := .seq ([] : List Value).toArray }, toks := s2.toks } := I2.lnew (its := []) .nil (Nat.zero_le _)
 have k23 : ∀ b o, s2.heap.get? b = some o → (s2.heap.push { cls := .type "list", dict := none, data := .seq ([] : List Value).toArray }).get? b = some o := fun b o e => Heap.get?_push_of_some _ e
 have hfpo : ∀ b ∈ fp, b < s2.heap.objs.size := fun b hb => by obtain ⟨o, e, _⟩ := T.obj _ _ st2 b hb; exact Heap.lt_size e
 generalize hH3 : s2.heap.push { cls := .type "list", dict := none, data := .seq ([] : List Value).toArray } = hp3 at hns₁ hsb₁ I3 k23 ⊢
 have hC3 : hp3.objs.size = s2.heap.objs.size + 1 := by rw [← hH3, Heap.size_push]
 have k34 : ∀ b o, hp3.get? b = some o → h₁.get? b = some o := fun b o e => hsb₁.extBut b o (Nat.ne_of_lt (Heap.lt_size e)) (Heap.get?_push_of_some _ e)
 have hf3 : ∀ b ∈ fp, FpOk X pins (upd H2 s2.heap.objs.size (.lst [])) b ∧ b < hp3.objs.size := fun b hb => ⟨⟨by rw [zl (Nat.ne_of_lt (hfpo b hb))]; exact (f2 b hb).1, (f2 b hb).2⟩, by rw [hC3]; exact Nat.lt_succ_of_lt (hfpo b hb)⟩
 have I4 := comp_in (x := x) (ys := ys) (js := js) (scope := scope) (fp := fp) (h₁ := h₁) hc S hjs I3 hf3 hns₁ k34 (s2.toks + ([] : List (Str × Value)).length)
 have st4 : tn 0 h₁ := T.keep _ _ _ st2 fun b _ o e => k34 b o (k23 b o e)
 have stat : ∀ {H' : Hp}, (∀ b ∈ fp, H' b = none) → ∀ b ∈ fp, FpOk (kn X scope x ys hp3.objs.size { s2 with heap := hp3, toks := s2.toks } (upd H2 s2.heap.objs.size (.lst [])) fp) [] H' b := fun hn b hb => by
  refine ⟨hn b hb, ?_⟩
  have q := I4.ok.exf b hb
  exact ⟨q.1, I4.ok.exfs b hb, .inl hb, q.2, fun p hp => absurd (show p ∈ ([] : List (Addr × Obj)) from hp) (by simp)⟩
 have loop : ∀ s₄ : Shared, s₄ = { s2 with heap := h₁, toks := s2.toks + ([] : List (Str × Value)).length } →
   codeAny (model X.prog X.w) X.A (.compLoop (.ListComp elt [⟨.Name x px, iter, ifs, 0⟩] scope pos) 0 (.ref it) (.ref s2.heap.objs.size) (compEnvC scope (za4 X.env.cells scope.names []) hp3.objs.size X.env))
    (compPost (model X.prog X.w) X.A X.xe use Q (.ref s2.heap.objs.size) hp3.objs.size) s₄ := by
  rintro s₄ rfl
  refine compLoop_own (fun n s' => ∃ i o H', Inv (kn X scope x ys hp3.objs.size { s2 with heap := hp3, toks := s2.toks } (upd H2 s2.heap.objs.size (.lst [])) fp) [] (cSt js o σ) H' s' ∧ tn i s'.heap ∧ (∀ b ∈ fp, H' b = none) ∧ W i n H') ?_ m0
   ⟨0, none, _, I4, st4, fun b hb => (hf3 b hb).1.1, w0⟩
  rintro n s5 ⟨i, o, H5, I5, st5, fr5, w5⟩
  rcases turn i n H5 w5 with ⟨stop, qn⟩ | ⟨go, N, hN, step⟩
  ·refine thn (T.done (kn X scope x ys hp3.objs.size { s2 with heap := hp3, toks := s2.toks } (upd H2 s2.heap.objs.size (.lst [])) fp) rfl rfl rfl rfl i [] s5 _ H5 (fun _ _ => False) I5 (stat fr5) st5 stop) fun r s6 ⟨hr, I6⟩ => ?_
   subst hr
   have I7 : Inv X pins σ H5 s6 := comp_out (D := s2.heap.objs.size) (H3 := upd H2 s2.heap.objs.size (.lst [])) (s3 := { s2 with heap := hp3, toks := s2.toks }) I2 f2 k23 rfl (Nat.le_refl _) (fun b hb => zl hb) hDn I6
   obtain ⟨m, hm, _⟩ := I6.loc
   refine fin s2.heap.objs.size hp3.objs.size H5 s6 m I7 hm I6.free ?_ ?_ (fun y c e z => ?_) (fun p hp z => ?_) qn
   ·intro z
    have := I2.lt
    rw [← z, hC3] at this
    exact absurd this (Nat.not_lt.mpr (Nat.le_succ _))
   ·rw [hC3]; exact Nat.le_succ_of_le I2.sz
   ·obtain ⟨v', o', ho', _⟩ := I2.cell y c e
    have := Heap.lt_size ho'
    rw [z, hC3] at this
    exact absurd this (Nat.not_lt.mpr (Nat.le_succ _))
   ·have := Heap.lt_size (I2.pin p hp).1
    rw [z, hC3] at this
    exact absurd this (Nat.not_lt.mpr (Nat.le_succ _))
  ·refine thn (T.item (kn X scope x ys hp3.objs.size { s2 with heap := hp3, toks := s2.toks } (upd H2 s2.heap.objs.size (.lst [])) fp) rfl rfl rfl rfl i [] s5 _ H5 (fun _ _ => False) I5 (stat fr5) st5 go) fun r s6 ⟨u, hr, h6⟩ => ?_
   subst hr
   refine thn h6 fun _ s7 ⟨xv, H7, I7, r7, y7, st7, fr7⟩ => ?_
   have I7' := I7.pinned (stat fr7) (T.obj _ _ st7)
   have again : ∀ {s' : Shared} {H' : Hp} {m' : Nat}, Inv (kn X scope x ys hp3.objs.size { s2 with heap := hp3, toks := s2.toks } (upd H2 s2.heap.objs.size (.lst [])) fp) ([] ++ zdx fp s7.heap) (cSt js (some xv) σ) H' s' → m' < n → W (i + 1) m' H' →
     ∃ m, m < n ∧ ∃ i o H', Inv (kn X scope x ys hp3.objs.size { s2 with heap := hp3, toks := s2.toks } (upd H2 s2.heap.objs.size (.lst [])) fp) [] (cSt js o σ) H' s' ∧ tn i s'.heap ∧ (∀ b ∈ fp, H' b = none) ∧ W i m H' := fun {s' H' m'} J hm hw => by
    refine ⟨m', hm, i + 1, some xv, H', J.unpinned, T.keep _ _ _ st7 fun b hb o e => (J.pin (b, o) (List.mem_append_right _ (List.mem_append_right _ (zbg hb e)))).1, fun b hb => ?_, hw⟩
    obtain ⟨o, e, d⟩ := T.obj _ _ st7 b hb
    exact (J.pin (b, o) (List.mem_append_right _ (List.mem_append_right _ (zbg hb e)))).2.1
   have hg : PG (kn X scope x ys hp3.objs.size { s2 with heap := hp3, toks := s2.toks } (upd H2 s2.heap.objs.size (.lst [])) fp) (.Name x px) (gName 0) := vj hnd rfl (.inl (lookup_relabel_local S.hx)) (.inr (lookup_relabel_local S.hx))
   refine thn (hg _ s7 _ H7 xv u (fun σ' H' => σ' = cSt js (some xv) σ ∧ H' = H7) I7' r7 ⟨rfl, rfl⟩) fun _ s8 ⟨σ8, H8, I8, e8, e8'⟩ => ?_
   subst e8 e8'
   refine thn (ht _ _ _ _ _ s8 _ _ _ I8 (step xv _ y7)) fun c s9 ⟨H9, I9, q9⟩ => ?_
   cases c with
   | false =>
    obtain ⟨m', hm, hw⟩ := hN H9 q9
    exact again I9 hm hw
   | true =>
    show wpAny _ _ _ _ _ _
    refine thn (he _ _ _ _ _ s9 _ _ _ I9 q9) fun y s10 ⟨yv, H10, I10, r10, q10⟩ => ?_
    obtain ⟨zs, hD10, hz, hw⟩ := q10
    obtain ⟨m', hm, hw⟩ := hN _ hw
    refine thn (qo _ s10 _ H10 (.ref s2.heap.objs.size) [yv] _ [y] (fun _ H' => H' = upd H10 s2.heap.objs.size (.lst (zs ++ [yv]))) I10 rfl (.cons r10 .nil) ⟨_, zs, yv, rfl, rfl, hD10, hz, rfl⟩) fun _ s11 ⟨_, H11, I11, _, e11⟩ => ?_
    subst e11
    exact again I11 hm hw
 exact codeAny_compStart_list (loop _ rfl) (T.self _ 0 _ _ _ st4 (loop _ rfl))
noncomputable def tComp (wi : TI) (js : List Nat) (tc : TT) (te : TE) : TE := fun σ H Q => zf6 wi js tc te σ H Q
theorem pe_comp (hc : X.calm = true) (hi : PI X (.Name x px) iter wi) (S : compB scope X.env x ys = true) (hjs : js.map (fun j => X.N[j]?) = ys.map some) (hnd : (x :: ys).Nodup)
  (ht : ∀ C s₀ H₀ fp, PTs (kn X scope x ys C s₀ H₀ fp) ifs tc) (he : ∀ C s₀ H₀ fp, PE (kn X scope x ys C s₀ H₀ fp) elt te)
  (hs : ∀ x, foldedSetIterable iter X.env x = pure x := by intro _; rfl) : PE X (.ListComp elt [⟨.Name x px, iter, ifs, 0⟩] scope pos) (tComp wi js tc te) := by
 intro pins s σ H Q I h
 rw [eval_ListComp]
 refine zeq hc hi (zer S) hjs hnd ht he I h (fun D C H' s' m J hn f1 f2 f3 f4 f5 q => ?_) hs
 refine ⟨m, hn, fun h' hs' => ⟨.ref D, H', ?_, rfl, q⟩⟩
 exact J.turned (t' := s'.toks) (fun b o hb e => (hs'.2 b hb).trans e) f1 f2 (.inr f3) f4 f5
noncomputable def sComp (i : Nat) (wi : TI) (js : List Nat) (tc : TT) (te : TE) : TS := fun D σ H => zf6 wi js tc te σ H fun v H' => D.nx (σ.set i (some v)) H'
theorem zdv {i : Nat} {y : Str} {py spos : Pos} (hN : X.N.Nodup) (hiy : X.N[i]? = some y) (hy : X.env.scope.names.lookup y = some .local) (hc : X.calm = true) (hi : PI X (.Name x px) iter wi) (S : compB scope X.env x ys = true) (hjs : js.map (fun j => X.N[j]?) = ys.map some) (hnd : (x :: ys).Nodup)
  (ht : ∀ C s₀ H₀ fp, PTs (kn X scope x ys C s₀ H₀ fp) ifs tc) (he : ∀ C s₀ H₀ fp, PE (kn X scope x ys C s₀ H₀ fp) elt te)
  (hsw : swapsWith (.ListComp elt [⟨.Name x px, iter, ifs, 0⟩] scope pos) (some (.Name y py)) spos.line X.env = pure true := by rfl)
  (hs : ∀ x, foldedSetIterable iter X.env x = pure x := by intro _; rfl) : PS X (.Assign [.Name y py] (.ListComp elt [⟨.Name x px, iter, ifs, 0⟩] scope pos) spos) (sComp i wi js tc te) := by
 intro pins s σ H D I h
 rw [exec_Assign_Name_used _ _ _ _ hsw]
 refine wpAny_bind (wpAny_standAt (wpAny_bind ?_))
 show wpAny _ _ (do let _ ← comprehension (.ListComp elt [⟨.Name x px, iter, ifs, 0⟩] scope pos) scope X.env _ (newList []) false (eval iter X.env) (some (assign (.Name y py) X.env))) _ _ s
 refine wpAny_bind (wpAny_mono (zeq (use := some (assign (.Name y py) X.env)) (Q := fun _ s' => SP X pins D .next s') hc hi (zer S) hjs hnd ht he I h (fun D' C H' s' m J hn f1 f2 f3 f4 f5 q => ?_) hs)
  (fun _ s' hq => wpAny_pure (wpAny_pure hq)) fun _ _ e => e)
 show wpAny _ _ (assign (.Name y py) X.env (.ref D')) _ _ s'
 refine wpAny_assign_Name (zei (v := .ref D') J hN hiy (.inl hy) rfl (fun s'' J' ⟨a, sb, ha⟩ => ?_) (.inr hy))
 have ne : C ≠ a := by
  rcases ha with ha | ha
  ·rw [ha]; exact f2
  ·exact Ne.symm (f4 _ _ ha)
 refine ⟨m, hn.sameBut sb ne, fun h' hs' => ⟨_, _, ?_, q⟩⟩
 exact J'.turned (t' := s''.toks) (fun b o hb e => (hs'.2 b hb).trans e) f1 f2 (.inr f3) f4 f5
end
end L2
namespace HT
open PySem PySem.AutoSeq1 PyProof.Rows
theorem ext_tup (l : Addr) (items : Array Value) (n : Nat) (b : Addr) (items2 : Array Value) (n2 : Nat) (dd : Option Addr) (sl : Array (Option Value)) (hs0 : ¬(!items.isEmpty && Builtin.List.listTooLong (items.size + items2.size)) = true) (hs1 : items.size ≤ sizeLine) (hs2 : items.size + items2.size ≤ sizeLine + 1) :
  Meets (Builtin.«list.extend» ⟨[.ref l, .ref b], []⟩) (fun _ R s => s.heap.get? l = some { cls := .type "list", dict := none, data := .seq items n, slots := #[] } ∧ s.heap.get? b = some { cls := .type "tuple", dict := dd, data := .seq items2 n2, slots := sl } ∧ R (.ok (.ret Value.none)) { s with heap := s.heap.update l (Obj.mapSeq fun x => x ++ items2), toks := s.toks }) :=
 .of_wp fun prog w A R s h => by
  obtain ⟨hp, g, d, tk, os⟩ := s; obtain ⟨hl, hb, h⟩ := h; have f1 := AutoSeq1.idx_int; have f2 := AutoSeq1.sub_tuple_tuple; have f3 := AutoSeq1.sub_list_list; have f4 := AutoSeq1.sub_tuple_list; have f5 := AutoSeq1.sub_list_tuple;
  have hz' : (items ++ items2).size ≤ sizeLine + 1 := by rw [Array.size_append]; exact hs2
  wp_walk using (wpAny_updateSeq hl rfl (hz := hs1) (_hz' := hz')), wpAny_loadPart' hl, wpAny_loadPart' hb; exact ⟨_, rfl, h⟩
end HT
namespace L2
open PySem PySem.Spec PyProof.Rows
section
variable {X : Cx}
theorem vk : OpR X (binaryOp .Mult) (rI IntMulOk fun i j => .int (i * j)) := opI fun _ _ _ _ _ _ _ hc q => mul_int q hc
end
noncomputable def isT (T c : String) : Option Bool := W.kitOne { } (.type T) (.type c)
noncomputable def zfx (T : String) (cs : List String) : Option Bool := W.kitAny { } (.type T) (cs.map Value.type)
theorem zbx (K : W.Frag) (T c : String) : W.kitOne K (.type T) (.type c) = isT T c := rfl
theorem zby (K : W.Frag) (T : String) : ∀ cs : List String, W.kitAny K (.type T) (cs.map Value.type) = zfx T cs
 | [] => rfl
 | c :: r => by
  unfold zfx
  simp only [List.map_cons, W.kitAny, zbx]
  have ih := zby K T r
  unfold zfx at ih
  rw [ih]
noncomputable def rIsi (K : W.Frag) : List V → Hp → VK → Prop := fun xs H Q => ∃ x T c b, xs = [x, .ty c] ∧ TyOf K H x (.type T) ∧ isT T c = some b ∧ Q (.bl b) H
noncomputable def rIsiT (K : W.Frag) : List V → Hp → VK → Prop := fun xs H Q => ∃ x T tp cs b, xs = [x, .ref tp] ∧ TyOf K H x (.type T) ∧ H tp = some (.tup (cs.map V.ty)) ∧ zfx T cs = some b ∧ Q (.bl b) H
theorem zcf : ∀ {cs : List String} {us : List Value}, Vals (cs.map V.ty) us → us = cs.map Value.type
 | [], _, .nil => rfl
 | c :: r, _, .cons h t => by
  rw [show _ = Value.type c from h, zcf t]
  rfl
section
variable {X : Cx}
theorem call_isi : zcd X (.builtin "isinstance") (rIsi X.K) := by
 intro pins s σ H xs us Q I r h
 obtain ⟨x, T, c, b, rfl, ty, e, q⟩ := h
 obtain ⟨u, w', rfl, r1, r2⟩ := vals2 r
 cases (show w' = Value.type c from r2)
 exact isinst_ok I r1 ty ((zbx _ _ _).trans e) fun tk => ⟨.bl b, H, I.tok tk, rfl, q⟩
theorem kitx_ty {K : W.Frag} {H : Hp} {pins : List (Addr × Obj)} {σ : St} {s : Shared} {x : V} {u : Value} {T : String} (I : Inv X pins σ H s) (rx : RelV x u) (ty : TyOf K H x (.type T)) :
  ∃ P : Heap → Prop, W.KitX X.K u (.type T) P ∧ P s.heap ∧ u ≠ .builtin "__main__.__loader__#opaque" := by
 cases ty with
 | non => cases (show u = Value.none from rx); exact ⟨_, W.kitx_none, True.intro, fun z => nomatch z⟩
 | bl y => cases (show u = Value.bool y from rx); exact ⟨_, W.kitx_bool, True.intro, fun z => nomatch z⟩
 | int i => obtain ⟨t, q⟩ := (show ∃ t, u = Value.int i t from rx); cases q; exact ⟨_, W.kitx_int, True.intro, fun z => nomatch z⟩
 | str y => obtain ⟨t, q⟩ := (show ∃ t, u = Value.str y t from rx); cases q; exact ⟨_, W.kitx_str, True.intro, fun z => nomatch z⟩
 | flt y => obtain ⟨t, q⟩ := (show ∃ t, u = Value.float y t from rx); cases q; exact ⟨_, W.kitx_float, True.intro, fun z => nomatch z⟩
 | @lst a xs ea =>
  cases (show u = Value.ref a from rx)
  obtain ⟨_, _, n, _, h1⟩ := (show jp X.prog X.w H s.heap a (.lst xs) from I.hok a _ ea)
  exact ⟨_, W.kitx_list, ⟨_, h1, rfl⟩, fun z => nomatch z⟩
 | @frz a ob xs ea =>
  cases (show u = Value.ref a from rx)
  obtain ⟨_, _, _, n, _, h1⟩ := (show jp X.prog X.w H s.heap a (.frz ob (.lst xs)) from I.hok a _ ea)
  exact ⟨_, W.kitx_list, ⟨_, h1, rfl⟩, fun z => nomatch z⟩
 | @tup a xs ea =>
  cases (show u = Value.ref a from rx)
  obtain ⟨_, _, _, p⟩ := (show jp X.prog X.w H s.heap a (.tup xs) from I.hok a _ ea)
  obtain ⟨o, h1, h2, _⟩ := p
  exact ⟨_, W.kitx_tuple, ⟨o, h1, h2⟩, fun z => nomatch z⟩
 | @dK a kvs ea =>
  cases (show u = Value.ref a from rx)
  obtain ⟨_, _, vs, _, p⟩ := (show jp X.prog X.w H s.heap a (.dK kvs) from I.hok a _ ea)
  obtain ⟨o, es, ep, h1, h2, _⟩ := p
  exact ⟨_, W.kitx_dict, ⟨o, h1, h2.1⟩, fun z => nomatch z⟩
 | @dT a kvs ea =>
  cases (show u = Value.ref a from rx)
  obtain ⟨_, _, xs, _, o, es, ep, h1, h2, _⟩ := (show jp X.prog X.w H s.heap a (.dT kvs) from I.hok a _ ea)
  exact ⟨_, W.kitx_dict, ⟨o, h1, h2.1⟩, fun z => nomatch z⟩
theorem call_isiT : zcd X (.builtin "isinstance") (rIsiT X.K) := by
 intro pins s σ H xs us Q I r h
 obtain ⟨x, T, tp, cs, b, rfl, ty, ht, e, q⟩ := h
 obtain ⟨u, w', rfl, r1, r2⟩ := vals2 r
 cases (show w' = Value.ref tp from r2)
 obtain ⟨P, Z, hP, hx⟩ := kitx_ty I r1 ty
 obtain ⟨_, its, rv, o, ho, hc, n, hd⟩ := (show jp X.prog X.w H s.heap tp (.tup (cs.map V.ty)) from I.hok tp _ ht)
 obtain ⟨c0, dd, data, sl⟩ := o
 simp only at hc hd
 subst hc hd
 have hi := zcf rv
 subst hi
 exact W.kia_tup Z I.kIn hP ho ((zby _ _ _).trans e) hx fun tk => ⟨.bl b, H, I.tok tk, rfl, q⟩
end
section
variable {X : Cx}
theorem sqL_obj {pins : List (Addr × Obj)} {σ : St} {H : Hp} {s : Shared} {a : Addr} {xs : List V} (I : Inv X pins σ H s) (h : SqL X.K H a xs) :
  ∃ (its : List Value) (n : Nat) (dd : Option Addr) (sl : Array (Option Value)), Vals xs its ∧ s.heap.get? a = some { cls := .type "list", dict := dd, data := .seq its.toArray n, slots := sl } := by
 obtain ⟨its, r, ⟨o, n, e, c, d, dt⟩, _⟩ := I.list h
 obtain ⟨c0, d0, dt0, sl0⟩ := o
 simp only at c d dt
 subst c dt
 exact ⟨its, n, d0, sl0, r, e⟩
noncomputable def rNeNil (K : W.Frag) : R2 := fun x y H Q => ∃ a b xs, x = .ref a ∧ y = .ref b ∧ SqL K H a xs ∧ SqL K H b [] ∧ Q (.bl (!xs.isEmpty)) H
theorem zax (hu : X.A.units < cLine) : OpR X (compareOp .NotEq) (rNeNil X.K) := by
 intro pins s σ H x y v u Q I rx ry h
 obtain ⟨a, b, xs, rfl, rfl, ha, hb, q⟩ := h
 cases rx
 cases ry
 obtain ⟨its, n, dd, sl, r, ho⟩ := sqL_obj I ha
 obtain ⟨its2, n2, dd2, sl2, r2, ho2⟩ := sqL_obj I hb
 cases r2
 cases r with
 | nil =>
  refine richCompare_meets_room (op := .NotEq) ⟨_, ho, rfl⟩ ⟨_, ho2, rfl⟩ F.slot_list_ne F.entry_list_ne (F.args_list_ne_2 _ _) (SeqAt.list_neAt a b _ _ n n2 dd dd2 sl sl2 rfl (fun _ => true)) ⟨ho, ho2, ?_, ?_⟩ hu
  ·intro j h1; simp at h1
  ·exact ⟨(fun x => nomatch x), ⟨.bl false, H, I, rfl, q⟩⟩
 | cons r1 r2 =>
  refine richCompare_meets_room (op := .NotEq) ⟨_, ho, rfl⟩ ⟨_, ho2, rfl⟩ F.slot_list_ne F.entry_list_ne (F.args_list_ne_2 _ _) (SeqAt.list_ne_lengthsAt a b _ _ n n2 dd dd2 sl sl2 (by simp)) ⟨ho, ho2, ?_⟩ hu
  exact ⟨(fun x => nomatch x), ⟨.bl true, H, I, rfl, q⟩⟩
end
section
variable {X : Cx}
end
section
variable {X : Cx} {tg : Expr}
noncomputable def rSlS : V → Option Int → Option Int → Hp → VK → Prop := fun x lo hi H Q => ∃ z, x = .str z ∧ z.length ≤ sizeLine ∧ Q (.str (Txt.slice z lo hi)) H
theorem part_of {v : Value} {o : Option Int} (p : IsPart v o) : ∃ l : Option (Int × Tok), v = partValue l ∧ l.map (·.1) = o := by
 cases p with
 | none => exact ⟨none, rfl, rfl⟩
 | int i t => exact ⟨some (i, t), rfl, rfl⟩
theorem sl_str : SlR X rSlS := by
 intro pins s σ H x v vl vu lo hi sl Q I rx hs pl pu h
 obtain ⟨z, rfl, hz, q⟩ := h
 obtain ⟨t, rfl⟩ := rx
 obtain ⟨l, rfl, el⟩ := part_of pl
 obtain ⟨u, rfl, eu⟩ := part_of pu
 subst el eu
 refine ⟨"str", _, F.slot_str_getitem.lookup, typeIs_str _ _ _, wpAny_getItem_str_slice (l := l) (u := u) (st := none) hs rfl (post_val_or_str ⟨Nat.le_trans (Txt.slice_le z _ _) hz, fun t' k => ?_⟩)⟩
 exact ⟨.str (Txt.slice z (l.map (·.1)) (u.map (·.1))), H, I.tok k, ⟨t', rfl⟩, q⟩
noncomputable def Itd (hi : Int) (n : Nat) : It := ⟨fun i _ => i < n, fun i H x H' => H' = H ∧ x = .int (hi - i), fun i _ => n ≤ i⟩
theorem turn_rangeD {P : Program} {w : World} {K : W.Frag} (it : Addr) (hi : Int) (n : Nat) : Turn P w K tg (Itd hi n) [it] it (fun i h => IsRangeIter h it (hi + (i : Nat) * (-1)) ((n : Int) - (i : Nat)) (-1)) where
 mem := by simp
 obj := fun i h st b hb => by
  have e : b = it := by simpa using hb
  subst e
  exact ⟨_, st, fun v z => by
   have z' : Data.fields _ = Data.cell v := z
   cases z'⟩
 keep := fun i h h' st k => k it (by simp) _ st
 item := by
  intro X hP hw hK hc i pins s σ H E I hf st hg
  subst hP hw hK
  obtain ⟨f0, f1, f2, f3, f4, f5⟩ := hf it (by simp)
  have W := Walks.range (prog := X.prog) (w := X.w) (I.ok.hd hc) it hi (-1) n
  refine W.item i s _ _ hg st fun v h' tk hv st' kk => ?_
  obtain ⟨t, rfl⟩ := hv
  have I1 : Inv X pins σ H { s with heap := h', toks := tk } := I.turned (fun b o hb e => kk b o (by simpa using hb) e) f0 f1 f3 f4 f5
  refine ⟨_, rfl, go_of (s := { s with heap := h', toks := tk }) (n := "range_iterator") st' rfl rfl (by decide) ⟨.int (hi - i), H, I1, ⟨t, ?_⟩, ⟨rfl, rfl⟩, st', fun b hb => (hf b hb).1⟩⟩
  have : hi + (i : Int) * (-1) = hi - i := by omega
  rw [this]
 done := by
  intro X hP hw hK hc i pins s σ H E I hf st hg
  subst hP hw hK
  obtain ⟨f0, f1, f2, f3, f4, f5⟩ := hf it (by simp)
  exact wpAny_pyNext_range_end (I.ok.hd hc) st (by have : n ≤ i := hg; omega) fun h' eb => ⟨rfl, I.turned (t' := s.toks) (fun b o hb e => eb b o hb e) f0 f1 f3 f4 f5⟩
 self := fun _ _ _ _ _ st h => wpAny_pyIter_rangeiter st h
theorem range_itD {pins : List (Addr × Obj)} {σ : St} {H : Hp} {s : Shared} {R : It → Hp → Prop} {E : Value → Shared → Prop} {hi lo : Int} {t u v : Tok} {tk : Nat} (I : Inv X pins σ H s) (h1 : -(2 ^ 62) ≤ lo) (h2 : lo < 2 ^ 62) (h3 : -(2 ^ 62) ≤ hi) (h4 : hi < 2 ^ 62)
  (q : R (Itd hi (hi - lo).toNat) H) : wpAny (model X.prog X.w) X.A (pyIter (.ref s.heap.objs.size)) (PIE X pins σ tg R) E { s with heap := s.heap.push { cls := .type "range", data := .fields #[.int hi t, .int lo u, .int (-1) v] }, toks := tk } := by
 have hsz : Builtin.Range.rangeSize hi lo (-1) = if hi > lo then hi - lo else 0 := by
  unfold Builtin.Range.rangeSize
  rw [if_neg (by decide)]
  simp only [Int.neg_neg, Int.ediv_one]
  split <;> omega
 have hsm : Builtin.Range.small hi lo (-1) = true := by
  unfold Builtin.Range.small
  rw [hsz]
  simp only [Builtin.Range.rangeFitsLong, Bool.and_eq_true, Bool.or_eq_true, decide_eq_true_eq, beq_iff_eq]
  rw [if_neg (show ¬ ((-1 : Int) > 0) by decide)]
  simp only [Bool.and_eq_true, decide_eq_true_eq]
  by_cases hgt : hi > lo
  ·simp only [if_pos hgt]; omega
  ·simp only [if_neg hgt]; omega
 refine wpAny_pyIter_range (IsRange.new ..) hsm ?_
 have I1 : Inv X pins σ H { s with heap := s.heap.push { cls := .type "range", data := .fields #[.int hi t, .int lo u, .int (-1) v] }, toks := tk } := I.kept fun b o e => Heap.get?_push_of_some _ e
 refine ⟨(s.heap.push { cls := .type "range", data := .fields #[.int hi t, .int lo u, .int (-1) v] }).objs.size, [(s.heap.push { cls := .type "range", data := .fields #[.int hi t, .int lo u, .int (-1) v] }).objs.size], _, _, H, rfl,
  I1.kept (t' := tk) fun b o e => Heap.get?_push_of_some _ e, turn_rangeD _ hi (hi - lo).toNat, ?_, fun b hb => ?_, q⟩
 ·have e1 : hi + ((0 : Nat) : Int) * (-1) = hi := by simp
  have e2 : (((hi - lo).toNat : Nat) : Int) - ((0 : Nat) : Int) = Builtin.Range.rangeSize hi lo (-1) := by
   rw [hsz]
   split <;> omega
  show IsRangeIter _ _ (hi + ((0 : Nat) : Int) * (-1)) ((((hi - lo).toNat : Nat) : Int) - ((0 : Nat) : Int)) (-1)
  rw [e1, e2]
  exact Heap.get?_push_size _ rfl
 ·have e : b = (s.heap.push { cls := .type "range", data := .fields #[.int hi t, .int lo u, .int (-1) v] }).objs.size := by simpa using hb
  subst e
  exact I1.fpOk (Nat.le_refl _) (I1.hok.fresh (Nat.le_refl _))
noncomputable def iRngD (ta : TA) : TI := fun σ H R => ta σ H fun vs H1 => ∃ i j : Int, vs = [.int i, .int j, .int (-1)] ∧ (-(2 ^ 62) ≤ i ∧ i < 2 ^ 62 ∧ -(2 ^ 62) ≤ j ∧ j < 2 ^ 62) ∧ R (Itd i (i - j).toNat) H1
theorem pi_rangeD {a b c : Expr} {ta : TA} {p pos : Pos} (hg : Gl X "range") (hm : X.mg "range" = none) (ha : PA X [a, b, c] ta) (hs : starEach [a, b, c] X.env = [(false, eval a X.env), (false, eval b X.env), (false, eval c X.env)] := by rfl) (hs2 : starEach [b, c] X.env = [(false, eval b X.env), (false, eval c X.env)] := by rfl) :
  PI X tg (.Call (.Name "range" p) [a, b, c] [] pos) (iRngD ta) := by
 intro pins s σ H R I h
 refine Call_ (zch I hg hm boot_range (PyProof.Rows.callWith_type1 (thn (ha pos pins s σ H _ I h) fun us s1 ⟨vs, H1, I1, r1, q1⟩ => ?_) (by rw [hs, hs2]) (by rw [hs2]; rfl)))
 obtain ⟨i, j, e, ⟨q1, q2, q3, q4⟩, q⟩ := q1
 subst e
 cases r1 with
 | cons r rr =>
  cases rr with
  | cons r' rr =>
   cases rr with
   | cons r'' rr =>
    cases rr
    obtain ⟨t, rfl⟩ := r
    obtain ⟨t', rfl⟩ := r'
    obtain ⟨t'', rfl⟩ := r''
    exact call_range_3 (by decide) (range_itD I1 q3 q4 q1 q2 q) (.inl (PyProof.noPylong_small (by decide)))
end
section
variable {X : Cx}
theorem op_notIn_seqK (K : W.Frag) (h : X.K = K := by rfl) : OpR X (compareOp .NotIn) (rIn K true) := by subst h; exact op_notIn_seq
theorem call_isiK (K : W.Frag) (h : X.K = K := by rfl) : zcd X (.builtin "isinstance") (rIsi K) := by subst h; exact call_isi
end
end L2
namespace J
section
variable {α : Type} [DecidableEq α]
noncomputable def xq : List α → α → Option Nat
 | [], _ => none
 | y :: r, x => match xq r x with
  | some i => some (i + 1)
  | none => if y = x then some 0 else none
theorem zad : ∀ {l : List α} {x : α} {i : Nat}, xq l x = some i → l[i]? = some x
 | [], _, _, h => by cases h
 | y :: r, x, i, h => by
  unfold xq at h
  cases e : xq r x with
  | some j => rw [e] at h; cases h; simpa using zad e
  | none =>
   rw [e] at h
   dsimp only at h
   split at h
   ·rename_i hy; cases h; simp [hy]
   ·cases h
theorem zbw : ∀ {l : List α} {x : α}, xq l x = none → ∀ i : Nat, l[i]? ≠ some x
 | [], _, _, i => by simp
 | y :: r, x, h, i => by
  unfold xq at h
  cases e : xq r x with
  | some j => rw [e] at h; cases h
  | none =>
   rw [e] at h
   dsimp only at h
   split at h
   ·cases h
   ·rename_i hy
    cases i with
    | zero => simpa using hy
    | succ i => simpa using zbw e i
theorem zci : ∀ {l : List α} {x : α} {i : Nat}, xq l x = some i → ∀ j : Nat, i < j → l[j]? ≠ some x
 | [], _, _, h, _, _ => by cases h
 | y :: r, x, i, h, j, hj => by
  unfold xq at h
  cases e : xq r x with
  | some k =>
   rw [e] at h; cases h
   cases j with
   | zero => omega
   | succ j => simpa using zci e j (by omega)
  | none =>
   rw [e] at h
   dsimp only at h
   split at h
   ·cases h
    cases j with
    | zero => omega
    | succ j => simpa using zbw e j
   ·cases h
theorem v5 {l : List α} {x : α} {i : Nat} (h : xq l x = some i) : i < l.length := (List.getElem?_eq_some_iff.mp (zad h)).1
theorem lastIx_uniq {l : List α} {x : α} {i j : Nat} (h : xq l x = some i) (g : l[j]? = some x) (m : ∀ k : Nat, j < k → l[k]? ≠ some x) : i = j := by
 rcases Nat.lt_trichotomy i j with q | q | q
 ·exact absurd g (zci h j q)
 ·exact q
 ·exact absurd (zad h) (m i q)
theorem j7 {l : List α} {x : α} (h : x ∈ l) : ∃ i, xq l x = some i := by
 cases e : xq l x with
 | some i => exact ⟨i, rfl⟩
 | none =>
  obtain ⟨i, hi⟩ := List.getElem?_of_mem h
  exact absurd hi (zbw e i)
end
inductive O3 where | add | sub | mul
 deriving DecidableEq
noncomputable def O3.f : O3 → Int → Int → Int
 | .add, a, b => a + b
 | .sub, a, b => a - b
 | .mul, a, b => a * b
inductive Sm (α : Type) where
 | num (i : Int)
 | name (x : α)
 | op (o : O3) (a b : Sm α)
section
variable {α : Type} [DecidableEq α]
noncomputable def Sm.val (ns : List α) (ps : List Int) : Sm α → Int
 | .num i => i
 | .name x => match xq ns x with
  | some i => ps.getD i 0
  | none => 0
 | .op o a b => o.f (a.val ns ps) (b.val ns ps)
noncomputable def Sm.lv : Sm α → Nat
 | .num _ => 1
 | .name _ => 1
 | .op _ a b => a.lv + b.lv
noncomputable def Sm.dp : Sm α → Nat
 | .num _ => 1
 | .name _ => 1
 | .op _ a b => max a.dp b.dp + 1
theorem Sm.lv_pos : ∀ s : Sm α, 1 ≤ s.lv
 | .num _ => Nat.le_refl _
 | .name _ => Nat.le_refl _
 | .op _ a b => Nat.le_trans a.lv_pos (Nat.le_add_right _ _)
end
section
variable {α : Type} [DecidableEq α]
end
open PySem L2
theorem j4 : bootBuiltins "list" = some (.type "list") := by decide +kernel
theorem zc1 : bootBuiltins "tuple" = some (.type "tuple") := by decide +kernel
theorem bt_str : bootBuiltins "str" = some (.type "str") := by decide +kernel
theorem zgf : bootBuiltins "int" = some (.type "int") := by decide +kernel
theorem bt_bool : bootBuiltins "bool" = some (.type "bool") := by decide +kernel
theorem qt : bootBuiltins "isinstance" = some (.builtin "isinstance") := by decide +kernel
structure Def (K : W.Frag) (mg : Str → Option Value) (x : Str) (st : Stmt) (ps : List Str) (f : Addr) (fd : FuncData) : Prop where
 F : Fun K x x st f fd
 b : zb1 K fd ps []
 m : mg x = some (.ref f)
theorem ze {H : Hp} {p : Addr} (h : H p = none) (o : HO) : Same H (upd H p o) := fun b u q => by rw [zl (zt q h)]; exact q
theorem _root_.L2.Same.at {H H' : Hp} (S : Same H H') {l : Addr} (h : H l = none) (o : HO) : Same H (upd H' l o) := fun b u q => by rw [zl (zt q h)]; exact S b u q
noncomputable def j8 (H H' : Hp) : Prop := ∀ a xs, H a = some (.tup xs) → H' a = some (.tup xs)
theorem _root_.L2.Same.tup {H H' : Hp} (S : Same H H') : j8 H H' := fun a xs h => S a _ h
theorem j8.trans {H H1 H2 : Hp} (a : j8 H H1) (b : j8 H1 H2) : j8 H H2 := fun c xs h => b c xs (a c xs h)
noncomputable def But (l : Addr) (H H' : Hp) : Prop := ∀ b o, b ≠ l → H b = some o → H' b = some o
theorem But.trans {l : Addr} {H H1 H2 : Hp} (a : But l H H1) (b : But l H1 H2) : But l H H2 := fun c o n h => b c o n (a c o n h)
theorem But.of {l : Addr} {H H' : Hp} (S : Same H H') : But l H H' := fun b o _ h => S b o h
theorem zbj {H : Hp} {l : Addr} (o : HO) : But l H (upd H l o) := fun b u n h => by rw [zl n]; exact h
theorem But.tup {l : Addr} {H H' : Hp} {ys : List V} (B : But l H H') (hl : H l = some (.lst ys)) : j8 H H' := fun a xs h => B a _ (x4 h hl (by intro z; cases z)) h
theorem for_rangeD {hi : Int} {n : Nat} {g : TG} {tb : TS} {D : Ends} {σ : St} {H : Hp} (Pv : Nat → St → Hp → Prop) (h0 : Pv 0 σ H)
  (hs : ∀ i σ H, i < n → Pv i σ H → g (.int (hi - i)) σ H fun σ2 H2 => tb { D with nx := Pv (i + 1), ct := Pv (i + 1), bk := D.nx } σ2 H2) (hd : ∀ σ H, Pv n σ H → D.nx σ H) :
  ∃ W : Nat → Nat → St → Hp → Prop, (∃ m, W 0 m σ H) ∧ ∀ i m σ H, W i m σ H →
   ((Itd hi n).stop i H ∧ D.nx σ H) ∨ ((Itd hi n).go i H ∧ ∃ N : St → Hp → Prop, (∀ σ' H', N σ' H' → ∃ m', m' < m ∧ W (i + 1) m' σ' H') ∧ ∀ x H', (Itd hi n).yld i H x H' → g x σ H' fun σ2 H2 => tb { D with nx := N, ct := N, bk := D.nx } σ2 H2) := by
 refine ⟨fun i m σ H => m = n - i ∧ i ≤ n ∧ Pv i σ H, ⟨n, by simp, Nat.zero_le _, h0⟩, ?_⟩
 rintro i m σ H ⟨rfl, hi', p⟩
 by_cases hlt : i < n
 ·refine .inr ⟨hlt, Pv (i + 1), fun σ' H' p' => ⟨n - (i + 1), by omega, rfl, hlt, p'⟩, fun x H' y => ?_⟩
  obtain ⟨e, y⟩ := y
  subst e y
  exact hs i σ _ hlt p
 ·have e : i = n := by omega
  subst e
  exact .inl ⟨Nat.le_refl _, hd σ H p⟩
section
variable {js : List Nat} {tc : TT} {te : TE} {σ : St} {H : Hp} {R : V → Hp → Prop} {D : Addr}
noncomputable abbrev za2 (js : List Nat) (tc : TT) (te : TE) (σ : St) (D : Addr) (x : V) (H' : Hp) (N : Hp → Prop) : Prop :=
 tc (cSt js (some x) σ) H' fun c H2 => if c = true then te (cSt js (some x) σ) H2 fun y H3 => ∃ ys, H3 D = some (.lst ys) ∧ ys.length < sizeLine ∧ N (upd H3 D (.lst (ys ++ [y]))) else N H2
theorem zf0 {x : V} {H' : Hp} {N : Hp → Prop} (h : te (cSt js (some x) σ) H' fun y H3 => ∃ ys, H3 D = some (.lst ys) ∧ ys.length < sizeLine ∧ N (upd H3 D (.lst (ys ++ [y])))) : za2 js tTrue te σ D x H' N := by
 unfold za2 tTrue
 exact iteT (B := N H') h
theorem zfb {J : It} {n : Nat} (Pv : Nat → Hp → Prop) (h0 : Pv 0 (upd H D (.lst []))) (hgo : ∀ i H, i < n → Pv i H → J.go i H) (hstop : ∀ H, Pv n H → J.stop n H)
  (hs : ∀ i H x H', i < n → Pv i H → J.yld i H x H' → za2 js tc te σ D x H' (Pv (i + 1))) (hd : ∀ H, Pv n H → R (.ref D) H) :
  zf5 J js tc te σ R D H := by
 refine ⟨fun i m H => m = n - i ∧ i ≤ n ∧ Pv i H, ⟨n, by simp, Nat.zero_le _, h0⟩, ?_⟩
 rintro i m H ⟨rfl, hi, p⟩
 by_cases hlt : i < n
 ·exact .inr ⟨hgo i H hlt p, Pv (i + 1), fun H' p' => ⟨n - (i + 1), by omega, rfl, hlt, p'⟩, fun x H' y => hs i H x H' hlt p y⟩
 ·have e : i = n := by omega
  subst e
  exact .inl ⟨hstop H p, hd H p⟩
theorem comp_range {lo : Int} {n : Nat} (Pv : Nat → Hp → Prop) (h0 : Pv 0 (upd H D (.lst []))) (hs : ∀ i H, i < n → Pv i H → za2 js tc te σ D (.int (lo + i)) H (Pv (i + 1))) (hd : ∀ H, Pv n H → R (.ref D) H) :
  zf5 (Itr lo n) js tc te σ R D H :=
 zfb Pv h0 (fun i H h _ => h) (fun H _ => Nat.le_refl n) (fun i H x H' h p y => by obtain ⟨e, y⟩ := y; subst e y; exact hs i _ h p) hd
theorem comp_list {K : W.Frag} {a : Addr} {xs : List V} (Pv : Nat → Hp → Prop) (h0 : Pv 0 (upd H D (.lst []))) (hl : ∀ i H, Pv i H → SqL K H a xs) (hs : ∀ i x H, xs[i]? = some x → Pv i H → za2 js tc te σ D x H (Pv (i + 1))) (hd : ∀ H, Pv xs.length H → R (.ref D) H) :
  zf5 (Itl K a) js tc te σ R D H :=
 zfb (n := xs.length) Pv h0 (fun i H h p => ⟨xs, xs[i], hl i H p, by simp [h]⟩) (fun H p => ⟨xs, hl _ H p, Nat.le_refl _⟩) (fun i H x H' h p y => by obtain ⟨e, y⟩ := y; subst e; exact hs i x _ (y xs (hl i _ p)) p) hd
theorem comp_tup {K : W.Frag} {a : Addr} {xs : List V} (Pv : Nat → Hp → Prop) (h0 : Pv 0 (upd H D (.lst []))) (hl : ∀ i H, Pv i H → SqT K H a xs) (hs : ∀ i x H, xs[i]? = some x → Pv i H → za2 js tc te σ D x H (Pv (i + 1))) (hd : ∀ H, Pv xs.length H → R (.ref D) H) :
  zf5 (Itt K a) js tc te σ R D H :=
 zfb (n := xs.length) Pv h0 (fun i H h p => ⟨xs, xs[i], hl i H p, by simp [h]⟩) (fun H p => ⟨xs, hl _ H p, Nat.le_refl _⟩) (fun i H x H' h p y => by obtain ⟨e, y⟩ := y; subst e; exact hs i x _ (y xs (hl i _ p)) p) hd
end
noncomputable def O3.w : O3 → Str
 | .add => "add"
 | .sub => "sub"
 | .mul => "mul"
inductive qy (H : Hp) : V → Sm Str → Prop where
 | num {a : Addr} {i : Int} : H a = some (.tup [.str "num", .int i]) → qy H (.ref a) (.num i)
 | name {a : Addr} {x : Str} : H a = some (.tup [.str "name", .str x]) → qy H (.ref a) (.name x)
 | op {a : Addr} {o : O3} {u v : V} {s t : Sm Str} : H a = some (.tup [.str o.w, u, v]) → qy H u s → qy H v t → qy H (.ref a) (.op o s t)
theorem qy.mono {H H' : Hp} (L : j8 H H') {v : V} {s : Sm Str} (h : qy H v s) : qy H' v s := by
 induction h with
 | num e => exact .num (L _ _ e)
 | name e => exact .name (L _ _ e)
 | op e _ _ i1 i2 => exact .op (L _ _ e) i1 i2
open PySem L2
theorem len1 {α : Type} {P : List α → Prop} (h : ∀ a, P [a]) : ∀ us : List α, us.length = 1 → P us
 | [a], _ => h a
theorem len2 {α : Type} {P : List α → Prop} (h : ∀ a b, P [a, b]) : ∀ us : List α, us.length = 2 → P us
 | [a, b], _ => h a b
theorem len3 {α : Type} {P : List α → Prop} (h : ∀ a b c, P [a, b, c]) : ∀ us : List α, us.length = 3 → P us
 | [a, b, c], _ => h a b c
theorem len4 {α : Type} {P : List α → Prop} (h : ∀ a b c d, P [a, b, c, d]) : ∀ us : List α, us.length = 4 → P us
 | [a, b, c, d], _ => h a b c d
open PySem L2
theorem qj {b : Bool} {A B : Prop} (e : b = true) (h : A) : if b = true then A else B := by rw [e]; exact iteT h
theorem zo {b : Bool} {A B : Prop} (e : b = false) (h : B) : if b = true then A else B := by rw [e]; exact iteF h
theorem upd_snocI {H : Hp} {D : Addr} {ys : List Int} {y : Int} : upd H D (.lst (ys.map V.int ++ [V.int y])) D = some (.lst ((ys ++ [y]).map V.int)) := by rw [zc, List.map_append]; rfl
theorem xu {α : Type} (xs : List α) (x : α) : (xs ++ [x])[(xs ++ [x]).length - 1]? = some x := by simp
theorem cdiv {i : Int} {j : Int} (h : decide (0 < j ∧ j < 1073741824) = true) : CDiv i j := show 0 < j ∧ j < 1073741824 from of_decide_eq_true h
theorem zaz {a b : Int} (h : decide (-(2 ^ 64) < a ∧ a < 2 ^ 64) = true) : IntMulOk a b := CMul.ok (.inl (of_decide_eq_true h))
theorem zbe {a b : Int} (h : decide (-(2 ^ 64) < b ∧ b < 2 ^ 64) = true) : IntMulOk a b := CMul.ok (.inr (of_decide_eq_true h))
theorem cut {A B : Prop} (f : B → A) (b : B) : A := f b
theorem cutV_ints (ns : List Int) (lo hi : Option Int) : ∃ cs : List Int, cutV (ns.map V.int) lo hi = cs.map V.int ∧ cs.length ≤ ns.length := by
 refine ⟨(ns.drop (HT.sIx (ns.map V.int).length 0 lo)).take (HT.sIx (ns.map V.int).length (ns.map V.int).length hi - HT.sIx (ns.map V.int).length 0 lo), ?_, ?_⟩
 ·unfold cutV
  rw [List.map_take, List.map_drop]
 ·rw [List.length_take, List.length_drop]; omega
inductive Ts where
 | less (a b : Sm Str)
 | same (a b : Sm Str)
 | not (t : Ts)
 | both (t u : Ts)
noncomputable def Ts.val (ns : List Str) (ps : List Int) : Ts → Bool
 | .less a b => decide (a.val ns ps < b.val ns ps)
 | .same a b => decide (a.val ns ps = b.val ns ps)
 | .not t => !t.val ns ps
 | .both t u => t.val ns ps && u.val ns ps
inductive qu (H : Hp) : V → Ts → Prop where
 | less {a : Addr} {u v : V} {s t : Sm Str} : H a = some (.tup [.str "less", u, v]) → qy H u s → qy H v t → qu H (.ref a) (.less s t)
 | same {a : Addr} {u v : V} {s t : Sm Str} : H a = some (.tup [.str "same", u, v]) → qy H u s → qy H v t → qu H (.ref a) (.same s t)
 | not {a : Addr} {u : V} {t : Ts} : H a = some (.tup [.str "not", u]) → qu H u t → qu H (.ref a) (.not t)
 | both {a : Addr} {u v : V} {s t : Ts} : H a = some (.tup [.str "both", u, v]) → qu H u s → qu H v t → qu H (.ref a) (.both s t)
theorem qu.mono {H H' : Hp} (L : j8 H H') {v : V} {t : Ts} (h : qu H v t) : qu H' v t := by
 induction h with
 | less e h1 h2 => exact .less (L _ _ e) (h1.mono L) (h2.mono L)
 | same e h1 h2 => exact .same (L _ _ e) (h1.mono L) (h2.mono L)
 | not e _ ih => exact .not (L _ _ e) ih
 | both e _ _ i1 i2 => exact .both (L _ _ e) i1 i2
open PySem L2
theorem xi {i : Nat} {x c : V} {t u : TS} {D : _} {σ : St} {H : Hp} (hx : σ[i]? = some (some x)) (h : decide (x = c) = false) (q : u D σ H) (hs : scal x c = true) : tSeq (tIfS (tTest (tOp rEq (tVar i) (tC c))) t tNext) u D σ H := ⟨x, hx, hs, _, rfl, zo h q⟩
deriving instance DecidableEq for Sm
section
variable {α : Type} [DecidableEq α]
noncomputable def shortPair (o : O3) (a b : Sm α) : Sm α :=
 match a, b with
 | .num i, .num j => .num (o.f i j)
 | a, b =>
  if o = .mul ∧ (a = .num 0 ∨ b = .num 0) then .num 0
  else if b = (if o = .mul then .num 1 else .num 0) then a
  else if a = (if o = .mul then .num 1 else .num 0) ∧ o ≠ .sub then b
  else .op o a b
noncomputable def Sm.short : Sm α → Sm α
 | .op o a b => shortPair o a.short b.short
 | s => s
noncomputable def Sm.nm (ns : List α) : Sm α → Prop
 | .num _ => True
 | .name x => x ∈ ns
 | .op _ a b => a.nm ns ∧ b.nm ns
end
end J
namespace L2
open PySem PySem.Spec PyProof.Rows
section
variable {prog : Program} {w : World} {A : Around} {E : Value → Shared → Prop} {s : Shared}
end
section
variable {X : Cx} {pos : Pos}
end
noncomputable def TpK (K : W.Frag) (H : Hp) (a : Addr) (xs : List V) : Prop :=
 H a = some (.tup xs) ∨ ∃ (o : Obj) (its : Array Value) (n : Nat), K.lookup a = some o ∧ o.cls = .type "tuple" ∧ o.data = .seq its n ∧ its.size ≤ sizeLine ∧ Vals xs its.toList
theorem TpK.sq {K : W.Frag} {H : Hp} {a : Addr} {xs : List V} (h : TpK K H a xs) : SqT K H a xs := by
 rcases h with h | h
 ·exact SqT.of h
 ·exact .inr h
noncomputable def TyT (K : W.Frag) (H : Hp) (x : V) (T : String) : Prop := TyOf K H x (.type T) ∨ T = "tuple" ∧ ∃ a xs, x = .ref a ∧ TpK K H a xs
section
variable {X : Cx}
theorem zfw {H : Hp} {pins : List (Addr × Obj)} {σ : St} {s : Shared} {x : V} {u : Value} {T : String} (I : Inv X pins σ H s) (rx : RelV x u) (ty : TyT X.K H x T) :
  ∃ P : Heap → Prop, W.KitX X.K u (.type T) P ∧ P s.heap ∧ u ≠ .builtin "__main__.__loader__#opaque" := by
 rcases ty with ty | ⟨rfl, a, xs, rfl, h⟩
 ·exact kitx_ty I rx ty
 ·cases (show u = Value.ref a from rx)
  obtain ⟨its, _, ⟨o, h1, h2, _⟩, _⟩ := I.tuple h.sq
  exact ⟨_, W.kitx_tuple, ⟨o, h1, h2⟩, fun z => nomatch z⟩
noncomputable def rIsiP (K : W.Frag) : List V → Hp → VK → Prop := fun xs H Q => ∃ x T c b, xs = [x, .ty c] ∧ TyT K H x T ∧ isT T c = some b ∧ Q (.bl b) H
noncomputable def rIsiTP (K : W.Frag) : List V → Hp → VK → Prop := fun xs H Q => ∃ x T tp cs b, xs = [x, .ref tp] ∧ TyT K H x T ∧ H tp = some (.tup (cs.map V.ty)) ∧ zfx T cs = some b ∧ Q (.bl b) H
theorem jb : zcd X (.builtin "isinstance") (rIsiP X.K) := by
 intro pins s σ H xs us Q I r h
 obtain ⟨x, T, c, b, rfl, ty, e, q⟩ := h
 obtain ⟨u, w', rfl, r1, r2⟩ := vals2 r
 cases (show w' = Value.type c from r2)
 obtain ⟨P, Z, hP, hx⟩ := zfw I r1 ty
 exact W.kia_one Z I.kIn hP ((zbx _ _ _).trans e) hx fun tk => ⟨.bl b, H, I.tok tk, rfl, q⟩
theorem call_isiTP : zcd X (.builtin "isinstance") (rIsiTP X.K) := by
 intro pins s σ H xs us Q I r h
 obtain ⟨x, T, tp, cs, b, rfl, ty, ht, e, q⟩ := h
 obtain ⟨u, w', rfl, r1, r2⟩ := vals2 r
 cases (show w' = Value.ref tp from r2)
 obtain ⟨P, Z, hP, hx⟩ := zfw I r1 ty
 obtain ⟨_, its, rv, o, ho, hc, n, hd⟩ := (show jp X.prog X.w H s.heap tp (.tup (cs.map V.ty)) from I.hok tp _ ht)
 obtain ⟨c0, dd, data, sl⟩ := o
 simp only at hc hd
 subst hc hd
 have hi := zcf rv
 subst hi
 exact W.kia_tup Z I.kIn hP ho ((zby _ _ _).trans e) hx fun tk => ⟨.bl b, H, I.tok tk, rfl, q⟩
noncomputable def rExtendP (K : W.Frag) : V → List V → Hp → VK → Prop := fun x vs H Q => ∃ l b xs zs, x = .ref l ∧ vs = [.ref b] ∧ H l = some (.lst xs) ∧ (H b = some (.lst zs) ∨ TpK K H b zs) ∧ xs.length + zs.length ≤ sizeLine ∧ Q .non (upd H l (.lst (xs ++ zs)))
theorem qz : MtM X "list.extend" (rExtendP X.K) := by
 intro pins s σ H x vs v us Q I rx rv h
 obtain ⟨l, b, xs, zs, rfl, rfl, hH, hB, hz, q⟩ := h
 rcases hB with hB | hB
 ·exact mt_extend pins s σ H _ _ v us Q I rx rv ⟨l, b, xs, zs, rfl, rfl, hH, hB, hz, q⟩
 cases rx
 obtain ⟨u, rfl, ru⟩ := rv.one
 cases ru
 obtain ⟨z, its, n, r, hl, e⟩ := I.lstM hH
 obtain ⟨its2, r2, ⟨⟨c0, dd, data, sl⟩, ho, hc, n2, hd⟩, z2⟩ := I.tuple hB.sq
 simp only at hc hd
 subst hc hd
 have hl2 := r2.length
 have hsz : its.toArray.size + its2.toArray.size ≤ sizeLine := by rw [List.size_toArray, List.size_toArray]; omega
 have hlong : ¬ (!its.toArray.isEmpty && Builtin.List.listTooLong (its.toArray.size + its2.toArray.size)) = true := by
  rw [zft hsz, Bool.and_false]
  exact Bool.false_ne_true
 refine call_meets F.slot_list_extend ⟨_, e, rfl⟩ F.entry_list_extend (F.args_list_extend_2 _ _)
  (HT.ext_tup l its.toArray n b its2.toArray n2 dd sl hlong (by rw [List.size_toArray]; omega) (by omega)) ⟨e, ho, ?_⟩
 refine ⟨.non, _, I.lset (its' := its ++ its2) hH e (by simp) (r.append r2) ?_, rfl, q⟩
 rw [List.length_append]
 omega
end
end L2
namespace J
open PySem L2
theorem _root_.L2.TpK.mono {K : W.Frag} {H H' : Hp} (L : j8 H H') {a : Addr} {xs : List V} (h : TpK K H a xs) : TpK K H' a xs := by
 rcases h with h | h
 ·exact .inl (L _ _ h)
 ·exact .inr h
inductive SumK (K : W.Frag) (H : Hp) : V → Sm Str → Prop where
 | num {a : Addr} {i : Int} : TpK K H a [.str "num", .int i] → SumK K H (.ref a) (.num i)
 | name {a : Addr} {x : Str} : TpK K H a [.str "name", .str x] → SumK K H (.ref a) (.name x)
 | op {a : Addr} {o : O3} {u v : V} {s t : Sm Str} : TpK K H a [.str o.w, u, v] → SumK K H u s → SumK K H v t → SumK K H (.ref a) (.op o s t)
theorem qy.k {K : W.Frag} {H : Hp} {v : V} {s : Sm Str} (h : qy H v s) : SumK K H v s := by
 induction h with
 | num e => exact .num (.inl e)
 | name e => exact .name (.inl e)
 | op e _ _ i1 i2 => exact .op (.inl e) i1 i2
section
variable {X : Cx}
end
inductive AlkK (K : W.Frag) (H : Hp) : List V → List V → Nat → Prop where
 | nil : AlkK K H [] [] 0
 | int {i : Int} {xs ys : List V} {n : Nat} : AlkK K H xs ys n → AlkK K H (.int i :: xs) (.int i :: ys) (n + 1)
 | str {z : Str} {xs ys : List V} {n : Nat} : AlkK K H xs ys n → AlkK K H (.str z :: xs) (.str z :: ys) (n + 1)
 | tup {a b : Addr} {us vs xs ys : List V} {m n : Nat} : TpK K H a us → TpK K H b vs → AlkK K H us vs m → AlkK K H xs ys n → AlkK K H (.ref a :: xs) (.ref b :: ys) (m + n + 1)
theorem AlkK.app {K : W.Frag} {H : Hp} {xs ys us vs : List V} {m n : Nat} (h : AlkK K H xs ys m) (g : AlkK K H us vs n) : AlkK K H (xs ++ us) (ys ++ vs) (m + n) := by
 induction h with
 | nil => rw [Nat.zero_add]; exact g
 | @int i xs ys k _ ih => rw [show k + 1 + n = (k + n) + 1 by omega]; exact .int ih
 | @str z xs ys k _ ih => rw [show k + 1 + n = (k + n) + 1 by omega]; exact .str ih
 | @tup a b us vs xs ys m' n' e1 e2 h1 _ _ ih => rw [show m' + n' + 1 + n = m' + (n' + n) + 1 by omega]; exact .tup e1 e2 h1 ih
inductive zed (K : W.Frag) (H : Hp) : V → V → Nat → Prop where
 | int (i : Int) : zed K H (.int i) (.int i) 1
 | str (z : Str) : zed K H (.str z) (.str z) 1
 | tup {a b : Addr} {us vs : List V} {m : Nat} : TpK K H a us → TpK K H b vs → AlkK K H us vs m → zed K H (.ref a) (.ref b) (m + 1)
theorem AlkK.cons1 {K : W.Frag} {H : Hp} {x y : V} {xs ys : List V} {k n : Nat} (h : zed K H x y k) (g : AlkK K H xs ys n) : AlkK K H (x :: xs) (y :: ys) (k + n) := by
 cases h with
 | int i => rw [Nat.add_comm]; exact .int g
 | str i => rw [Nat.add_comm]; exact .str g
 | @tup a b us vs m e1 e2 h => rw [show m + 1 + n = m + n + 1 by omega]; exact .tup e1 e2 h g
theorem SumK.alk {K : W.Frag} {H : Hp} {u v : V} {s : Sm Str} (h : SumK K H u s) : SumK K H v s → ∃ n, n + 2 ≤ 5 * s.lv ∧ zed K H u v n := by
 induction h generalizing v with
 | num e =>
  intro g
  cases g with
  | num e' => exact ⟨3, by show 3 + 2 ≤ 5 * 1; decide, .tup e e' (.str (.int .nil))⟩
 | name e =>
  intro g
  cases g with
  | name e' => exact ⟨3, by show 3 + 2 ≤ 5 * 1; decide, .tup e e' (.str (.str .nil))⟩
 | @op a o u v s t e _ _ i1 i2 =>
  intro g
  cases g with
  | @op a' _ u' v' _ _ e' g1 g2 =>
   obtain ⟨n1, l1, q1⟩ := i1 g1
   obtain ⟨n2, l2, q2⟩ := i2 g2
   refine ⟨_, ?_, .tup e e' (.str (.cons1 q1 (.cons1 q2 .nil)))⟩
   show n1 + (n2 + 0) + 1 + 1 + 2 ≤ 5 * (s.lv + t.lv)
   omega
end J
namespace L2
theorem Room.units1 {k : Nat} {A : PySem.Around} (r : Room k A) : A.units + 1 < PySem.cLine := by have := r.un; omega
end L2
namespace J
open PySem L2
theorem at0 {x : V} {xs : List V} : atI (x :: xs) 0 = some x := zu (j := 0) rfl
end J
namespace L2
open PySem PySem.Spec PyProof.Rows
section
variable {X : Cx}
end
end L2
namespace J
open PySem L2
inductive AlkL (K : W.Frag) (H : Hp) : List V → List V → Nat → Prop where
 | nil : AlkL K H [] [] 0
 | int {i : Int} {xs ys : List V} {n : Nat} : AlkL K H xs ys n → AlkL K H (.int i :: xs) (.int i :: ys) (n + 1)
 | str {z : Str} {xs ys : List V} {n : Nat} : AlkL K H xs ys n → AlkL K H (.str z :: xs) (.str z :: ys) (n + 1)
 | tup {a b : Addr} {us vs xs ys : List V} {m n : Nat} : TpK K H a us → TpK K H b vs → AlkL K H us vs m → AlkL K H xs ys n → AlkL K H (.ref a :: xs) (.ref b :: ys) (m + n + 1)
 | lst {a b : Addr} {us vs xs ys : List V} {m n : Nat} : H a = some (.lst us) → H b = some (.lst vs) → AlkL K H us vs m → AlkL K H xs ys n → AlkL K H (.ref a :: xs) (.ref b :: ys) (m + n + 1)
theorem AlkL.len {K : W.Frag} {H : Hp} {xs ys : List V} {n : Nat} (h : AlkL K H xs ys n) : xs.length = ys.length ∧ xs.length ≤ n := by
 induction h with
 | nil => exact ⟨rfl, Nat.le_refl _⟩
 | int _ ih => simp only [List.length_cons]; omega
 | str _ ih => simp only [List.length_cons]; omega
 | tup _ _ _ _ i1 i2 => simp only [List.length_cons]; omega
 | lst _ _ _ _ i1 i2 => simp only [List.length_cons]; omega
theorem AlkL.app {K : W.Frag} {H : Hp} {xs ys us vs : List V} {m n : Nat} (h : AlkL K H xs ys m) (g : AlkL K H us vs n) : AlkL K H (xs ++ us) (ys ++ vs) (m + n) := by
 induction h with
 | nil => rw [Nat.zero_add]; exact g
 | @int i xs ys k _ ih => rw [show k + 1 + n = (k + n) + 1 by omega]; exact .int ih
 | @str z xs ys k _ ih => rw [show k + 1 + n = (k + n) + 1 by omega]; exact .str ih
 | @tup a b us vs xs ys m' n' e1 e2 h1 _ _ ih => rw [show m' + n' + 1 + n = m' + (n' + n) + 1 by omega]; exact .tup e1 e2 h1 ih
 | @lst a b us vs xs ys m' n' e1 e2 h1 _ _ ih => rw [show m' + n' + 1 + n = m' + (n' + n) + 1 by omega]; exact .lst e1 e2 h1 ih
inductive zce (K : W.Frag) (H : Hp) : V → V → Nat → Prop where
 | int (i : Int) : zce K H (.int i) (.int i) 1
 | str (z : Str) : zce K H (.str z) (.str z) 1
 | tup {a b : Addr} {us vs : List V} {m : Nat} : TpK K H a us → TpK K H b vs → AlkL K H us vs m → zce K H (.ref a) (.ref b) (m + 1)
 | lst {a b : Addr} {us vs : List V} {m : Nat} : H a = some (.lst us) → H b = some (.lst vs) → AlkL K H us vs m → zce K H (.ref a) (.ref b) (m + 1)
theorem AlkL.last {K : W.Frag} {H : Hp} {xs ys : List V} {n : Nat} (h : AlkL K H xs ys n) : xs = [] ∧ ys = [] ∨ ∃ xs' ys' x y m k, xs = xs' ++ [x] ∧ ys = ys' ++ [y] ∧ AlkL K H xs' ys' m ∧ zce K H x y k ∧ n = m + k := by
 induction h with
 | nil => exact .inl ⟨rfl, rfl⟩
 | @int i xs ys k h ih =>
  refine .inr ?_
  rcases ih with ⟨rfl, rfl⟩ | ⟨xs', ys', x, y, m, k', rfl, rfl, h1, h2, rfl⟩
  ·cases h
   exact ⟨[], [], _, _, 0, 1, rfl, rfl, .nil, .int i, by omega⟩
  ·exact ⟨_ :: xs', _ :: ys', x, y, m + 1, k', rfl, rfl, .int h1, h2, by omega⟩
 | @str i xs ys k h ih =>
  refine .inr ?_
  rcases ih with ⟨rfl, rfl⟩ | ⟨xs', ys', x, y, m, k', rfl, rfl, h1, h2, rfl⟩
  ·cases h
   exact ⟨[], [], _, _, 0, 1, rfl, rfl, .nil, .str i, by omega⟩
  ·exact ⟨_ :: xs', _ :: ys', x, y, m + 1, k', rfl, rfl, .str h1, h2, by omega⟩
 | @tup a b us vs xs ys m n e1 e2 h1 h _ ih =>
  refine .inr ?_
  rcases ih with ⟨rfl, rfl⟩ | ⟨xs', ys', x, y, m', k', rfl, rfl, g1, g2, rfl⟩
  ·cases h
   exact ⟨[], [], _, _, 0, m + 1, rfl, rfl, .nil, .tup e1 e2 h1, by omega⟩
  ·exact ⟨_ :: xs', _ :: ys', x, y, m + m' + 1, k', rfl, rfl, .tup e1 e2 h1 g1, g2, by omega⟩
 | @lst a b us vs xs ys m n e1 e2 h1 h _ ih =>
  refine .inr ?_
  rcases ih with ⟨rfl, rfl⟩ | ⟨xs', ys', x, y, m', k', rfl, rfl, g1, g2, rfl⟩
  ·cases h
   exact ⟨[], [], _, _, 0, m + 1, rfl, rfl, .nil, .lst e1 e2 h1, by omega⟩
  ·exact ⟨_ :: xs', _ :: ys', x, y, m + m' + 1, k', rfl, rfl, .lst e1 e2 h1 g1, g2, by omega⟩
theorem AlkL.cons1 {K : W.Frag} {H : Hp} {x y : V} {xs ys : List V} {k n : Nat} (h : zce K H x y k) (g : AlkL K H xs ys n) : AlkL K H (x :: xs) (y :: ys) (k + n) := by
 cases h with
 | int i => rw [Nat.add_comm]; exact .int g
 | str i => rw [Nat.add_comm]; exact .str g
 | @tup a b us vs m e1 e2 h => rw [show m + 1 + n = m + n + 1 by omega]; exact .tup e1 e2 h g
 | @lst a b us vs m e1 e2 h => rw [show m + 1 + n = m + n + 1 by omega]; exact .lst e1 e2 h g
theorem AlkL.strs {K : W.Frag} {H : Hp} : ∀ xs : List Str, AlkL K H (xs.map V.str) (xs.map V.str) xs.length
 | [] => .nil
 | _ :: r => .str (AlkL.strs r)
theorem AlkL.ints {K : W.Frag} {H : Hp} : ∀ xs : List Int, AlkL K H (xs.map V.int) (xs.map V.int) xs.length
 | [] => .nil
 | _ :: r => .int (AlkL.ints r)
inductive Cd where
 | push (i : Int) | load (k : Int) | store (k : Int) | drop | op (o : O3) | less | same | flip | say | skip (k : Int) | fork (k : Int) | burn | back (k : Int)
noncomputable def Cd.vs : Cd → List V
 | .push i => [.str "push", .int i]
 | .load k => [.str "load", .int k]
 | .store k => [.str "store", .int k]
 | .drop => [.str "drop"]
 | .op o => [.str o.w]
 | .less => [.str "less"]
 | .same => [.str "same"]
 | .flip => [.str "flip"]
 | .say => [.str "say"]
 | .skip k => [.str "skip", .int k]
 | .fork k => [.str "fork", .int k]
 | .burn => [.str "burn"]
 | .back k => [.str "back", .int k]
noncomputable def IsCd (H : Hp) (v : V) (c : Cd) : Prop := ∃ a, v = .ref a ∧ H a = some (.tup c.vs)
theorem IsCd.mono {H H' : Hp} (L : j8 H H') {v : V} {c : Cd} (h : IsCd H v c) : IsCd H' v c := by
 obtain ⟨a, e, h⟩ := h
 exact ⟨a, e, L _ _ h⟩
noncomputable abbrev Cds (H : Hp) : List V → List Cd → Prop := Paired (IsCd H)
theorem Cds.mono {H H' : Hp} (L : j8 H H') {vs : List V} {cs : List Cd} (h : Cds H vs cs) : Cds H' vs cs := Paired.mapP h fun _ _ z => z.mono L
theorem papp {α β : Type} {F : α → β → Prop} : ∀ {vs ws : List α} {rs ts : List β}, Paired F vs rs → Paired F ws ts → Paired F (vs ++ ws) (rs ++ ts)
 | _, _, _, _, .nil, h => h
 | _, _, _, _, .cons q t, h => .cons q (papp t h)
theorem Cds.app {H : Hp} {vs ws : List V} {cs ds : List Cd} (h : Cds H vs cs) (g : Cds H ws ds) : Cds H (vs ++ ws) (cs ++ ds) := papp h g
theorem Cds.len {H : Hp} : ∀ {vs : List V} {cs : List Cd}, Cds H vs cs → vs.length = cs.length
 | _, _, .nil => rfl
 | _, _, .cons _ t => by rw [List.length_cons, List.length_cons, Cds.len t]
theorem Cd.self {K : W.Frag} {H : Hp} (c : Cd) : ∃ n, n ≤ 2 ∧ AlkL K H c.vs c.vs n := by
 cases c <;> first | exact ⟨2, Nat.le_refl _, .str (.int .nil)⟩ | exact ⟨1, by decide, .str .nil⟩
theorem Cds.alk {K : W.Frag} {H : Hp} : ∀ {vs ws : List V} {cs : List Cd}, Cds H vs cs → Cds H ws cs → ∃ n, n ≤ 3 * cs.length ∧ AlkL K H vs ws n
 | _, _, _, .nil, .nil => ⟨0, Nat.le_refl _, .nil⟩
 | _, _, _, .cons (b := c) ⟨a, e1, h1⟩ t, .cons ⟨b, e2, h2⟩ u => by
  subst e1 e2
  obtain ⟨n, hn, al⟩ := Cds.alk (K := K) t u
  obtain ⟨m, hm, am⟩ := Cd.self (K := K) (H := H) c
  refine ⟨_, ?_, .tup (.inl h1) (.inl h2) am al⟩
  rw [List.length_cons]
  omega
theorem Cds.get' {H : Hp} : ∀ {vs : List V} {cs : List Cd} {i : Nat} {c : Cd}, Cds H vs cs → cs[i]? = some c → ∃ v, vs[i]? = some v ∧ IsCd H v c
 | _, _, i, v, .nil, h => by simp at h
 | _, _, 0, v, .cons q _, h => by simp at h; subst h; exact ⟨_, rfl, q⟩
 | _, _, i + 1, v, .cons _ t, h => by simpa using Cds.get' t (by simpa using h)
theorem Cds.one {H : Hp} {a : Addr} {c : Cd} (h : H a = some (.tup c.vs)) : Cds H [.ref a] [c] := .cons ⟨a, rfl, h⟩ .nil
noncomputable def Sm.cards (ns : List Str) : Sm Str → List Cd
 | .num i => [.push i]
 | .name x => [.load (((xq ns x).getD 0 : Nat) : Int)]
 | .op o a b => a.cards ns ++ b.cards ns ++ [.op o]
noncomputable def Ts.cards (ns : List Str) : Ts → List Cd
 | .less a b => a.cards ns ++ b.cards ns ++ [.less]
 | .same a b => a.cards ns ++ b.cards ns ++ [.same]
 | .not t => t.cards ns ++ [.flip]
 | .both t u => t.cards ns ++ [.fork (((u.cards ns).length : Int) + 1)] ++ u.cards ns ++ [.skip 1, .push 0]
noncomputable def Ts.dp : Ts → Nat
 | .less a b => max a.dp b.dp + 1
 | .same a b => max a.dp b.dp + 1
 | .not t => t.dp + 1
 | .both t u => max t.dp u.dp + 1
noncomputable def Ts.nm (ns : List Str) : Ts → Prop
 | .less a b => a.nm ns ∧ b.nm ns
 | .same a b => a.nm ns ∧ b.nm ns
 | .not t => t.nm ns
 | .both t u => t.nm ns ∧ u.nm ns
inductive Th where
 | s (x : Sm Str)
 | t (x : Ts)
noncomputable def Th.cards (ns : List Str) : Th → List Cd
 | .s x => x.cards ns
 | .t x => x.cards ns
noncomputable def Th.dp : Th → Nat
 | .s x => x.dp
 | .t x => x.dp
noncomputable def Th.nm (ns : List Str) : Th → Prop
 | .s x => x.nm ns
 | .t x => x.nm ns
noncomputable def IsTh (H : Hp) (v : V) : Th → Prop
 | .s s => qy H v s
 | .t t => qu H v t
theorem IsTh.mono {H H' : Hp} (L : j8 H H') {v : V} : ∀ {t : Th}, IsTh H v t → IsTh H' v t
 | .s _, h => qy.mono L h
 | .t _, h => qu.mono L h
open PySem L2
noncomputable def b2n (b : Bool) : Int := if b = true then 1 else 0
noncomputable def Seg (cs : List Cd) (k : Nat) (l : List Cd) : Prop := ∀ i c, l[i]? = some c → cs[k + i]? = some c
theorem Seg.left {cs : List Cd} {k : Nat} {a b : List Cd} (h : Seg cs k (a ++ b)) : Seg cs k a := fun i c e => h i c (by
 have := (List.getElem?_eq_some_iff.mp e).1
 rw [List.getElem?_append_left this]; exact e)
theorem Seg.right {cs : List Cd} {k : Nat} {a b : List Cd} (h : Seg cs k (a ++ b)) : Seg cs (k + a.length) b := fun i c e => by
 have := h (a.length + i) c (by rw [List.getElem?_append_right (by omega)]; simpa using e)
 rw [Nat.add_assoc]; exact this
theorem Seg.head {cs : List Cd} {k : Nat} {c : Cd} {r : List Cd} (h : Seg cs k (c :: r)) : cs[k]? = some c := h 0 c rfl
theorem Seg.at {cs : List Cd} {k j : Nat} {c : Cd} {l : List Cd} (h : Seg cs k l) (e : l[j]? = some c) : cs[k + j]? = some c := h j c e
theorem Seg.self (cs : List Cd) : Seg cs 0 cs := fun i c e => by rw [Nat.zero_add]; exact e
open PySem L2
theorem psnoc {α β : Type} {F : α → β → Prop} : ∀ {vs : List α} {rs : List β} {v : α} {r : β}, Paired F vs rs → F v r → Paired F (vs ++ [v]) (rs ++ [r])
 | _, _, _, _, .nil, h => .cons h .nil
 | _, _, _, _, .cons q t, h => .cons q (psnoc t h)
theorem plast {α β : Type} {F : α → β → Prop} : ∀ {vs : List α} {rs : List β}, Paired F vs rs → vs = [] ∧ rs = [] ∨ ∃ vs' v rs' r, vs = vs' ++ [v] ∧ rs = rs' ++ [r] ∧ Paired F vs' rs' ∧ F v r
 | _, _, .nil => .inl ⟨rfl, rfl⟩
 | _, _, .cons (a := x) (b := y) q t => by
  rcases plast t with ⟨rfl, rfl⟩ | ⟨vs', v, rs', r, e1, e2, h1, h2⟩
  ·exact .inr ⟨[], x, [], y, rfl, rfl, .nil, q⟩
  ·exact .inr ⟨x :: vs', v, y :: rs', r, by rw [e1]; rfl, by rw [e2]; rfl, .cons q h1, h2⟩
theorem plen {α β : Type} {F : α → β → Prop} : ∀ {vs : List α} {rs : List β}, Paired F vs rs → vs.length = rs.length
 | _, _, .nil => rfl
 | _, _, .cons _ t => by rw [List.length_cons, List.length_cons, plen t]
theorem pget {α β : Type} {F : α → β → Prop} : ∀ {vs : List α} {rs : List β} {i : Nat} {v : α}, Paired F vs rs → vs[i]? = some v → ∃ r, rs[i]? = some r ∧ F v r
 | _, _, i, v, .nil, h => by simp at h
 | _, _, 0, v, .cons q _, h => by simp at h; subst h; exact ⟨_, rfl, q⟩
 | _, _, i + 1, v, .cons _ t, h => by simpa using pget t (by simpa using h)
theorem zep (x : V) (us : List V) : cutV (x :: us) (some 1) none = us := by
 unfold cutV HT.sIx
 simp
theorem zel (n : Nat) : ¬ (HT.sIx (n + 1) 0 (some 1) = 0 ∧ HT.sIx (n + 1) (n + 1) none = n + 1) := by
 unfold HT.sIx
 simp
open PySem L2
open PySem L2
open PySem L2
noncomputable def Ts.mkNot : Ts → Ts
 | .not x => x
 | y => .not y
noncomputable def Ts.short : Ts → Ts
 | .less a b => .less a.short b.short
 | .same a b => .same a.short b.short
 | .not t => Ts.mkNot t.short
 | .both t u => .both t.short u.short
inductive zb0 (K : W.Frag) (H : Hp) : V → Ts → Prop where
 | less {a : Addr} {u v : V} {s t : Sm Str} : TpK K H a [.str "less", u, v] → SumK K H u s → SumK K H v t → zb0 K H (.ref a) (.less s t)
 | same {a : Addr} {u v : V} {s t : Sm Str} : TpK K H a [.str "same", u, v] → SumK K H u s → SumK K H v t → zb0 K H (.ref a) (.same s t)
 | not {a : Addr} {u : V} {t : Ts} : TpK K H a [.str "not", u] → zb0 K H u t → zb0 K H (.ref a) (.not t)
 | both {a : Addr} {u v : V} {s t : Ts} : TpK K H a [.str "both", u, v] → zb0 K H u s → zb0 K H v t → zb0 K H (.ref a) (.both s t)
theorem qu.k {K : W.Frag} {H : Hp} {v : V} {t : Ts} (h : qu H v t) : zb0 K H v t := by
 induction h with
 | less e h1 h2 => exact .less (.inl e) h1.k h2.k
 | same e h1 h2 => exact .same (.inl e) h1.k h2.k
 | not e _ ih => exact .not (.inl e) ih
 | both e _ _ i1 i2 => exact .both (.inl e) i1 i2
noncomputable def Ts.sz : Ts → Nat
 | .less a b => a.lv + b.lv + 1
 | .same a b => a.lv + b.lv + 1
 | .not t => t.sz + 1
 | .both t u => t.sz + u.sz + 1
theorem AlkK.toL {K : W.Frag} {H : Hp} {xs ys : List V} {n : Nat} (h : AlkK K H xs ys n) : AlkL K H xs ys n := by
 induction h with
 | nil => exact .nil
 | int _ ih => exact .int ih
 | str _ ih => exact .str ih
 | tup e1 e2 _ _ i1 i2 => exact .tup e1 e2 i1 i2
theorem zed.toL {K : W.Frag} {H : Hp} {x y : V} {n : Nat} (h : zed K H x y n) : zce K H x y n := by
 cases h with
 | int i => exact .int i
 | str z => exact .str z
 | tup e1 e2 h => exact .tup e1 e2 h.toL
theorem zb0.alk {K : W.Frag} {H : Hp} {u v : V} {t : Ts} (h : zb0 K H u t) : zb0 K H v t → ∃ n, n ≤ 5 * t.sz ∧ zce K H u v n := by
 induction h generalizing v with
 | @less a u1 v1 s t e h1 h2 =>
  intro g
  cases g with
  | less e' g1 g2 =>
   obtain ⟨n1, l1, q1⟩ := h1.alk g1
   obtain ⟨n2, l2, q2⟩ := h2.alk g2
   refine ⟨_, ?_, .tup e e' (.str (.cons1 q1.toL (.cons1 q2.toL .nil)))⟩
   show n1 + (n2 + 0) + 1 + 1 ≤ 5 * (s.lv + t.lv + 1)
   omega
 | @same a u1 v1 s t e h1 h2 =>
  intro g
  cases g with
  | same e' g1 g2 =>
   obtain ⟨n1, l1, q1⟩ := h1.alk g1
   obtain ⟨n2, l2, q2⟩ := h2.alk g2
   refine ⟨_, ?_, .tup e e' (.str (.cons1 q1.toL (.cons1 q2.toL .nil)))⟩
   show n1 + (n2 + 0) + 1 + 1 ≤ 5 * (s.lv + t.lv + 1)
   omega
 | @not a u1 t e _ ih =>
  intro g
  cases g with
  | not e' g1 =>
   obtain ⟨n1, l1, q1⟩ := ih g1
   refine ⟨_, ?_, .tup e e' (.str (.cons1 q1 .nil))⟩
   show n1 + 0 + 1 + 1 ≤ 5 * (t.sz + 1)
   omega
 | @both a u1 v1 s t e _ _ i1 i2 =>
  intro g
  cases g with
  | both e' g1 g2 =>
   obtain ⟨n1, l1, q1⟩ := i1 g1
   obtain ⟨n2, l2, q2⟩ := i2 g2
   refine ⟨_, ?_, .tup e e' (.str (.cons1 q1 (.cons1 q2 .nil)))⟩
   show n1 + (n2 + 0) + 1 + 1 ≤ 5 * (s.sz + t.sz + 1)
   omega
end J
namespace L2
open PySem PySem.Spec PyProof.Rows
section
variable {X : Cx}
noncomputable def repS (x : Str) (n : Int) : Str := if n < 1 then Str.empty else if (n == 1 || x.length == 0) = true then x else ⟨(List.replicate n.toNat x.cps).foldl (· ++ ·) #[]⟩
noncomputable def rRepS : R2 := fun x y H Q => ∃ z n, x = .str z ∧ y = .int n ∧ (0 ≤ n ∧ n ≤ 1000 ∧ z.length ≤ 1000) ∧ (repS z n).length ≤ sizeLine ∧ Q (.str (repS z n)) H
theorem op_rep_str : OpR X (binaryOp .Mult) rRepS := by
 intro pins s σ H x y v u Q I rx ry h
 obtain ⟨z, n, rfl, rfl, ⟨h0, h1, h2⟩, hl, q⟩ := h
 obtain ⟨t, rfl⟩ := rx
 obtain ⟨t', rfl⟩ := ry
 refine P.mul_str (by simp; omega) (fun c _ => ?_) (fun c _ => ?_) ?_
 ·have hn : 0 < n := by omega
  have : (1000 : Int) ≤ (2 ^ 63 - 1) / n := (Int.le_ediv_iff_mul_le hn).mpr (by omega)
  omega
 ·have hle : z.length * n.toNat ≤ 1000 * 1000 := Nat.mul_le_mul h2 (by omega)
  unfold Builtin.Str.tooLong
  rw [decide_eq_false]
  rw [sizeLine_eq]
  omega
 ·unfold repS at hl q
  by_cases c : n < 1
  ·rw [if_pos c] at hl q ⊢
   exact ⟨hl, ⟨.str _, H, I.tok _, ⟨_, rfl⟩, q⟩⟩
  ·rw [if_neg c] at hl q ⊢
   by_cases d : (n == 1 || z.length == 0) = true
   ·rw [if_pos d] at hl q ⊢
    exact ⟨.str _, H, I, ⟨_, rfl⟩, q⟩
   ·rw [if_neg d] at hl q ⊢
    exact ⟨hl, ⟨.str _, H, I.tok _, ⟨_, rfl⟩, q⟩⟩
end
theorem atI_any {α : Type} {l : List α} {i : Int} (h0 : 0 ≤ i) (h1 : i < (l.length : Int)) : ∃ c, atI l i = some c := by
 obtain ⟨j, rfl⟩ := Int.eq_ofNat_of_zero_le h0
 have hlt : j < l.length := by omega
 exact ⟨l[j], zu (List.getElem?_eq_getElem hlt)⟩
end L2
namespace J
open PySem L2
inductive Bk where
 | nil
 | set (x : Str) (a : Sm Str) (r : Bk)
 | say (a : Sm Str) (r : Bk)
 | when (t : Ts) (b c r : Bk)
 | whil (t : Ts) (b r : Bk)
 | wit (x : Str) (a : Sm Str) (b r : Bk)
noncomputable def Bk.app : Bk → Bk → Bk
 | .nil, k => k
 | .set x a r, k => .set x a (r.app k)
 | .say a r, k => .say a (r.app k)
 | .when t b c r, k => .when t b c (r.app k)
 | .whil t b r, k => .whil t b (r.app k)
 | .wit x a b r, k => .wit x a b (r.app k)
noncomputable def Bk.n : Bk → Nat
 | .nil => 0
 | .set _ _ r => r.n + 1
 | .say _ r => r.n + 1
 | .when _ b c r => b.n + c.n + r.n + 1
 | .whil _ b r => b.n + r.n + 1
 | .wit _ _ b r => b.n + r.n + 1
theorem Bk.n_app : ∀ b c : Bk, (b.app c).n = b.n + c.n
 | .nil, c => by show c.n = 0 + c.n; omega
 | .set x a r, c => by show (r.app c).n + 1 = r.n + 1 + c.n; rw [Bk.n_app r c]; omega
 | .say a r, c => by show (r.app c).n + 1 = r.n + 1 + c.n; rw [Bk.n_app r c]; omega
 | .when t b d r, c => by show b.n + d.n + (r.app c).n + 1 = b.n + d.n + r.n + 1 + c.n; rw [Bk.n_app r c]; omega
 | .whil t b r, c => by show b.n + (r.app c).n + 1 = b.n + r.n + 1 + c.n; rw [Bk.n_app r c]; omega
 | .wit x a b r, c => by show b.n + (r.app c).n + 1 = b.n + r.n + 1 + c.n; rw [Bk.n_app r c]; omega
inductive IsBk (H : Hp) (M : Addr → Prop) : List V → Bk → Prop where
 | nil : IsBk H M [] .nil
 | set {a : Addr} {x : Str} {u : V} {s : Sm Str} {vs : List V} {r : Bk} : H a = some (.tup [.str "set", .str x, u]) → qy H u s → IsBk H M vs r → IsBk H M (.ref a :: vs) (.set x s r)
 | say {a : Addr} {u : V} {s : Sm Str} {vs : List V} {r : Bk} : H a = some (.tup [.str "say", u]) → qy H u s → IsBk H M vs r → IsBk H M (.ref a :: vs) (.say s r)
 | when {a p q : Addr} {u : V} {t : Ts} {vb vc vs : List V} {b c r : Bk} : H a = some (.tup [.str "when", u, .ref p, .ref q]) → qu H u t → ¬ M p → H p = some (.lst vb) → IsBk H M vb b → ¬ M q → H q = some (.lst vc) → IsBk H M vc c → IsBk H M vs r → IsBk H M (.ref a :: vs) (.when t b c r)
 | whil {a p : Addr} {u : V} {t : Ts} {vb vs : List V} {b r : Bk} : H a = some (.tup [.str "while", u, .ref p]) → qu H u t → ¬ M p → H p = some (.lst vb) → IsBk H M vb b → IsBk H M vs r → IsBk H M (.ref a :: vs) (.whil t b r)
 | wit {a p : Addr} {x : Str} {u : V} {s : Sm Str} {vb vs : List V} {b r : Bk} : H a = some (.tup [.str "with", .str x, u, .ref p]) → qy H u s → ¬ M p → H p = some (.lst vb) → IsBk H M vb b → IsBk H M vs r → IsBk H M (.ref a :: vs) (.wit x s b r)
noncomputable def Out (M : Addr → Prop) (H H' : Hp) : Prop := ∀ a o, ¬ M a → H a = some o → H' a = some o
theorem Out.of {M : Addr → Prop} {H H' : Hp} (S : Same H H') : Out M H H' := fun a o _ h => S a o h
theorem zdm {M : Addr → Prop} {H : Hp} {l : Addr} (h : M l) (o : HO) : Out M H (upd H l o) := fun b u n q => by
 have hbl : b ≠ l := fun e => n (by rw [e]; exact h)
 rw [zl hbl]; exact q
theorem IsBk.mono {H H' : Hp} {M M' : Addr → Prop} (B : Out M H H') (L : j8 H H') (W : ∀ a, H a ≠ none → M' a → M a) {vs : List V} {b : Bk} (h : IsBk H M vs b) : IsBk H' M' vs b := by
 induction h with
 | nil => exact .nil
 | set e s _ ih => exact .set (L _ _ e) (s.mono L) ih
 | say e s _ ih => exact .say (L _ _ e) (s.mono L) ih
 | when e t n1 e1 _ n2 e2 _ _ i1 i2 i3 => exact .when (L _ _ e) (t.mono L) (fun z => n1 (W _ (by rw [e1]; exact fun z => nomatch z) z)) (B _ _ n1 e1) i1 (fun z => n2 (W _ (by rw [e2]; exact fun z => nomatch z) z)) (B _ _ n2 e2) i2 i3
 | whil e t n1 e1 _ _ i1 i2 => exact .whil (L _ _ e) (t.mono L) (fun z => n1 (W _ (by rw [e1]; exact fun z => nomatch z) z)) (B _ _ n1 e1) i1 i2
 | wit e t n1 e1 _ _ i1 i2 => exact .wit (L _ _ e) (t.mono L) (fun z => n1 (W _ (by rw [e1]; exact fun z => nomatch z) z)) (B _ _ n1 e1) i1 i2
theorem IsBk.app {H : Hp} {M : Addr → Prop} {vs ws : List V} {b c : Bk} (h : IsBk H M vs b) (g : IsBk H M ws c) : IsBk H M (vs ++ ws) (b.app c) := by
 induction h with
 | nil => exact g
 | set e s _ ih => exact .set e s ih
 | say e s _ ih => exact .say e s ih
 | when e t n1 e1 h1 n2 e2 h2 _ _ _ i3 => exact .when e t n1 e1 h1 n2 e2 h2 i3
 | whil e t n1 e1 h1 _ _ i2 => exact .whil e t n1 e1 h1 i2
 | wit e t n1 e1 h1 _ _ i2 => exact .wit e t n1 e1 h1 i2
theorem IsBk.len {H : Hp} {M : Addr → Prop} {vs : List V} {b : Bk} (h : IsBk H M vs b) : vs.length ≤ b.n := by
 induction h with
 | nil => exact Nat.le_refl _
 | set _ _ _ ih => show _ + 1 ≤ _ + 1; omega
 | say _ _ _ ih => show _ + 1 ≤ _ + 1; omega
 | when _ _ _ _ _ _ _ _ _ _ _ i3 => show _ + 1 ≤ _ + _ + _ + 1; omega
 | whil _ _ _ _ _ _ _ i2 => show _ + 1 ≤ _ + _ + 1; omega
 | wit _ _ _ _ _ _ _ i2 => show _ + 1 ≤ _ + _ + 1; omega
noncomputable abbrev noM : Addr → Prop := fun _ => False
theorem IsBk.same {H H' : Hp} (S : Same H H') {vs : List V} {b : Bk} (h : IsBk H noM vs b) : IsBk H' noM vs b := h.mono (.of S) S.tup fun _ _ z => z
noncomputable def drw (n p m : Int) : Int := n * 48271 % p % m
theorem wk {n p m : Int} (h : 0 < m) : 0 ≤ drw n p m := Int.emod_nonneg _ (by omega)
theorem zar {n p m : Int} (h : 0 < m) : drw n p m < m := Int.emod_lt_of_pos _ h
noncomputable def zd3 (salt p2 : Int) : Int := if drw salt p2 13 - 3 = 9 then 10 ^ 30 + 7 else if drw salt p2 13 - 3 = 8 then salt * 48271 % 10 ^ 30 - 5 * 10 ^ 29 else drw salt p2 13 - 3
noncomputable def qs (salt p1 p2 : Int) (sc : List Str) : Sm Str :=
 if drw salt p1 ((sc.length : Int) + 2) < (sc.length : Int) then .name ((sc[(drw salt p1 ((sc.length : Int) + 2)).toNat]?).getD "") else .num (zd3 salt p2)
noncomputable def turned (o : Sm Str) (l : Int) : Nat → Sm Str
 | 0 => o
 | k + 1 => .op (if k % 2 = 0 then .add else .sub) (turned o l k) (.num l)
noncomputable def sumF (salt : Int) (sc : List Str) : Sm Str :=
 let way := drw salt 1051 8
 let less := drw salt 1061 4
 let one := qs salt 1009 1013 sc
 let two := qs salt 1019 1021 sc
 if way < 2 then one
 else if way = 2 then .op .add one two
 else if way = 3 then .op .sub one two
 else if way = 4 then .op .mul one (.num (less - 1))
 else if way = 7 then turned one less (less + 3).toNat
 else if way = 6 then .op .sub (.op .add (.op .mul (.num less) (.op .sub two one)) two) (.op .sub one (.num less))
 else .op .sub (.op .add one two) (.op .mul (.num less) two)
noncomputable def zah (salt : Int) (sc : List Str) : Ts :=
 let way := drw salt 1063 7
 let one := if drw salt 1097 3 = 1 then sumF salt sc else qs salt 1009 1013 sc
 let least := Ts.less one (.num (drw salt 1069 9 - 1))
 let other := Ts.same one (qs salt 1019 1021 sc)
 if way = 3 then other
 else if way = 4 then .not least
 else if way = 6 then .both (.both least other) (.not (.both other least))
 else if way = 5 then .both (.not (.not least)) (.less (.num (-6)) one)
 else least
inductive Hd where
 | whil (t : Ts)
 | when (t : Ts)
 | els (t : Ts) (b : Bk)
 | wit (x : Str) (a : Sm Str)
noncomputable def zbz (sc : List Str) : List Str := sc.take 3 ++ [("aa" : Str), ("quill" : Str)]
noncomputable def jarF (salt : Int) (sc : List Str) : Str := ((zbz sc)[(drw salt 1087 ((zbz sc).length : Int)).toNat]?).getD ""
noncomputable def wq (way salt : Int) (sc : List Str) : Hd :=
 if way = 0 then .whil (zah salt sc) else if way = 1 then .when (zah salt sc) else .wit (jarF salt sc) (sumF salt sc)
noncomputable def endF (salt : Int) : Ts → Bk
 | .less (.name x) _ => if drw salt 1093 4 > 0 then .set x (.op .add (.name x) (.num 1)) .nil else .nil
 | _ => .nil
structure Gs where
 bs : List Bk
 hs : List Hd
 sc : List Str
noncomputable def xr (salt : Int) (g : Gs) : Gs :=
 match g.hs, g.bs with
 | .when t :: hs, b :: bs => ⟨.nil :: bs, .els t b :: hs, g.sc⟩
 | .els t b0 :: hs, b :: b1 :: bs => ⟨b1.app (.when t b0 b .nil) :: bs, hs, g.sc⟩
 | .whil t :: hs, b :: b1 :: bs => ⟨b1.app (.whil t (b.app (endF salt t)) .nil) :: bs, hs, g.sc⟩
 | .wit x a :: hs, b :: b1 :: bs => ⟨b1.app (.wit x a b .nil) :: bs, hs, g.sc.dropLast⟩
 | _, _ => g
noncomputable def addF (o : Bk) (g : Gs) : Gs :=
 match g.bs with
 | b :: bs => ⟨b.app o :: bs, g.hs, g.sc⟩
 | [] => g
noncomputable def v8 (more : List Str) (k : Nat) (cell : Int) (g : Gs) : Gs :=
 let way := cell % 9
 let salt := cell + 7919 * k
 let near := g.sc ++ more
 if way < 3 then ⟨.nil :: g.bs, wq way salt near :: g.hs, if way = 2 then g.sc ++ [jarF salt near] else g.sc⟩
 else if way < 6 ∧ g.hs ≠ [] then xr salt g
 else if way < 8 ∧ near ≠ [] then addF (.set ((near[(drw salt 1091 (near.length : Int)).toNat]?).getD "") (sumF salt near) .nil) g
 else addF (.say (sumF salt near) .nil) g
noncomputable def zae (more : List Str) : Nat → List Int → Gs → Gs
 | _, [], g => g
 | k, c :: cs, g => zae more (k + 1) cs (v8 more k c g)
noncomputable def wm : Nat → Gs → Gs
 | 0, g => g
 | n + 1, g => wm n (xr 1 g)
noncomputable def v6 (cells : List Int) (names more : List Str) : Bk :=
 match (wm 400 (zae more 0 cells ⟨[.nil], [], names⟩)).bs with
 | b :: _ => b
 | [] => .nil
theorem closeF_nil (salt : Int) (g : Gs) (h : g.hs = []) : xr salt g = g := by
 unfold xr
 rw [h]
theorem zbi : ∀ (n : Nat) (g : Gs), g.hs = [] → wm n g = g
 | 0, _, _ => rfl
 | n + 1, g, h => by
  show wm n (xr 1 g) = g
  rw [closeF_nil 1 g h, zbi n g h]
noncomputable def Hd.wt : Hd → Nat
 | .when _ => 2
 | _ => 1
noncomputable def Gs.wt (g : Gs) : Nat := (g.hs.map Hd.wt).sum
noncomputable def Hd.n : Hd → Nat
 | .els _ b => b.n
 | _ => 0
noncomputable def Gs.n (g : Gs) : Nat := (g.bs.map Bk.n).sum + (g.hs.map Hd.n).sum
noncomputable def Hd.w : Hd → Nat
 | .wit _ _ => 1
 | _ => 0
noncomputable def Gs.w (g : Gs) : Nat := (g.hs.map Hd.w).sum
structure Gs.Ok (g : Gs) (k : Nat) : Prop where
 len : g.bs.length = g.hs.length + 1
 wt : g.wt ≤ 2 * k
 n : g.n + 2 * g.wt ≤ 4 * k
 sc : g.sc.length ≤ 9 + k
 wl : g.w ≤ g.sc.length
theorem endF_n (salt : Int) (t : Ts) : (endF salt t).n ≤ 1 := by
 unfold endF
 split
 ·split
  ·exact Nat.le_refl _
  ·exact Nat.zero_le _
 ·exact Nat.zero_le _
theorem za3 {salt : Int} {g : Gs} {k : Nat} (h : g.Ok k) (hh : g.hs ≠ []) : (xr salt g).Ok k ∧ (xr salt g).wt + 1 = g.wt := by
 obtain ⟨bs, hs, sc⟩ := g
 obtain ⟨len, wt, n, hsc, hwl⟩ := h
 simp only [Gs.wt, Gs.n, Gs.w] at len wt n hsc hwl ⊢
 match hs, bs, hh, len with
 | .when t :: hs, b :: bs, _, len =>
  simp only [xr, List.map_cons, List.sum_cons, Hd.wt, Hd.n, Hd.w, Bk.n, List.length_cons] at len wt n hwl ⊢
  exact ⟨⟨by simp only [List.length_cons]; omega, by simp only [Gs.wt, List.map_cons, List.sum_cons, Hd.wt]; omega, by simp only [Gs.wt, Gs.n, List.map_cons, List.sum_cons, Hd.wt, Hd.n, Bk.n]; omega, hsc, by simp only [Gs.w, List.map_cons, List.sum_cons, Hd.w]; omega⟩, by omega⟩
 | .els t b0 :: hs, b :: b1 :: bs, _, len =>
  simp only [xr, List.map_cons, List.sum_cons, Hd.wt, Hd.n, Hd.w, List.length_cons] at len wt n hwl ⊢
  have e := Bk.n_app b1 (.when t b0 b .nil)
  simp only [Bk.n] at e
  exact ⟨⟨by simp only [List.length_cons]; omega, by simp only [Gs.wt]; omega, by simp only [Gs.wt, Gs.n, List.map_cons, List.sum_cons]; omega, hsc, by simp only [Gs.w]; omega⟩, by omega⟩
 | .whil t :: hs, b :: b1 :: bs, _, len =>
  simp only [xr, List.map_cons, List.sum_cons, Hd.wt, Hd.n, Hd.w, List.length_cons] at len wt n hwl ⊢
  have e := Bk.n_app b1 (.whil t (b.app (endF salt t)) .nil)
  have e2 := Bk.n_app b (endF salt t)
  have e3 := endF_n salt t
  simp only [Bk.n] at e
  exact ⟨⟨by simp only [List.length_cons]; omega, by simp only [Gs.wt]; omega, by simp only [Gs.wt, Gs.n, List.map_cons, List.sum_cons]; omega, hsc, by simp only [Gs.w]; omega⟩, by omega⟩
 | .wit x a :: hs, b :: b1 :: bs, _, len =>
  simp only [xr, List.map_cons, List.sum_cons, Hd.wt, Hd.n, Hd.w, List.length_cons] at len wt n hwl ⊢
  have e := Bk.n_app b1 (.wit x a b .nil)
  simp only [Bk.n] at e
  exact ⟨⟨by simp only [List.length_cons]; omega, by simp only [Gs.wt]; omega, by simp only [Gs.wt, Gs.n, List.map_cons, List.sum_cons]; omega, by simp only [List.length_dropLast]; omega, by simp only [Gs.w, List.length_dropLast]; omega⟩, by omega⟩
 | .els _ _ :: _, [_], _, len => simp at len
 | .whil _ :: _, [_], _, len => simp at len
 | .wit _ _ :: _, [_], _, len => simp at len
 | _ :: _, [], _, len => simp at len
theorem headF_wt (way salt : Int) (sc : List Str) : (wq way salt sc).wt ≤ 2 ∧ (wq way salt sc).n = 0 ∧ 1 ≤ (wq way salt sc).wt := by
 unfold wq
 split
 ·exact ⟨by simp [Hd.wt], rfl, by simp [Hd.wt]⟩
 ·split
  ·exact ⟨by simp [Hd.wt], rfl, by simp [Hd.wt]⟩
  ·exact ⟨by simp [Hd.wt], rfl, by simp [Hd.wt]⟩
theorem headF_w (way salt : Int) (sc : List Str) (h0 : 0 ≤ way) (h3 : way < 3) : (wq way salt sc).w = (if way = 2 then 1 else 0) := by
 unfold wq
 by_cases e : way = 0
 ·rw [if_pos e, if_neg (by omega)]; rfl
 ·rw [if_neg e]
  by_cases e1 : way = 1
  ·rw [if_pos e1, if_neg (by omega)]; rfl
  ·rw [if_neg e1, if_pos (by omega)]; rfl
theorem addF_ok {o : Bk} {g : Gs} {k : Nat} (h : g.Ok k) (ho : o.n ≤ 1) : (addF o g).Ok (k + 1) := by
 obtain ⟨bs, hs, sc⟩ := g
 obtain ⟨len, wt, n, hsc, hwl⟩ := h
 simp only [Gs.wt, Gs.n, Gs.w] at len wt n hsc hwl
 match bs, len with
 | b :: bs, len =>
  have e := Bk.n_app b o
  simp only [List.map_cons, List.sum_cons, List.length_cons] at len n
  exact ⟨by simp only [addF, List.length_cons]; omega, by simp only [addF, Gs.wt]; omega, by simp only [addF, Gs.wt, Gs.n, List.map_cons, List.sum_cons]; omega, by simp only [addF]; omega, by simp only [addF, Gs.w]; omega⟩
theorem Gs.Ok.up {g : Gs} {k : Nat} (h : g.Ok k) : g.Ok (k + 1) := ⟨h.len, by have := h.wt; omega, by have := h.n; omega, by have := h.sc; omega, h.wl⟩
theorem zdq {more : List Str} {k : Nat} {cell : Int} {g : Gs} (h : g.Ok k) : (v8 more k cell g).Ok (k + 1) := by
 unfold v8
 dsimp only
 split
 ·rename_i hlt
  have hw := headF_wt (cell % 9) (cell + 7919 * k) (g.sc ++ more)
  have hw2 := headF_w (cell % 9) (cell + 7919 * k) (g.sc ++ more) (by omega) (by omega)
  obtain ⟨len, wt, n, hsc, hwl⟩ := h
  simp only [Gs.wt, Gs.n, Gs.w] at len wt n hsc hwl
  have hl2 : (if cell % 9 = 2 then g.sc ++ [jarF (cell + 7919 * k) (g.sc ++ more)] else g.sc).length = g.sc.length + (if cell % 9 = 2 then 1 else 0) := by
   split
   ·rw [List.length_append]; rfl
   ·rfl
  have hl3 : (if cell % 9 = 2 then 1 else 0 : Nat) ≤ 1 := by split <;> decide
  refine ⟨by simp only [List.length_cons]; omega, by simp only [Gs.wt, List.map_cons, List.sum_cons]; omega, by simp only [Gs.wt, Gs.n, List.map_cons, List.sum_cons, Bk.n]; omega, ?_, ?_⟩
  ·show (if cell % 9 = 2 then g.sc ++ [jarF (cell + 7919 * k) (g.sc ++ more)] else g.sc).length ≤ _
   omega
  ·show ((wq (cell % 9) (cell + 7919 * k) (g.sc ++ more) :: g.hs).map Hd.w).sum ≤ (if cell % 9 = 2 then g.sc ++ [jarF (cell + 7919 * k) (g.sc ++ more)] else g.sc).length
   rw [List.map_cons, List.sum_cons]
   omega
 ·split
  ·rename_i hh
   exact (za3 h hh.2).1.up
  ·split
   ·exact addF_ok h (Nat.le_refl _)
   ·exact addF_ok h (Nat.le_refl _)
theorem zd7 {more : List Str} : ∀ (cs : List Int) {k : Nat} {g : Gs}, g.Ok k → (zae more k cs g).Ok (k + cs.length)
 | [], _, _, h => h
 | c :: cs, k, g, h => by
  have := zd7 (more := more) cs (zdq (more := more) (cell := c) h)
  rw [List.length_cons, show k + (cs.length + 1) = k + 1 + cs.length by omega]
  exact this
open PySem L2
theorem zfd {sc : List Str} {i : Int} (h0 : 0 ≤ i) (h1 : i < (sc.length : Int)) : atI (sc.map V.str) i = some (.str ((sc[i.toNat]?).getD "")) := by
 obtain ⟨j, rfl⟩ := Int.eq_ofNat_of_zero_le h0
 have hlt : j < sc.length := by omega
 have e : ((j : Int)).toNat = j := rfl
 rw [e, List.getElem?_eq_getElem hlt]
 exact zu (by rw [List.getElem?_map, List.getElem?_eq_getElem hlt]; rfl)
open PySem L2
theorem cut_take (sc : List Str) (n : Nat) : cutV (sc.map V.str) none (some (n : Int)) = (sc.take n).map V.str := by
 have e : HT.sIx (sc.map V.str).length (sc.map V.str).length (some (n : Int)) = min n sc.length := by
  unfold HT.sIx
  simp
  omega
 unfold cutV
 rw [e]
 have e0 : HT.sIx (sc.map V.str).length 0 none = 0 := rfl
 rw [e0]
 simp
open PySem L2
inductive IsHd (H : Hp) (M : Addr → Prop) : V → Hd → Prop where
 | whil {a : Addr} {u : V} {t : Ts} : H a = some (.tup [.str "while", u]) → qu H u t → IsHd H M (.ref a) (.whil t)
 | when {a : Addr} {u : V} {t : Ts} : H a = some (.tup [.str "when", u]) → qu H u t → IsHd H M (.ref a) (.when t)
 | els {a p : Addr} {u : V} {t : Ts} {vs : List V} {b : Bk} : H a = some (.tup [.str "else", u, .ref p]) → qu H u t → ¬ M p → H p = some (.lst vs) → IsBk H M vs b → IsHd H M (.ref a) (.els t b)
 | wit {a : Addr} {x : Str} {u : V} {s : Sm Str} : H a = some (.tup [.str "with", .str x, u]) → qy H u s → IsHd H M (.ref a) (.wit x s)
theorem IsHd.mono {H H' : Hp} {M M' : Addr → Prop} (B : Out M H H') (L : j8 H H') (W : ∀ a, H a ≠ none → M' a → M a) {v : V} {h : Hd} (g : IsHd H M v h) : IsHd H' M' v h := by
 cases g with
 | whil e t => exact .whil (L _ _ e) (t.mono L)
 | when e t => exact .when (L _ _ e) (t.mono L)
 | els e t n1 e1 h1 => exact .els (L _ _ e) (t.mono L) (fun z => n1 (W _ (by rw [e1]; exact fun z => nomatch z) z)) (B _ _ n1 e1) (h1.mono B L W)
 | wit e t => exact .wit (L _ _ e) (t.mono L)
noncomputable def OB (H0 : Hp) (lb lh ls : Addr) (H : Hp) (M : Addr → Prop) (v : V) (b : Bk) : Prop := ∃ p vs, v = .ref p ∧ p ≠ lb ∧ p ≠ lh ∧ p ≠ ls ∧ H0 p = none ∧ H p = some (.lst vs) ∧ IsBk H M vs b
theorem OB.mono {H0 : Hp} {lb lh ls : Addr} {H H' : Hp} {M M' : Addr → Prop} (B : Out M H H') (L : j8 H H') (W : ∀ a, H a ≠ none → M' a → M a) {v : V} {b : Bk} (hv : ∀ p vs, v = .ref p → p ≠ lb → p ≠ lh → p ≠ ls → H p = some (.lst vs) → H' p = some (.lst vs)) (h : OB H0 lb lh ls H M v b) : OB H0 lb lh ls H' M' v b := by
 obtain ⟨p, vs, rfl, n1, n2, n3, h0, e, hb⟩ := h
 exact ⟨p, vs, rfl, n1, n2, n3, h0, hv p vs rfl n1 n2 n3 e, hb.mono B L W⟩
noncomputable def GM (lb lh ls : Addr) (vbs : List V) (X : Addr → Prop) : Addr → Prop := fun a => a = lb ∨ a = lh ∨ a = ls ∨ .ref a ∈ vbs ∨ X a
structure GRel (H0 H : Hp) (lb lh ls : Addr) (X : Addr → Prop) (g : Gs) (vbs vhs : List V) : Prop where
 S : Same H0 H
 nb : H0 lb = none
 nh : H0 lh = none
 ns : H0 ls = none
 ne1 : lb ≠ lh
 ne2 : lb ≠ ls
 ne3 : lh ≠ ls
 eb : H lb = some (.lst vbs)
 eh : H lh = some (.lst vhs)
 es : H ls = some (.lst (g.sc.map V.str))
 nd : vbs.Nodup
 bs : Paired (OB H0 lb lh ls H (GM lb lh ls vbs X)) vbs.reverse g.bs
 hs : Paired (IsHd H (GM lb lh ls vbs X)) vhs.reverse g.hs
theorem zco {H : Hp} {l : Addr} {ys : List V} (h : H l = some (.lst ys)) (o : HO) : j8 H (upd H l o) := (zbj (l := l) o).tup h
theorem GRel.grow {H0 H H' : Hp} {lb lh ls : Addr} {X : Addr → Prop} {g : Gs} {vbs vhs : List V} (S : Same H H') (h : GRel H0 H lb lh ls X g vbs vhs) : GRel H0 H' lb lh ls X g vbs vhs where
 S := h.S.trans S
 nb := h.nb
 nh := h.nh
 ns := h.ns
 ne1 := h.ne1
 ne2 := h.ne2
 ne3 := h.ne3
 eb := S _ _ h.eb
 eh := S _ _ h.eh
 es := S _ _ h.es
 nd := h.nd
 bs := Paired.mapP h.bs fun v b z => z.mono (.of S) S.tup (fun _ _ z => z) fun p vs _ _ _ _ e => S _ _ e
 hs := Paired.mapP h.hs fun v b z => z.mono (.of S) S.tup fun _ _ z => z
theorem GRel.push {H0 H : Hp} {lb lh ls : Addr} {X : Addr → Prop} {g : Gs} {vbs vhs : List V} (h : GRel H0 H lb lh ls X g vbs vhs) {u : V} {hd : Hd} (hu : IsHd H (GM lb lh ls vbs X) u hd) {p : Addr} (hp : upd H lh (.lst (vhs ++ [u])) p = none) :
  GRel H0 (upd (upd (upd H lh (.lst (vhs ++ [u]))) p (.lst [])) lb (.lst (vbs ++ [.ref p]))) lb lh ls X ⟨.nil :: g.bs, hd :: g.hs, g.sc⟩ (vbs ++ [.ref p]) (vhs ++ [u]) := by
 have hpH : H p = none := by
  by_cases e : p = lh
  ·subst e; rw [zc] at hp; cases hp
  ·rwa [zl e] at hp
 have pb : p ≠ lb := fun e => by rw [e, h.eb] at hpH; cases hpH
 have ph : p ≠ lh := fun e => by rw [e, h.eh] at hpH; cases hpH
 have psn : p ≠ ls := fun e => by rw [e, h.es] at hpH; cases hpH
 have p0 : H0 p = none := by
  cases e : H0 p with
  | none => rfl
  | some o => rw [h.S _ _ e] at hpH; cases hpH
 have hM : ∀ a, H a ≠ none → GM lb lh ls (vbs ++ [.ref p]) X a → GM lb lh ls vbs X a := fun a ha z => by
  rcases z with z | z | z | z | z
  ·exact .inl z
  ·exact .inr (.inl z)
  ·exact .inr (.inr (.inl z))
  ·rcases List.mem_append.mp z with z | z
   ·exact .inr (.inr (.inr (.inl z)))
   ·have := List.mem_singleton.mp z
    injection this with this
    rw [this] at ha
    exact absurd hpH ha
  ·exact .inr (.inr (.inr (.inr z)))
 have keep : ∀ a, a ≠ lb → a ≠ lh → ∀ o, H a = some o → upd (upd (upd H lh (.lst (vhs ++ [u]))) p (.lst [])) lb (.lst (vbs ++ [.ref p])) a = some o := fun a n1 n2 o e => by
  rw [zl n1, zl (fun z => by rw [z, hpH] at e; cases e), zl n2]; exact e
 have B : Out (GM lb lh ls vbs X) H (upd (upd (upd H lh (.lst (vhs ++ [u]))) p (.lst [])) lb (.lst (vbs ++ [.ref p]))) := fun a o n e => keep a (fun z => n (.inl z)) (fun z => n (.inr (.inl z))) o e
 have L : j8 H (upd (upd (upd H lh (.lst (vhs ++ [u]))) p (.lst [])) lb (.lst (vbs ++ [.ref p]))) := fun a xs e => keep a (fun z => by rw [z, h.eb] at e; cases e) (fun z => by rw [z, h.eh] at e; cases e) _ e
 refine ⟨fun a o e => ?_, h.nb, h.nh, h.ns, h.ne1, h.ne2, h.ne3, zc, ?_, ?_, ?_, ?_, ?_⟩
 ·exact keep a (fun z => by rw [z, h.nb] at e; cases e) (fun z => by rw [z, h.nh] at e; cases e) _ (h.S _ _ e)
 ·rw [zl h.ne1.symm, zl ph.symm, zc]
 ·exact keep ls h.ne2.symm h.ne3.symm _ h.es
 ·refine List.nodup_append.mpr ⟨h.nd, by simp, fun a ha b hb e => ?_⟩
  have := List.mem_singleton.mp hb
  subst this
  subst e
  obtain ⟨i, hi⟩ := List.getElem?_of_mem (List.mem_reverse.mpr ha)
  obtain ⟨b, _, p', vs, e1, _, _, _, _, e2, _⟩ := pget h.bs hi
  injection e1 with e1
  rw [← e1, hpH] at e2
  cases e2
 ·rw [List.reverse_append]
  refine .cons ⟨p, [], rfl, pb, ph, psn, p0, by rw [zl pb, zc], .nil⟩ (Paired.mapP h.bs fun v b z => z.mono B L hM fun q vs _ n1 n2 _ e => keep q n1 n2 _ e)
 ·rw [List.reverse_append]
  exact .cons (hu.mono B L hM) (Paired.mapP h.hs fun v b z => z.mono B L hM)
theorem GRel.scope {H0 H : Hp} {lb lh ls : Addr} {X : Addr → Prop} {g : Gs} {vbs vhs : List V} (h : GRel H0 H lb lh ls X g vbs vhs) (sc : List Str) : GRel H0 (upd H ls (.lst (sc.map V.str))) lb lh ls X ⟨g.bs, g.hs, sc⟩ vbs vhs := by
 have B : Out (GM lb lh ls vbs X) H (upd H ls (.lst (sc.map V.str))) := zdm (.inr (.inr (.inl rfl))) _
 have L := zco h.es (.lst (sc.map V.str))
 refine ⟨Same.at h.S h.ns _, h.nb, h.nh, h.ns, h.ne1, h.ne2, h.ne3, by rw [zl h.ne2]; exact h.eb, by rw [zl h.ne3]; exact h.eh, zc, h.nd, ?_, ?_⟩
 ·exact Paired.mapP h.bs fun v b z => z.mono B L (fun _ _ z => z) fun q vs _ _ _ n3 e => by rw [zl n3]; exact e
 ·exact Paired.mapP h.hs fun v b z => z.mono B L fun _ _ z => z
theorem prev {α β : Type} {F : α → β → Prop} {vs : List α} {b : β} {bs : List β} (h : Paired F vs.reverse (b :: bs)) : ∃ vs' v, vs = vs' ++ [v] ∧ F v b ∧ Paired F vs'.reverse bs := by
 cases e : vs.reverse with
 | nil => rw [e] at h; cases h
 | cons v w =>
  rw [e] at h
  cases h with
  | cons h1 h2 =>
   refine ⟨w.reverse, v, ?_, h1, ?_⟩
   ·have := congrArg List.reverse e
    rw [List.reverse_reverse, List.reverse_cons] at this
    exact this
   ·rw [List.reverse_reverse]; exact h2
theorem GRel.add {H0 H : Hp} {lb lh ls : Addr} {X : Addr → Prop} {b : Bk} {bs : List Bk} {hs : List Hd} {sc : List Str} {vbs vhs : List V} (h : GRel H0 H lb lh ls X ⟨b :: bs, hs, sc⟩ vbs vhs) {ws : List V} {o : Bk} (ho : IsBk H (GM lb lh ls vbs X) ws o) :
  ∃ vbs' p vs, vbs = vbs' ++ [.ref p] ∧ H p = some (.lst vs) ∧ vs.length ≤ b.n ∧ GRel H0 (upd H p (.lst (vs ++ ws))) lb lh ls X ⟨b.app o :: bs, hs, sc⟩ vbs vhs := by
 obtain ⟨vbs', v, rfl, hv, hr⟩ := prev h.bs
 obtain ⟨p, vs, rfl, n1, n2, n3, h0, e, hb⟩ := hv
 have hMp : GM lb lh ls (vbs' ++ [.ref p]) X p := .inr (.inr (.inr (.inl (by simp))))
 have B : Out (GM lb lh ls (vbs' ++ [.ref p]) X) H (upd H p (.lst (vs ++ ws))) := zdm hMp _
 have L := zco e (.lst (vs ++ ws))
 have nd := List.nodup_append.mp h.nd
 refine ⟨vbs', p, vs, rfl, e, hb.len, Same.at h.S h0 _, h.nb, h.nh, h.ns, h.ne1, h.ne2, h.ne3, by rw [zl n1.symm]; exact h.eb, by rw [zl n2.symm]; exact h.eh, by rw [zl n3.symm]; exact h.es, h.nd, ?_, ?_⟩
 ·rw [List.reverse_append]
  refine .cons ⟨p, vs ++ ws, rfl, n1, n2, n3, h0, zc, (hb.app ho).mono B L fun _ _ z => z⟩ ?_
  have hr' : Paired (fun v b => OB H0 lb lh ls H (GM lb lh ls (vbs' ++ [.ref p]) X) v b ∧ v ∈ vbs') vbs'.reverse bs := by
   have : ∀ {xs : List V} {ys : List Bk}, Paired (OB H0 lb lh ls H (GM lb lh ls (vbs' ++ [.ref p]) X)) xs ys → (∀ x ∈ xs, x ∈ vbs') → Paired (fun v b => OB H0 lb lh ls H (GM lb lh ls (vbs' ++ [.ref p]) X) v b ∧ v ∈ vbs') xs ys := by
    intro xs ys hh
    induction hh with
    | nil => exact fun _ => .nil
    | cons a _ ih => exact fun hm => .cons ⟨a, hm _ (by simp)⟩ (ih fun x hx => hm x (by simp [hx]))
   exact this hr fun x hx => List.mem_reverse.mp hx
  refine Paired.mapP hr' fun v b z => z.1.mono B L (fun _ _ z => z) fun q vs' eq _ _ _ e' => ?_
  have : q ≠ p := fun z' => by
   subst z'
   exact nd.2.2 v z.2 (.ref q) (by simp) eq
  rw [zl this]; exact e'
 ·exact Paired.mapP h.hs fun v b z => z.mono B L fun _ _ z => z
theorem GRel.pop {H0 H : Hp} {lb lh ls : Addr} {b : Bk} {bs : List Bk} {hd : Hd} {hs : List Hd} {sc : List Str} {vbs vhs : List V} (h : GRel H0 H lb lh ls noM ⟨b :: bs, hd :: hs, sc⟩ vbs vhs) :
  ∃ vbs' p vs vhs' u, vbs = vbs' ++ [.ref p] ∧ vhs = vhs' ++ [u] ∧ GRel H0 (upd (upd H lh (.lst vhs')) lb (.lst vbs')) lb lh ls (fun a => a = p) ⟨bs, hs, sc⟩ vbs' vhs' ∧ IsHd (upd (upd H lh (.lst vhs')) lb (.lst vbs')) (GM lb lh ls vbs' fun a => a = p) u hd ∧
   upd (upd H lh (.lst vhs')) lb (.lst vbs') p = some (.lst vs) ∧ IsBk (upd (upd H lh (.lst vhs')) lb (.lst vbs')) (GM lb lh ls vbs' fun a => a = p) vs b ∧ p ≠ lb ∧ p ≠ lh ∧ p ≠ ls ∧ H0 p = none ∧ V.ref p ∉ vbs' := by
 obtain ⟨vbs', v, rfl, hv, hr⟩ := prev h.bs
 obtain ⟨vhs', u, rfl, hu, hr2⟩ := prev h.hs
 obtain ⟨p, vs, rfl, n1, n2, n3, h0, e, hb⟩ := hv
 have nd := List.nodup_append.mp h.nd
 have hM : ∀ a, GM lb lh ls vbs' (fun a => a = p) a → GM lb lh ls (vbs' ++ [.ref p]) noM a := fun a z => by
  rcases z with z | z | z | z | z
  ·exact .inl z
  ·exact .inr (.inl z)
  ·exact .inr (.inr (.inl z))
  ·exact .inr (.inr (.inr (.inl (List.mem_append_left _ z))))
  ·exact .inr (.inr (.inr (.inl (by rw [z]; simp))))
 have keep : ∀ a, a ≠ lb → a ≠ lh → ∀ o, H a = some o → upd (upd H lh (.lst vhs')) lb (.lst vbs') a = some o := fun a m1 m2 o e => by rw [zl m1, zl m2]; exact e
 have B : Out (GM lb lh ls (vbs' ++ [.ref p]) noM) H (upd (upd H lh (.lst vhs')) lb (.lst vbs')) := fun a o n e => keep a (fun z => n (.inl z)) (fun z => n (.inr (.inl z))) o e
 have L : j8 H (upd (upd H lh (.lst vhs')) lb (.lst vbs')) := fun a xs e => keep a (fun z => by rw [z, h.eb] at e; cases e) (fun z => by rw [z, h.eh] at e; cases e) _ e
 refine ⟨vbs', p, vs, vhs', u, rfl, rfl, ⟨fun a o e => ?_, h.nb, h.nh, h.ns, h.ne1, h.ne2, h.ne3, zc, by rw [zl h.ne1.symm, zc], keep ls h.ne2.symm h.ne3.symm _ h.es, nd.1, ?_, ?_⟩, hu.mono B L fun a _ z => hM a z, keep p n1 n2 _ e, hb.mono B L fun a _ z => hM a z, n1, n2, n3, h0, fun z => nd.2.2 _ z _ (by simp) rfl⟩
 ·exact keep a (fun z => by rw [z, h.nb] at e; cases e) (fun z => by rw [z, h.nh] at e; cases e) _ (h.S _ _ e)
 ·exact Paired.mapP hr fun v b z => z.mono B L (fun a _ z => hM a z) fun q vs _ m1 m2 _ e => keep q m1 m2 _ e
 ·exact Paired.mapP hr2 fun v b z => z.mono B L fun a _ z => hM a z
theorem zam {lb lh ls : Addr} {vbs : List V} {X : Addr → Prop} (a : Addr) (z : GM lb lh ls vbs noM a) : GM lb lh ls vbs X a := by
 rcases z with z | z | z | z | z
 ·exact .inl z
 ·exact .inr (.inl z)
 ·exact .inr (.inr (.inl z))
 ·exact .inr (.inr (.inr (.inl z)))
 ·exact z.elim
theorem GRel.close {H0 H : Hp} {lb lh ls : Addr} {X : Addr → Prop} {g : Gs} {vbs vhs : List V} (h : GRel H0 H lb lh ls X g vbs vhs) : GRel H0 H lb lh ls noM g vbs vhs where
 S := h.S
 nb := h.nb
 nh := h.nh
 ns := h.ns
 ne1 := h.ne1
 ne2 := h.ne2
 ne3 := h.ne3
 eb := h.eb
 eh := h.eh
 es := h.es
 nd := h.nd
 bs := Paired.mapP h.bs fun v b z => z.mono (fun _ _ _ e => e) (fun _ _ e => e) (fun a _ z => zam a z) fun p vs _ _ _ _ e => e
 hs := Paired.mapP h.hs fun v b z => z.mono (fun _ _ _ e => e) (fun _ _ e => e) fun a _ z => zam a z
theorem GRel.more {H0 H : Hp} {lb lh ls p : Addr} {g : Gs} {vbs vhs vs : List V} {b : Bk} (h : GRel H0 H lb lh ls (fun a => a = p) g vbs vhs) (n1 : p ≠ lb) (n2 : p ≠ lh) (n3 : p ≠ ls) (h0 : H0 p = none) (hn : V.ref p ∉ vbs) (e : H p = some (.lst vs)) (hb : IsBk H (GM lb lh ls vbs fun a => a = p) vs b)
  {ws : List V} {o : Bk} (ho : IsBk H (GM lb lh ls vbs fun a => a = p) ws o) :
  GRel H0 (upd H p (.lst (vs ++ ws))) lb lh ls (fun a => a = p) g vbs vhs ∧ IsBk (upd H p (.lst (vs ++ ws))) (GM lb lh ls vbs fun a => a = p) (vs ++ ws) (b.app o) ∧ Out (GM lb lh ls vbs fun a => a = p) H (upd H p (.lst (vs ++ ws))) := by
 have B : Out (GM lb lh ls vbs fun a => a = p) H (upd H p (.lst (vs ++ ws))) := zdm (.inr (.inr (.inr (.inr rfl)))) _
 have L := zco e (.lst (vs ++ ws))
 refine ⟨⟨Same.at h.S h0 _, h.nb, h.nh, h.ns, h.ne1, h.ne2, h.ne3, by rw [zl n1.symm]; exact h.eb, by rw [zl n2.symm]; exact h.eh, by rw [zl n3.symm]; exact h.es, h.nd, ?_, ?_⟩, (hb.app ho).mono B L fun _ _ z => z, B⟩
 ·have hm : ∀ {xs : List V} {ys : List Bk}, Paired (OB H0 lb lh ls H (GM lb lh ls vbs fun a => a = p)) xs ys → (∀ x ∈ xs, x ∈ vbs) → Paired (OB H0 lb lh ls (upd H p (.lst (vs ++ ws))) (GM lb lh ls vbs fun a => a = p)) xs ys := by
   intro xs ys hh
   induction hh with
   | nil => exact fun _ => .nil
   | cons a _ ih =>
    intro hm
    refine .cons (a.mono B L (fun _ _ z => z) fun q vs' eq _ _ _ e' => ?_) (ih fun x hx => hm x (by simp [hx]))
    have : q ≠ p := fun z' => by
     subst z'
     exact hn (eq ▸ hm _ (by simp))
    rw [zl this]; exact e'
  exact hm h.bs fun x hx => List.mem_reverse.mp hx
 ·exact Paired.mapP h.hs fun v b z => z.mono B L fun _ _ z => z
open PySem L2
theorem Bk.app_nil : ∀ b : Bk, b.app .nil = b
 | .nil => rfl
 | .set x a r => by show Bk.set x a (r.app .nil) = _; rw [Bk.app_nil r]
 | .say a r => by show Bk.say a (r.app .nil) = _; rw [Bk.app_nil r]
 | .when t b c r => by show Bk.when t b c (r.app .nil) = _; rw [Bk.app_nil r]
 | .whil t b r => by show Bk.whil t b (r.app .nil) = _; rw [Bk.app_nil r]
 | .wit x a b r => by show Bk.wit x a b (r.app .nil) = _; rw [Bk.app_nil r]
theorem GRel.top {H0 H : Hp} {lb lh ls : Addr} {X : Addr → Prop} {b : Bk} {bs : List Bk} {hs : List Hd} {sc : List Str} {vbs vhs : List V} (h : GRel H0 H lb lh ls X ⟨b :: bs, hs, sc⟩ vbs vhs) :
  ∃ vbs' p vs, vbs = vbs' ++ [.ref p] ∧ H p = some (.lst vs) ∧ vs.length ≤ b.n ∧ ∀ H', Same H H' → ∀ ws o, IsBk H' (GM lb lh ls vbs X) ws o → GRel H0 (upd H' p (.lst (vs ++ ws))) lb lh ls X ⟨b.app o :: bs, hs, sc⟩ vbs vhs := by
 obtain ⟨vbs', v, e0, hv, hr⟩ := prev h.bs
 obtain ⟨p, vs, rfl, n1, n2, n3, h0, e, hb⟩ := hv
 refine ⟨vbs', p, vs, e0, e, hb.len, fun H' S ws o ho => ?_⟩
 obtain ⟨vb2, p2, vs2, e2, e3, _, g⟩ := (h.grow S).add ho
 rw [e0] at e2
 have e4 := List.append_inj_right' e2 rfl
 have e5 : p = p2 := by
  have := (List.cons.inj e4).1
  injection this
 subst e5
 rw [S _ _ e] at e3
 have : vs = vs2 := by injection e3 with z; injection z
 subst this
 exact g
theorem GRel.not_M {H0 H : Hp} {lb lh ls p : Addr} {vbs : List V} (n1 : p ≠ lb) (n2 : p ≠ lh) (n3 : p ≠ ls) (hn : V.ref p ∉ vbs) : ¬ GM lb lh ls vbs noM p := fun z => by
 rcases z with z | z | z | z | z
 ·exact n1 z
 ·exact n2 z
 ·exact n3 z
 ·exact hn z
 ·exact z
end J
namespace L2
open PySem PySem.Spec PyProof.Rows
theorem lri_len :
  typeLookup (.type "list_reverseiterator") "__len__" = pure none := by
 rw [typeLookup_type, builtinLookup_eq_fast]
 kernel_rfl
theorem lri_hint : typeLookup (.type "list_reverseiterator")
  "__length_hint__" = pure (some (.builtin "list_reverseiterator.__length_hint__")) := by
 rw [typeLookup_type, builtinLookup_eq_fast]
 kernel_rfl
noncomputable def zdf (it l : Addr) (xs : Array Value) : Nat → Shared → Prop := fun i z => i ≤ xs.size ∧ z.heap.IsRevIter it l ((xs.size : Int) - 1 - (i : Int)) ∧ z.heap.IsList l xs
theorem rev_walks {pr : Program} {wd : World} {Ar : Around} (hd : Ar.handled = none) (it l : Addr) (ne : l ≠ it) (xs : Array Value) :
  WalksS pr wd Ar it [it, l] [it] (fun a b => b = a) xs.size (fun i v => xs[xs.size - 1 - i]? = some v) (zdf it l xs) := (Walks.listRev hd it l ne xs).toS
section
variable {pr : Program} {wd : World} {Ar : Around} {z : Shared} {R : Result → Shared → Prop} {it l : Addr} {xs : Array Value}
theorem ext_rev (hd : Ar.handled = none) (ne : l ≠ it) (D : Addr) (res : Value) (c : Nat) (st : zdf it l xs 0 z) (nit : D ≠ it) (nl : D ≠ l)
  (hD : z.heap.get? D = some { cls := .type "list", data := .seq #[] c }) (hn : xs.size ≤ sizeLine)
  (hR : ∀ z' acc c', Moved (D :: [it]) (fun a b => b = a) z z' → z'.heap.get? D = some { cls := .type "list", dict := none, data := .seq acc c', slots := #[] } →
   ItemsOf (fun i v => xs[xs.size - 1 - i]? = some v) acc xs.size → R (.ok (.ret res)) z') :
  wpAny (model pr wd) Ar.in1 (Builtin.List.listExtendWith (.ref D) (.ref it) res)
   (fun fin z' => match fin with
    | .done f => R (.ok f) z'
    | .again k => k.quiet = true ∧ codeAny (model pr wd) Ar k R z')
   (fun e z' => R (.error e) z') z := by
 have W := rev_walks (pr := pr) (wd := wd) (Ar := Ar.in1) hd it l ne xs
 have hty : ∀ i z, zdf it l xs i z → z.TypeIs (.ref it) "list_reverseiterator" := fun i z q => q.2.1.typeIs
 have hnf : D ∉ [it, l] := fun m => by
  rcases List.mem_cons.mp m with e | m
  ·exact nit e
  ·exact nl (List.mem_singleton.mp m)
 have e1 : Builtin.List.listSameRef (.ref D) (.ref it) = false := by
  simp [Builtin.List.listSameRef, nit]
 unfold Builtin.List.listExtendWith
 refine wpAny_bind (wpAny_typeOf (hty 0 _ st) ?_)
 rw [if_neg (by rw [e1]; decide)]
 refine wpAny_bind (W.self 0 _ _ _ st ?_)
 refine wpAny_bind (wpAny_holding ?_)
 unfold Builtin.List.listLengthHint
 refine wpAny_bind (wpAny_specialOf (hty 0 _ st) lri_len ?_)
 show wpAny _ Ar.in1
  (specialOf (Value.ref it) (Str.ofString "__length_hint__") >>= _) _ _ _
 refine wpAny_bind (wpAny_specialOf (hty 0 _ st) lri_hint ?_)
 generalize hid : ("list_reverseiterator.__length_hint__" : String) = idn
 wp_delta
 rw [show splitId idn = some ("list_reverseiterator", "__length_hint__") from by subst hid; decide +kernel]
 subst hid
 refine wpAny_bind (wpAny_isInstance (b := true)
  (hty 0 _ st) (by rw [isSubtype_type]; kernel_rfl) ?_)
 refine wpAny_pure ?_
 rw [if_neg (by decide)]
 exact wpAny_pure ⟨plainId_quiet F.plain_extend_loop _,
  codeAny_extend_loopS W hn _ hnf _ xs.size 0 _ _ _ rfl (Nat.zero_le _) st hD (ItemsOf.nil _) hR⟩
theorem init_rev (hd : Ar.handled = none) (ne : l ≠ it) (D : Addr) (st : zdf it l xs 0 z) (nit : D ≠ it) (nl : D ≠ l)
  (hD : z.heap.get? D = some { cls := .type "list", data := .seq #[] }) (hn : xs.size ≤ sizeLine)
  (hR : ∀ z' acc c', Moved (D :: [it]) (fun a b => b = a) z z' → z'.heap.get? D = some { cls := .type "list", dict := none, data := .seq acc c', slots := #[] } →
   ItemsOf (fun i v => xs[xs.size - 1 - i]? = some v) acc xs.size → R (.ok (.ret .none)) z') :
  wpAny (model pr wd) Ar.in1 (Builtin.«list.__init__» ⟨[.ref D, .ref it], []⟩)
   (fun fin z' => match fin with
    | .done f => R (.ok f) z'
    | .again k => k.quiet = true ∧ codeAny (model pr wd) Ar k R z')
   (fun e z' => R (.error e) z') z := by
 show wpAny _ Ar.in1 (do
  let old ← Builtin.List.listItems (.ref D)
  Builtin.List.listUpdate (.ref D) (fun _ => #[])
  letGo old.toList.reverse
  Builtin.List.listExtendWith (.ref D) (.ref it) .none) _ _ z
 refine wpAny_bind ?_
 unfold Builtin.List.listItems
 refine wpAny_bind (wpAny_seqItems hD rfl (wpAny_pure ?_))
 show wpAny _ Ar.in1 (updateSeq D (fun _ => #[]) >>= fun _ =>
  letGo (#[] : Array Value).toList.reverse >>= fun _ => Builtin.List.listExtendWith (.ref D) (.ref it) .none) _ _ z
 refine wpAny_bind (wpAny_updateSeq hD rfl ?_)
 have hD2 := Heap.get?_update_self (Obj.mapSeq
  (fun _ => (#[] : Array Value))) hD rfl
 have ot : ∀ b o, b ≠ D → z.heap.get? b = some o → (z.heap.update D
   (Obj.mapSeq (fun _ => (#[] : Array Value)))).get? b = some o :=
  fun b o nb e => (Heap.get?_update_other _ _ (Ne.symm nb)).trans e
 refine wpAny_bind (wpAny_letGo ?_)
 have st2 : zdf it l xs 0 { z with heap := z.heap.update D (Obj.mapSeq (fun _ => (#[] : Array Value))) } :=
  ⟨st.1, st.2.1.at fun o e => ot it o nit.symm e, st.2.2.at fun o e => ot l o nl.symm e⟩
 refine ext_rev hd ne D .none _ st2 nit nl hD2 hn fun z' acc c' hm h1 h2 => hR z' acc c' ?_ h1 h2
 have m1 : Moved (D :: [it]) (fun a b => b = a) z { z with heap := z.heap.update D (Obj.mapSeq (fun _ => (#[] : Array Value))) } :=
  ⟨fun b o nb e => ot b o (fun q => nb (by rw [q]; exact List.mem_cons_self)) e, rfl, rfl, rfl, Nat.le_refl _⟩
 exact Moved.trans (fun _ _ _ p q => q.trans p) m1 hm
end
theorem list_of_rev {pr : Program} {wd : World} {Ar : Around} {z : Shared} {E : Value → Shared → Prop} {it l : Addr} {xs : Array Value} {Q : Value → Shared → Prop} (hd : Ar.handled = none) (ne : l ≠ it) (st : zdf it l xs 0 z) (hn : xs.size ≤ sizeLine)
  (hQ : ∀ z' acc c', Moved (z.heap.objs.size :: [it]) (fun a b => b = a) { z with heap := z.heap.push { cls := .type "list", data := .seq #[] } } z' →
   z'.heap.get? z.heap.objs.size = some { cls := .type "list", dict := none, data := .seq acc c', slots := #[] } → ItemsOf (fun i v => xs[xs.size - 1 - i]? = some v) acc xs.size → Q (.ref z.heap.objs.size) z') :
  wpAny (model pr wd) Ar (call (.type "list") [.ref it]) Q E z := by
 have n1 : z.heap.objs.size ≠ it := fun e => by
  obtain ⟨o, ho, _⟩ := st.2.1
  have := Heap.lt_size ho
  rw [e] at this
  exact Nat.lt_irrefl _ this
 have n2 : z.heap.objs.size ≠ l := fun e => by
  obtain ⟨o, ho, _⟩ := st.2.2
  have := Heap.lt_size ho
  rw [e] at this
  exact Nat.lt_irrefl _ this
 refine callType_codes (Q₁ := fun v z1 => v = .ref z.heap.objs.size ∧ z1 = { z with heap := z.heap.push { cls := .type "list", data := .seq #[] } })
  F.called_list (F.typeCall_list_1 _) F.entry_list_init (code_list_new _ ⟨rfl, rfl⟩) fun v z1 h1 => ?_
 obtain ⟨rfl, rfl⟩ := h1
 have hD : (z.heap.push { cls := .type "list", data := .seq #[] }).get? z.heap.objs.size =
  some { cls := .type "list", data := .seq #[] } := Heap.get?_push_size _ rfl
 have st2 : zdf it l xs 0 { z with heap := z.heap.push { cls := .type "list", data := .seq #[] } } :=
  ⟨st.1, st.2.1.at fun o e => Heap.get?_push_of_some _ e, st.2.2.at fun o e => Heap.get?_push_of_some _ e⟩
 refine ⟨⟨_, hD, rfl⟩, F.args_list_init_2 _ _, init_rev (Ar := Ar.in1) hd ne _ st2 n1 n2 hD hn fun z' acc c' hm h1 h2 => ?_⟩
 exact ⟨rfl, hQ z' acc c' hm h1 h2⟩
theorem items_rev {xs acc : Array Value} (h : ItemsOf (fun i v => xs[xs.size - 1 - i]? = some v) acc xs.size) : acc.toList = xs.toList.reverse := by
 obtain ⟨h1, h2⟩ := h
 refine List.ext_getElem? fun i => ?_
 by_cases hi : i < acc.size
 ·have e : acc[i]? = some acc[i] := Array.getElem?_eq_getElem hi
  have := h2 i _ e
  rw [Array.getElem?_toList, e, ← this, List.getElem?_reverse (by simp; omega)]
  simp
 ·rw [List.getElem?_eq_none (by simp; omega), List.getElem?_eq_none (by simp; omega)]
section
variable {X : Cx} {e : Expr} {te : TE} {p1 p2 pos1 pos2 : Pos}
noncomputable def tListRev (te : TE) : TE := fun σ H Q => te σ H fun x H1 => ∃ l xs, x = .ref l ∧ H1 l = some (.lst xs) ∧ ∀ p, H1 p = none → Q (.ref p) (upd H1 p (.lst xs.reverse))
theorem vals_rev {xs : List V} {us : List Value} (h : Vals xs us) : Vals xs.reverse us.reverse := by
 induction h with
 | nil => exact .nil
 | cons a _ ih =>
  rw [List.reverse_cons, List.reverse_cons]
  exact Paired.snoc ih a
theorem vz (hc : X.calm = true) (hg : Gl X "list") (hm : X.mg "list" = none) (hg2 : Gl X "reversed") (hm2 : X.mg "reversed" = none) (hb2 : bootBuiltins "reversed" = some (.type "reversed")) (he : PE X e te)
  (hs1 : starEach [Expr.Call (.Name "reversed" p2) [e] [] pos2] X.env = (false, eval (Expr.Call (.Name "reversed" p2) [e] [] pos2) X.env) :: starEach [] X.env := by rfl) (hs2 : starEach [e] X.env = (false, eval e X.env) :: starEach [] X.env := by rfl) :
  PE X (.Call (.Name "list" p1) [.Call (.Name "reversed" p2) [e] [] pos2] [] pos1) (tListRev te) := by
 intro pins s σ H Q I h
 refine wpAny_Call_Name_kw (zch I hg hm (show bootBuiltins "list" = some (.type "list") by decide +kernel) ?_ (by decide) (by decide))
 refine PyProof.Rows.callWith_type1 ?_ hs1 (by rfl)
 rw [hs1]
 show wpAny _ _ (spliced ((false, eval (Expr.Call (.Name "reversed" p2) [e] [] pos2) X.env) :: backTo pos1 (starEach [] X.env))) _ _ s
 refine Calls.spliced_cons ?_
 refine wpAny_Call_Name_kw (zch I hg2 hm2 hb2 ?_ (by decide) (by decide))
 refine PyProof.Rows.callWith_type1 ?_ hs2 (by rfl)
 rw [hs2]
 show wpAny _ _ (spliced ((false, eval e X.env) :: backTo pos2 (starEach [] X.env))) _ _ s
 refine Calls.spliced_cons (thn (he pins s σ H _ I h) fun u s1 ⟨x, H1, I1, r1, q1⟩ => ?_)
 refine Calls.spliced_nil ?_
 obtain ⟨l, xs, rfl, hl, q⟩ := q1
 cases r1
 obtain ⟨hz, its, n, rv, hlen, ho⟩ := I1.lstM hl
 have il : s1.heap.IsList l its.toArray := ⟨_, ho, rfl, n, rfl⟩
 refine call_reversed_list il ?_
 refine Calls.spliced_nil ?_
 have llt : l < s1.heap.objs.size := Heap.lt_size ho
 have st : zdf s1.heap.objs.size l its.toArray 0 { s1 with heap := s1.heap.push (revObj l ((its.toArray.size : Int) - 1)) } :=
  ⟨Nat.zero_le _, ⟨_, Heap.get?_push_size _ rfl, rfl, by show Data.fields _ = Data.fields _; simp⟩, il.push _⟩
 refine list_of_rev (I1.ok.hd hc) (Nat.ne_of_lt llt) st (by simp; omega) fun z' acc c' hmv h1 h2 => ?_
 have ea := items_rev h2
 obtain ⟨hp, g, d, tk, os⟩ := z'
 have eg : g = s1.gens := hmv.gens
 have ed : d = s1.drawn := hmv.drawn
 have eo : os = s1.os := hmv.os
 subst eg ed eo
 have kp : ∀ b u, s1.heap.get? b = some u → hp.get? b = some u := fun b u e => by
  have lt := Heap.lt_size e
  refine hmv.heap b u (fun m => ?_) (Heap.get?_push_of_some _ (Heap.get?_push_of_some _ e))
  rcases List.mem_cons.mp m with q | m
  ·have l2 : s1.heap.objs.size < (s1.heap.push (revObj l ((its.toArray.size : Int) - 1))).objs.size := by simp [Heap.push]
   rw [q] at lt
   exact Nat.lt_irrefl _ (Nat.lt_trans lt l2)
  ·rw [List.mem_singleton.mp m] at lt
   exact Nat.lt_irrefl _ lt
 have hsz : s1.heap.objs.size ≤ (s1.heap.push (revObj l ((its.toArray.size : Int) - 1))).objs.size := by simp [Heap.push]
 refine ⟨.ref _, _, I1.laid (t' := tk) kp hsz (show jp X.prog X.w _ hp _ (.lst xs.reverse) from ⟨by rw [List.length_reverse]; exact hz, acc.toList, c', ?_, h1⟩), rfl, q _ (I1.hok.fresh hsz)⟩
 rw [ea]
 exact vals_rev rv
end
theorem vg : bootBuiltins "reversed" = some (.type "reversed") := by decide +kernel
section
variable {X : Cx}
end
section
variable {pr : Program} {wd : World} {Ar : Around} {z : Shared} {E : Value → Shared → Prop} {it l : Addr} {xs : Array Value}
end
section
variable {X : Cx} {e : Expr} {te : TE} {z : Str} {j : Nat} {p0 p2 pos2 apos cpos : Pos}
end
end L2
namespace J
open PySem L2
noncomputable def numT (i : Int) : Str := Str.ofString (toString i)
noncomputable def Sm.words : Sm Str → List Str
 | .num i => [numT i]
 | .name x => [x]
 | .op o a b => o.w :: (a.words ++ b.words)
noncomputable def Ts.words : Ts → List Str
 | .less a b => "less" :: (a.words ++ b.words)
 | .same a b => "same" :: (a.words ++ b.words)
 | .not t => "not" :: t.words
 | .both t u => "both" :: (t.words ++ u.words)
noncomputable def Th.words : Th → List Str
 | .s x => x.words
 | .t x => x.words
noncomputable def Bk.dp : Bk → Nat
 | .nil => 1
 | .set _ _ r => r.dp
 | .say _ r => r.dp
 | .when _ b c r => max (max (b.dp + 1) (c.dp + 1)) r.dp
 | .whil _ b r => max (b.dp + 1) r.dp
 | .wit _ _ b r => max (b.dp + 1) r.dp
theorem Bk.dp_pos : ∀ b : Bk, 1 ≤ b.dp
 | .nil => Nat.le_refl _
 | .set _ _ r => r.dp_pos
 | .say _ r => r.dp_pos
 | .when _ b c r => by have := r.dp_pos; show 1 ≤ max (max (b.dp + 1) (c.dp + 1)) r.dp; omega
 | .whil _ b r => by have := r.dp_pos; show 1 ≤ max (b.dp + 1) r.dp; omega
 | .wit _ _ b r => by have := r.dp_pos; show 1 ≤ max (b.dp + 1) r.dp; omega
noncomputable def Fits (w n : Nat) (ws : List Str) : Prop := ws.length ≤ n ∧ ∀ x ∈ ws, x.length ≤ w
theorem Fits.app {w m n : Nat} {a b : List Str} (h : Fits w m a) (g : Fits w n b) : Fits w (m + n) (a ++ b) := by
 refine ⟨by rw [List.length_append]; have := h.1; have := g.1; omega, fun x hx => ?_⟩
 rcases List.mem_append.mp hx with z | z
 ·exact h.2 x z
 ·exact g.2 x z
theorem Fits.cons {w n : Nat} {x : Str} {a : List Str} (hx : x.length ≤ w) (h : Fits w n a) : Fits w (n + 1) (x :: a) := by
 refine ⟨by rw [List.length_cons]; have := h.1; omega, fun y hy => ?_⟩
 rcases List.mem_cons.mp hy with z | z
 ·rw [z]; exact hx
 ·exact h.2 y z
theorem numT_neg (n : Nat) : numT (-((n : Int) + 1)) = "-" ++ numT ((n : Int) + 1) := by
 show Str.ofString ("-" ++ toString (n + 1)) = Str.ofString "-" ++ Str.ofString (toString (n + 1))
 rw [Str.ofString_eq_toList, Str.ofString_eq_toList, Str.ofString_eq_toList]
 refine Str.ext' ?_
 rw [Str.cps_append]
 simp
theorem numT_len {i : Int} (h : i.natAbs < 10 ^ 40) : (numT i).length ≤ 60 := by
 by_cases h0 : 0 ≤ i
 ·have h1 : i < 10 ^ 40 := by omega
  have := PyProof.Rows.toString_length_le h0 (k := 40) (by decide) h1
  show (Str.ofString (toString i)).length ≤ 60
  omega
 ·obtain ⟨n, rfl⟩ : ∃ n : Nat, i = -((n : Int) + 1) := ⟨(-i - 1).toNat, by omega⟩
  rw [numT_neg, Str.length_append]
  have h1 : ((n : Int) + 1) < 10 ^ 40 := by omega
  have := PyProof.Rows.toString_length_le (v := (n : Int) + 1) (by omega) (k := 40) (by decide) h1
  have e1 : (Str.ofString "-").length = 1 := by decide
  have : (numT ((n : Int) + 1)).length ≤ 40 := this
  omega
noncomputable def Sm.tx : Sm Str → Prop
 | .num i => i.natAbs < 10 ^ 40
 | .name x => x.length ≤ 100
 | .op _ a b => a.tx ∧ b.tx
noncomputable def Ts.tx : Ts → Prop
 | .less a b => a.tx ∧ b.tx
 | .same a b => a.tx ∧ b.tx
 | .not t => t.tx
 | .both t u => t.tx ∧ u.tx
noncomputable def Th.tx : Th → Prop
 | .s x => x.tx
 | .t x => x.tx
theorem O3.w_len (o : O3) : o.w.length ≤ 100 := by cases o <;> decide
theorem Sm.words_len : ∀ s : Sm Str, s.words.length + 1 = 2 * s.lv
 | .num _ => rfl
 | .name _ => rfl
 | .op _ a b => by
  have h1 := a.words_len
  have h2 := b.words_len
  show (a.words ++ b.words).length + 1 + 1 = 2 * (a.lv + b.lv)
  rw [List.length_append]
  omega
theorem Sm.fits : ∀ {s : Sm Str}, s.tx → Fits 100 (2 * s.lv) s.words
 | .num i, h => ⟨by show 1 ≤ 2 * 1; decide, fun x hx => by
   have := List.mem_singleton.mp hx
   subst this
   have := numT_len h
   omega⟩
 | .name x, h => ⟨by show 1 ≤ 2 * 1; decide, fun y hy => by
   have := List.mem_singleton.mp hy
   subst this
   exact h⟩
 | .op o a b, h => by
  have h1 := Sm.fits h.1
  have h2 := Sm.fits h.2
  have h3 := (h1.app h2).cons o.w_len
  have l1 := a.lv_pos
  have l2 := b.lv_pos
  refine ⟨?_, h3.2⟩
  have e1 := a.words_len
  have e2 := b.words_len
  show (a.words ++ b.words).length + 1 ≤ 2 * (a.lv + b.lv)
  rw [List.length_append]
  omega
end J
namespace L2
open PySem
end L2
namespace J
open PySem L2
noncomputable def Th.fit (th : Th) : Prop := th.tx ∧ th.dp ≤ 20 ∧ Fits 100 190 th.words
noncomputable def Bk.fit : Bk → Prop
 | .nil => True
 | .set x a r => x.length ≤ 100 ∧ (Th.s a).fit ∧ r.fit
 | .say a r => (Th.s a).fit ∧ r.fit
 | .when t b c r => (Th.t t).fit ∧ b.fit ∧ c.fit ∧ r.fit
 | .whil t b r => (Th.t t).fit ∧ b.fit ∧ r.fit
 | .wit x a b r => x.length ≤ 100 ∧ (Th.s a).fit ∧ b.fit ∧ r.fit
open PySem L2
theorem zc5 (salt p1 p2 : Int) (sc : List Str) : (∃ x, qs salt p1 p2 sc = .name x ∧ (x ∈ sc)) ∨ ∃ i, qs salt p1 p2 sc = .num i ∧ i.natAbs < 10 ^ 40 := by
 unfold qs
 by_cases h : drw salt p1 ((sc.length : Int) + 2) < (sc.length : Int)
 ·rw [if_pos h]
  have h0 := wk (n := salt) (p := p1) (m := (sc.length : Int) + 2) (by omega)
  have hlt : (drw salt p1 ((sc.length : Int) + 2)).toNat < sc.length := by omega
  refine .inl ⟨_, rfl, ?_⟩
  rw [List.getElem?_eq_getElem hlt]
  exact List.getElem_mem _
 ·rw [if_neg h]
  refine .inr ⟨_, rfl, ?_⟩
  unfold zd3
  have h0 := wk (n := salt) (p := p2) (m := 13) (by decide)
  have h1 := zar (n := salt) (p := p2) (m := 13) (by decide)
  have e0 := Int.emod_nonneg (salt * 48271) (show (10 ^ 30 : Int) ≠ 0 by decide)
  have e1 := Int.emod_lt_of_pos (salt * 48271) (show (0 : Int) < 10 ^ 30 by decide)
  split
  ·decide
  ·split
   ·have : (10 : Int) ^ 30 ≤ 10 ^ 39 := by decide
    have : (10 : Nat) ^ 40 = 10 * 10 ^ 39 := by decide
    have c1 : (5 * 10 ^ 29 : Int) ≤ 10 ^ 39 := by decide
    have c2 : (10 : Int) ^ 39 = ((10 ^ 39 : Nat) : Int) := by decide
    have c3 : 0 < (10 : Nat) ^ 39 := by decide
    omega
   ·exact Nat.lt_of_le_of_lt (show (drw salt p2 13 - 3).natAbs ≤ 10 by omega) (by decide)
theorem v4 (salt p1 p2 : Int) (sc : List Str) : (qs salt p1 p2 sc).dp = 1 ∧ (qs salt p1 p2 sc).lv = 1 := by
 rcases zc5 salt p1 p2 sc with ⟨x, e, _⟩ | ⟨i, e, _⟩ <;> rw [e] <;> exact ⟨rfl, rfl⟩
theorem zdn {salt p1 p2 : Int} {sc : List Str} (h : ∀ x ∈ sc, x.length ≤ 100) : (qs salt p1 p2 sc).tx := by
 rcases zc5 salt p1 p2 sc with ⟨x, e, hx⟩ | ⟨i, e, hi⟩ <;> rw [e]
 ·exact h x hx
 ·exact hi
theorem zcn {o : Sm Str} {l : Int} (ho : o.dp = 1 ∧ o.lv = 1) : ∀ k : Nat, (turned o l k).dp ≤ k + 1 ∧ (turned o l k).lv = k + 1
 | 0 => ⟨by show o.dp ≤ 1; omega, ho.2⟩
 | k + 1 => by
  obtain ⟨h1, h2⟩ := zcn (l := l) ho k
  refine ⟨?_, ?_⟩
  ·show max (turned o l k).dp 1 + 1 ≤ _; omega
  ·show (turned o l k).lv + 1 = _; omega
theorem zef {o : Sm Str} {l : Int} (ho : o.tx) (hl : l.natAbs < 10 ^ 40) : ∀ k : Nat, (turned o l k).tx
 | 0 => ho
 | k + 1 => ⟨zef ho hl k, hl⟩
theorem zcp {i : Int} (h : i.natAbs ≤ 100) : i.natAbs < 10 ^ 40 := Nat.lt_of_le_of_lt h (by decide)
theorem zas (salt : Int) (sc : List Str) : (sumF salt sc).dp ≤ 7 ∧ (sumF salt sc).lv ≤ 7 := by
 have a := v4 salt 1009 1013 sc
 have b := v4 salt 1019 1021 sc
 have l0 := wk (n := salt) (p := 1061) (show (0 : Int) < 4 by decide)
 have l4 := zar (n := salt) (p := 1061) (show (0 : Int) < 4 by decide)
 have t := zcn (l := drw salt 1061 4) a (drw salt 1061 4 + 3).toNat
 unfold sumF
 dsimp only
 split
 ·omega
 ·split
  ·simp only [Sm.dp, Sm.lv]; omega
  ·split
   ·simp only [Sm.dp, Sm.lv]; omega
   ·split
    ·simp only [Sm.dp, Sm.lv]; omega
    ·split
     ·omega
     ·split
      ·simp only [Sm.dp, Sm.lv]; omega
      ·simp only [Sm.dp, Sm.lv]; omega
theorem zf7 {salt : Int} {sc : List Str} (h : ∀ x ∈ sc, x.length ≤ 100) : (sumF salt sc).tx := by
 have a := zdn (salt := salt) (p1 := 1009) (p2 := 1013) h
 have b := zdn (salt := salt) (p1 := 1019) (p2 := 1021) h
 have l0 := wk (n := salt) (p := 1061) (show (0 : Int) < 4 by decide)
 have l4 := zar (n := salt) (p := 1061) (show (0 : Int) < 4 by decide)
 have c := zcp (i := drw salt 1061 4) (by omega)
 have c1 := zcp (i := drw salt 1061 4 - 1) (by omega)
 unfold sumF
 dsimp only
 split
 ·exact a
 ·split
  ·exact ⟨a, b⟩
  ·split
   ·exact ⟨a, b⟩
   ·split
    ·exact ⟨a, c1⟩
    ·split
     ·exact zef a c _
     ·split
      ·exact ⟨⟨⟨c, b, a⟩, b⟩, a, c⟩
      ·exact ⟨⟨a, b⟩, c, b⟩
theorem ze0 {salt : Int} {sc : List Str} (h : ∀ x ∈ sc, x.length ≤ 100) : (Th.s (sumF salt sc)).fit := by
 have a := zas salt sc
 have f := Sm.fits (zf7 (salt := salt) h)
 exact ⟨zf7 h, by show (sumF salt sc).dp ≤ 20; omega, Nat.le_trans f.1 (by omega), f.2⟩
noncomputable def Ts.wn : Ts → Nat
 | .less a b => 2 * a.lv + 2 * b.lv + 1
 | .same a b => 2 * a.lv + 2 * b.lv + 1
 | .not t => t.wn + 1
 | .both t u => t.wn + u.wn + 1
theorem Ts.fits : ∀ {t : Ts}, t.tx → Fits 100 t.wn t.words
 | .less a b, h => ((Sm.fits h.1).app (Sm.fits h.2)).cons (by decide)
 | .same a b, h => ((Sm.fits h.1).app (Sm.fits h.2)).cons (by decide)
 | .not t, h => (Ts.fits (t := t) h).cons (by decide)
 | .both t u, h => ((Ts.fits h.1).app (Ts.fits h.2)).cons (by decide)
theorem zcg (salt : Int) (sc : List Str) : (zah salt sc).dp ≤ 12 ∧ (zah salt sc).wn ≤ 190 := by
 have a := v4 salt 1009 1013 sc
 have b := v4 salt 1019 1021 sc
 have s := zas salt sc
 have one : (if drw salt 1097 3 = 1 then sumF salt sc else qs salt 1009 1013 sc).dp ≤ 7 ∧ (if drw salt 1097 3 = 1 then sumF salt sc else qs salt 1009 1013 sc).lv ≤ 7 := by
  split
  ·exact s
  ·omega
 unfold zah
 dsimp only
 generalize (if drw salt 1097 3 = 1 then sumF salt sc else qs salt 1009 1013 sc) = o at one
 split
 ·simp only [Ts.dp, Ts.wn, Sm.dp, Sm.lv]; omega
 ·split
  ·simp only [Ts.dp, Ts.wn, Sm.dp, Sm.lv]; omega
  ·split
   ·simp only [Ts.dp, Ts.wn, Sm.dp, Sm.lv]; omega
   ·split
    ·simp only [Ts.dp, Ts.wn, Sm.dp, Sm.lv]; omega
    ·simp only [Ts.dp, Ts.wn, Sm.dp, Sm.lv]; omega
theorem test_tx {salt : Int} {sc : List Str} (h : ∀ x ∈ sc, x.length ≤ 100) : (zah salt sc).tx := by
 have a := zdn (salt := salt) (p1 := 1009) (p2 := 1013) h
 have b := zdn (salt := salt) (p1 := 1019) (p2 := 1021) h
 have s := zf7 (salt := salt) h
 have l0 := wk (n := salt) (p := 1069) (show (0 : Int) < 9 by decide)
 have l4 := zar (n := salt) (p := 1069) (show (0 : Int) < 9 by decide)
 have c := zcp (i := drw salt 1069 9 - 1) (by omega)
 have d := zcp (i := -6) (by decide)
 have one : (if drw salt 1097 3 = 1 then sumF salt sc else qs salt 1009 1013 sc).tx := by
  split
  ·exact s
  ·exact a
 unfold zah
 dsimp only
 generalize (if drw salt 1097 3 = 1 then sumF salt sc else qs salt 1009 1013 sc) = o at one
 split
 ·exact ⟨one, b⟩
 ·split
  ·exact ⟨one, c⟩
  ·split
   ·exact ⟨⟨⟨one, c⟩, one, b⟩, ⟨one, b⟩, one, c⟩
   ·split
    ·exact ⟨⟨one, c⟩, d, one⟩
    ·exact ⟨one, c⟩
theorem zfh {salt : Int} {sc : List Str} (h : ∀ x ∈ sc, x.length ≤ 100) : (Th.t (zah salt sc)).fit := by
 have a := zcg salt sc
 have f := Ts.fits (test_tx (salt := salt) h)
 exact ⟨test_tx h, by show (zah salt sc).dp ≤ 20; omega, Nat.le_trans f.1 (by omega), f.2⟩
noncomputable def Hd.fit : Hd → Prop
 | .whil t => (Th.t t).fit
 | .when t => (Th.t t).fit
 | .els t b => (Th.t t).fit ∧ b.fit
 | .wit x a => x.length ≤ 100 ∧ (Th.s a).fit
theorem Bk.fit_app : ∀ {b c : Bk}, b.fit → c.fit → (b.app c).fit
 | .nil, _, _, h => h
 | .set _ _ _, _, h, g => ⟨h.1, h.2.1, Bk.fit_app h.2.2 g⟩
 | .say _ _, _, h, g => ⟨h.1, Bk.fit_app h.2 g⟩
 | .when _ _ _ _, _, h, g => ⟨h.1, h.2.1, h.2.2.1, Bk.fit_app h.2.2.2 g⟩
 | .whil _ _ _, _, h, g => ⟨h.1, h.2.1, Bk.fit_app h.2.2 g⟩
 | .wit _ _ _ _, _, h, g => ⟨h.1, h.2.1, h.2.2.1, Bk.fit_app h.2.2.2 g⟩
theorem end_fit {salt : Int} {t : Ts} (h : (Th.t t).fit) : (endF salt t).fit := by
 unfold endF
 split
 ·rename_i x s2
  split
  ·have hx : x.length ≤ 100 := (show (Ts.less (.name x) s2).tx from h.1).1
   have ht : (Sm.op .add (.name x) (.num 1)).tx := ⟨hx, zcp (i := 1) (by decide)⟩
   have hs : (Th.s (Sm.op .add (.name x) (.num 1))).fit := by
    have f := Sm.fits ht
    exact ⟨ht, by show (2 : Nat) ≤ 20; decide, Nat.le_trans f.1 (by show 2 * 2 ≤ 190; decide), f.2⟩
   exact ⟨hx, hs, trivial⟩
  ·trivial
 ·trivial
structure Gs.Fit (g : Gs) : Prop where
 bs : ∀ b ∈ g.bs, b.fit
 hs : ∀ h ∈ g.hs, h.fit
 sc : ∀ x ∈ g.sc, x.length ≤ 100
theorem all2 {α : Type} {P : α → Prop} {x : α} {l : List α} (h : ∀ y ∈ x :: l, P y) : P x ∧ ∀ y ∈ l, P y := ⟨h x (by simp), fun y hy => h y (by simp [hy])⟩
theorem zcy {α : Type} {P : α → Prop} {x : α} {l : List α} (h : P x) (g : ∀ y ∈ l, P y) : ∀ y ∈ x :: l, P y := fun y hy => by
 rcases List.mem_cons.mp hy with rfl | hy
 ·exact h
 ·exact g y hy
theorem zeb {salt : Int} {g : Gs} (h : g.Fit) : (xr salt g).Fit := by
 obtain ⟨bs, hs, sc⟩ := g
 obtain ⟨h1, h2, h3⟩ := h
 unfold xr
 split
 ·rename_i t hs' b bs' e1 e2
  simp only at e1 e2
  subst e1 e2
  exact ⟨zcy trivial (all2 h1).2, zcy ⟨(all2 h2).1, (all2 h1).1⟩ (all2 h2).2, h3⟩
 ·rename_i t b0 hs' b b1 bs' e1 e2
  simp only at e1 e2
  subst e1 e2
  have q := all2 (all2 h1).2
  exact ⟨zcy (Bk.fit_app q.1 ⟨(all2 h2).1.1, (all2 h2).1.2, (all2 h1).1, trivial⟩) q.2, (all2 h2).2, h3⟩
 ·rename_i t hs' b b1 bs' e1 e2
  simp only at e1 e2
  subst e1 e2
  have q := all2 (all2 h1).2
  exact ⟨zcy (Bk.fit_app q.1 ⟨(all2 h2).1, Bk.fit_app (all2 h1).1 (end_fit (all2 h2).1), trivial⟩) q.2, (all2 h2).2, h3⟩
 ·rename_i x a hs' b b1 bs' e1 e2
  simp only at e1 e2
  subst e1 e2
  have q := all2 (all2 h1).2
  exact ⟨zcy (Bk.fit_app q.1 ⟨(all2 h2).1.1, (all2 h2).1.2, (all2 h1).1, trivial⟩) q.2, (all2 h2).2, fun y hy => h3 y (List.dropLast_subset _ hy)⟩
 ·exact ⟨h1, h2, h3⟩
theorem zf4 {o : Bk} {g : Gs} (h : g.Fit) (ho : o.fit) : (addF o g).Fit := by
 obtain ⟨bs, hs, sc⟩ := g
 obtain ⟨h1, h2, h3⟩ := h
 unfold addF
 split
 ·rename_i b bs' e
  simp only at e
  subst e
  exact ⟨zcy (Bk.fit_app (all2 h1).1 ho) (all2 h1).2, h2, h3⟩
 ·exact ⟨h1, h2, h3⟩
theorem zfy {l : List Str} {i : Nat} (h : ∀ x ∈ l, x.length ≤ 100) : ((l[i]?).getD "").length ≤ 100 := by
 cases e : l[i]? with
 | none => decide
 | some x => exact h x (List.mem_of_getElem? e)
theorem jar_len {salt : Int} {sc : List Str} (h : ∀ x ∈ sc, x.length ≤ 100) : (jarF salt sc).length ≤ 100 := by
 unfold jarF
 refine zfy fun x hx => ?_
 unfold zbz at hx
 rcases List.mem_append.mp hx with hx | hx
 ·exact h x (List.take_subset _ _ hx)
 ·rcases List.mem_cons.mp hx with rfl | hx
  ·decide
  ·rw [List.mem_singleton.mp hx]; decide
theorem stepF_fit {more : List Str} {k : Nat} {cell : Int} {g : Gs} (h : g.Fit) (hm : ∀ x ∈ more, x.length ≤ 100) : (v8 more k cell g).Fit := by
 have hn : ∀ x ∈ g.sc ++ more, x.length ≤ 100 := fun x hx => by
  rcases List.mem_append.mp hx with hx | hx
  ·exact h.sc x hx
  ·exact hm x hx
 unfold v8
 dsimp only
 split
 ·refine ⟨zcy trivial h.bs, zcy ?_ h.hs, ?_⟩
  ·unfold wq
   split
   ·exact zfh hn
   ·split
    ·exact zfh hn
    ·exact ⟨jar_len hn, ze0 hn⟩
  ·show ∀ x ∈ (if cell % 9 = 2 then g.sc ++ [jarF (cell + 7919 * k) (g.sc ++ more)] else g.sc), x.length ≤ 100
   split
   ·intro x hx
    rcases List.mem_append.mp hx with hx | hx
    ·exact h.sc x hx
    ·rw [List.mem_singleton.mp hx]; exact jar_len hn
   ·exact h.sc
 ·split
  ·exact zeb h
  ·split
   ·exact zf4 h ⟨zfy hn, ze0 hn, trivial⟩
   ·exact zf4 h ⟨ze0 hn, trivial⟩
theorem zen {more : List Str} (hm : ∀ x ∈ more, x.length ≤ 100) : ∀ (cs : List Int) {k : Nat} {g : Gs}, g.Fit → (zae more k cs g).Fit
 | [], _, _, h => h
 | c :: cs, k, g, h => zen hm cs (stepF_fit (k := k) (cell := c) h hm)
theorem zd9 : ∀ (n : Nat) {g : Gs}, g.Fit → (wm n g).Fit
 | 0, _, h => h
 | n + 1, g, h => zd9 n (zeb h)
theorem grown_fit {cells : List Int} {names more : List Str} (hn : ∀ x ∈ names, x.length ≤ 100) (hm : ∀ x ∈ more, x.length ≤ 100) : (v6 cells names more).fit := by
 have h := zd9 400 (zen hm cells (k := 0) (g := ⟨[.nil], [], names⟩) ⟨zcy trivial (by simp), by simp, hn⟩)
 unfold v6
 split
 ·rename_i b bs e
  exact h.bs b (by rw [e]; simp)
 ·trivial
noncomputable def dpOk (K : Nat) : List Bk → List Hd → Prop
 | [], _ => True
 | b :: bs, hs => b.dp + hs.length ≤ K + 1 ∧ (match hs with | .els _ b0 :: _ => b0.dp + hs.length ≤ K + 1 | _ => True) ∧ dpOk K bs hs.tail
theorem Bk.dp_app : ∀ b c : Bk, (b.app c).dp = max b.dp c.dp
 | .nil, c => by have := c.dp_pos; show c.dp = max 1 c.dp; omega
 | .set _ _ r, c => by show (r.app c).dp = max r.dp c.dp; exact Bk.dp_app r c
 | .say _ r, c => by show (r.app c).dp = max r.dp c.dp; exact Bk.dp_app r c
 | .when _ b d r, c => by show max (max (b.dp + 1) (d.dp + 1)) (r.app c).dp = max (max (max (b.dp + 1) (d.dp + 1)) r.dp) c.dp; rw [Bk.dp_app r c]; exact (Nat.max_assoc _ _ _).symm
 | .whil _ b r, c => by show max (b.dp + 1) (r.app c).dp = max (max (b.dp + 1) r.dp) c.dp; rw [Bk.dp_app r c]; exact (Nat.max_assoc _ _ _).symm
 | .wit _ _ b r, c => by show max (b.dp + 1) (r.app c).dp = max (max (b.dp + 1) r.dp) c.dp; rw [Bk.dp_app r c]; exact (Nat.max_assoc _ _ _).symm
theorem endF_dp (salt : Int) (t : Ts) : (endF salt t).dp = 1 := by
 unfold endF
 split
 ·split <;> rfl
 ·rfl
theorem za1 {K K' : Nat} (h : K ≤ K') : ∀ {bs : List Bk} {hs : List Hd}, dpOk K bs hs → dpOk K' bs hs
 | [], _, _ => trivial
 | b :: bs, hs, ⟨h1, h2, h3⟩ => by
  refine ⟨by omega, ?_, za1 h h3⟩
  split
  ·have h2' := h2
   simp only at h2'
   omega
  ·trivial
theorem zeu {salt : Int} {g : Gs} {K : Nat} (h : dpOk K g.bs g.hs) : dpOk K (xr salt g).bs (xr salt g).hs := by
 obtain ⟨bs, hs, sc⟩ := g
 unfold xr
 split
 ·rename_i t hs' b bs' e1 e2
  simp only at e1 e2
  subst e1 e2
  obtain ⟨h1, h2, h3⟩ := h
  simp only [List.length_cons] at h1
  have := b.dp_pos
  exact ⟨by show 1 + (hs'.length + 1) ≤ K + 1; omega, by show b.dp + (hs'.length + 1) ≤ K + 1; omega, h3⟩
 ·rename_i t b0 hs' b b1 bs' e1 e2
  simp only at e1 e2
  subst e1 e2
  obtain ⟨h1, h2, h3, h4, h5⟩ := h
  simp only [List.length_cons, List.tail_cons] at h1 h2 h3 h4 h5
  refine ⟨?_, h4, h5⟩
  show (b1.app (.when t b0 b .nil)).dp + hs'.length ≤ K + 1
  rw [Bk.dp_app]
  show max b1.dp (max (max (b0.dp + 1) (b.dp + 1)) 1) + hs'.length ≤ K + 1
  omega
 ·rename_i t hs' b b1 bs' e1 e2
  simp only at e1 e2
  subst e1 e2
  obtain ⟨h1, h2, h3, h4, h5⟩ := h
  simp only [List.length_cons, List.tail_cons] at h1 h2 h3 h4 h5
  refine ⟨?_, h4, h5⟩
  show (b1.app (.whil t (b.app (endF salt t)) .nil)).dp + hs'.length ≤ K + 1
  rw [Bk.dp_app]
  show max b1.dp (max ((b.app (endF salt t)).dp + 1) 1) + hs'.length ≤ K + 1
  rw [Bk.dp_app, endF_dp]
  have := b.dp_pos
  omega
 ·rename_i x a hs' b b1 bs' e1 e2
  simp only at e1 e2
  subst e1 e2
  obtain ⟨h1, h2, h3, h4, h5⟩ := h
  simp only [List.length_cons, List.tail_cons] at h1 h2 h3 h4 h5
  refine ⟨?_, h4, h5⟩
  show (b1.app (.wit x a b .nil)).dp + hs'.length ≤ K + 1
  rw [Bk.dp_app]
  show max b1.dp (max (b.dp + 1) 1) + hs'.length ≤ K + 1
  omega
 ·exact h
theorem addF_dp {o : Bk} {g : Gs} {K : Nat} (h : dpOk K g.bs g.hs) (ho : o.dp = 1) : dpOk K (addF o g).bs (addF o g).hs := by
 obtain ⟨bs, hs, sc⟩ := g
 unfold addF
 split
 ·rename_i b bs' e
  simp only at e
  subst e
  obtain ⟨h1, h2, h3⟩ := h
  refine ⟨?_, h2, h3⟩
  show (b.app o).dp + hs.length ≤ K + 1
  rw [Bk.dp_app, ho]
  have := b.dp_pos
  simp only at h1
  omega
 ·exact h
theorem stepF_dp {more : List Str} {k : Nat} {cell : Int} {g : Gs} {K : Nat} (h : dpOk K g.bs g.hs) (hK : g.hs.length ≤ K) : dpOk (K + 1) (v8 more k cell g).bs (v8 more k cell g).hs := by
 unfold v8
 dsimp only
 split
 ·refine ⟨by show 1 + (g.hs.length + 1) ≤ K + 1 + 1; omega, ?_, za1 (Nat.le_succ _) h⟩
  unfold wq
  split
  ·rename_i e; split at e
   ·cases e
   ·split at e <;> cases e
  ·trivial
 ·split
  ·exact za1 (Nat.le_succ _) (zeu h)
  ·split
   ·exact za1 (Nat.le_succ _) (addF_dp h rfl)
   ·exact za1 (Nat.le_succ _) (addF_dp h rfl)
theorem stepF_hs {more : List Str} {k : Nat} {cell : Int} {g : Gs} : (v8 more k cell g).hs.length ≤ g.hs.length + 1 := by
 have hc : ∀ s, (xr s g).hs.length ≤ g.hs.length + 1 := fun s => by
  obtain ⟨bs, hs, sc⟩ := g
  unfold xr
  split
  ·rename_i t hs' b bs' e1 e2; simp only at e1 e2; subst e1 e2; simp only [List.length_cons]; omega
  ·rename_i t b0 hs' b b1 bs' e1 e2; simp only at e1 e2; subst e1 e2; simp only [List.length_cons]; omega
  ·rename_i t hs' b b1 bs' e1 e2; simp only at e1 e2; subst e1 e2; simp only [List.length_cons]; omega
  ·rename_i x a hs' b b1 bs' e1 e2; simp only at e1 e2; subst e1 e2; simp only [List.length_cons]; omega
  ·exact Nat.le_succ _
 have ha : ∀ o, (addF o g).hs.length ≤ g.hs.length + 1 := fun o => by
  unfold addF
  split <;> exact Nat.le_succ _
 unfold v8
 dsimp only
 split
 ·exact Nat.le_refl _
 ·split
  ·exact hc _
  ·split
   ·exact ha _
   ·exact ha _
theorem zfz {more : List Str} : ∀ (cs : List Int) {k K : Nat} {g : Gs}, dpOk K g.bs g.hs → g.hs.length ≤ K → dpOk (K + cs.length) (zae more k cs g).bs (zae more k cs g).hs
 | [], _, _, _, h, _ => h
 | c :: cs, k, K, g, h, hK => by
  have := zfz (more := more) cs (k := k + 1) (stepF_dp (more := more) (k := k) (cell := c) h hK) (Nat.le_trans stepF_hs (by omega))
  rw [List.length_cons, show K + (cs.length + 1) = K + 1 + cs.length by omega]
  exact this
theorem zet : ∀ (n : Nat) {K : Nat} {g : Gs}, dpOk K g.bs g.hs → dpOk K (wm n g).bs (wm n g).hs
 | 0, _, _, h => h
 | n + 1, K, g, h => zet n (zeu h)
theorem grown_dp {cells : List Int} {names more : List Str} : (v6 cells names more).dp ≤ cells.length + 1 := by
 have h := zet 400 (zfz (more := more) cells (k := 0) (K := 0) (g := ⟨[.nil], [], names⟩) ⟨by show 1 + 0 ≤ 0 + 1; omega, trivial, trivial⟩ (Nat.le_refl _))
 rw [Nat.zero_add] at h
 unfold v6
 split
 ·rename_i b bs e
  rw [e] at h
  have := h.1
  omega
 ·exact Nat.succ_le_succ (Nat.zero_le _)
theorem zes : ∀ (n : Nat) {k : Nat} {g : Gs}, g.Ok k → (wm n g).Ok k
 | 0, _, _, h => h
 | n + 1, k, g, h => by
  by_cases hh : g.hs = []
  ·rw [zbi (n + 1) g hh]; exact h
  ·exact zes n (za3 h hh).1
theorem grown_n {cells : List Int} {names more : List Str} (hn : names.length ≤ 9) : (v6 cells names more).n ≤ 4 * cells.length := by
 have h := zes 400 (zd7 (more := more) cells (k := 0) (g := ⟨[.nil], [], names⟩) ⟨rfl, by simp [Gs.wt], by simp [Gs.n, Gs.wt, Bk.n], by show names.length ≤ 9 + 0; omega, by simp [Gs.w]⟩)
 rw [Nat.zero_add] at h
 have hn := h.n
 unfold v6
 split
 ·rename_i b bs e
  simp only [Gs.n] at hn
  rw [e, List.map_cons, List.sum_cons] at hn
  omega
 ·exact Nat.zero_le _
open PySem L2
open PySem L2
open PySem L2
open PySem L2
structure MDef (K : W.Frag) (m q : Str) (st : Stmt) (ps : List Str) (f : Addr) (fd : FuncData) : Prop where
 F : Fun K m q st f fd
 b : zb1 K fd ps []
structure Has (fs m : List (Str × V)) : Prop where
 at_ : ∀ f, fs.lookup f = m.lookup f
 len : fs.length ≤ 50
theorem Has.nil : Has [] [] := ⟨fun _ => rfl, by decide⟩
theorem keysL {f : Str} : ∀ {fs : List (Str × V)} {v w : V}, fs.lookup f = some w → (putF f v fs).length = fs.length
 | [], _, _, h => by simp at h
 | (k, x) :: r, v, w, h => by
  rw [show putF f v ((k, x) :: r) = (if k = f then (k, v) :: r else (k, x) :: putF f v r) from rfl]
  by_cases e : k = f
  ·rw [if_pos e]; rfl
  ·rw [if_neg e, List.length_cons, List.length_cons]
   have h' : r.lookup f = some w := by
    rw [List.lookup_cons] at h
    have : (f == k) = false := by
     rw [beq_eq_false_iff_ne]; exact fun z => e z.symm
    rw [this] at h
    exact h
   rw [keysL h']
theorem Has.put {fs m m' : List (Str × V)} {f : Str} {v w : V} (h : Has fs m) (hw : m.lookup f = some w) (hm : ∀ g, m'.lookup g = if g = f then some v else m.lookup g) : Has (putF f v fs) m' :=
 ⟨fun g => by rw [zak, hm, h.at_], by rw [keysL ((h.at_ f).trans hw)]; exact h.len⟩
theorem Has.new {fs m m' : List (Str × V)} {f : Str} {v : V} (h : Has fs m) (hl : fs.length ≤ 49) (hm : ∀ g, m'.lookup g = if g = f then some v else m.lookup g) : Has (putF f v fs) m' ∧ (putF f v fs).length ≤ fs.length + 1 :=
 ⟨⟨fun g => by rw [zak, hm, h.at_], by have := zal f v fs; omega⟩, zal f v fs⟩
noncomputable def mfl (lc lp : Addr) (left place : Int) (ld : Addr) : List (Str × V) := [("cards", .ref lc), ("pile", .ref lp), ("left", .int left), ("place", .int place), ("said", .ref ld)]
theorem zw (f g : Str) (v : V) (r : List (Str × V)) : List.lookup f ((g, v) :: r) = if f = g then some v else List.lookup f r := by
 rw [List.lookup_cons]
 by_cases h : f = g
 ·subst h; simp
 ·have : (f == g) = false := by rw [beq_eq_false_iff_ne]; exact h
  rw [this, if_neg h]
structure xm (C : Addr) (H : Hp) (p lc lp ld : Addr) (ws : List V) (pile : List Int) (left place : Int) (said : List Int) : Prop where
 ob : ∃ dx fs, H p = some (.ins C dx fs) ∧ Has fs (mfl lc lp left place ld)
 ec : H lc = some (.lst ws)
 ep : H lp = some (.lst (pile.map V.int))
 es : H ld = some (.lst (said.map V.int))
 n1 : lp ≠ lc
 n2 : lp ≠ ld
 n3 : ld ≠ lc
noncomputable def MOut (p lp ld : Addr) (H H' : Hp) : Prop := ∀ b o, b ≠ p → b ≠ lp → b ≠ ld → H b = some o → H' b = some o
theorem MOut.trans {p lp ld : Addr} {H H1 H2 : Hp} (a : MOut p lp ld H H1) (b : MOut p lp ld H1 H2) : MOut p lp ld H H2 := fun c o n1 n2 n3 h => b c o n1 n2 n3 (a c o n1 n2 n3 h)
theorem xm.np {C : Addr} {H : Hp} {p lc lp ld : Addr} {ws : List V} {pile : List Int} {left place : Int} {said : List Int} (h : xm C H p lc lp ld ws pile left place said) : p ≠ lc ∧ p ≠ lp ∧ p ≠ ld := by
 obtain ⟨dx, fs, e, _⟩ := h.ob
 exact ⟨x4 e h.ec (fun z => by cases z), x4 e h.ep (fun z => by cases z), x4 e h.es (fun z => by cases z)⟩
theorem xm.fld {C : Addr} {H : Hp} {p lc lp ld dx : Addr} {ws : List V} {pile : List Int} {left place left' place' : Int} {said : List Int} {fs' : List (Str × V)} (h : xm C H p lc lp ld ws pile left place said) (hf : Has fs' (mfl lc lp left' place' ld)) : xm C (upd H p (.ins C dx fs')) p lc lp ld ws pile left' place' said ∧ MOut p lp ld H (upd H p (.ins C dx fs')) := by
 obtain ⟨q1, q2, q3⟩ := h.np
 exact ⟨⟨⟨dx, fs', zc, hf⟩, by rw [zl q1.symm]; exact h.ec, by rw [zl q2.symm]; exact h.ep, by rw [zl q3.symm]; exact h.es, h.n1, h.n2, h.n3⟩, fun b o n1 _ _ e => by rw [zl n1]; exact e⟩
theorem xm.pileTo {C : Addr} {H : Hp} {p lc lp ld : Addr} {ws : List V} {pile : List Int} {left place : Int} {said : List Int} (h : xm C H p lc lp ld ws pile left place said) (pile' : List Int) : xm C (upd H lp (.lst (pile'.map V.int))) p lc lp ld ws pile' left place said ∧ MOut p lp ld H (upd H lp (.lst (pile'.map V.int))) := by
 obtain ⟨q1, q2, q3⟩ := h.np
 obtain ⟨dx, fs, e, hf⟩ := h.ob
 exact ⟨⟨⟨dx, fs, by rw [zl q2]; exact e, hf⟩, by rw [zl h.n1.symm]; exact h.ec, zc, by rw [zl h.n2.symm]; exact h.es, h.n1, h.n2, h.n3⟩, fun b o _ n2 _ e => by rw [zl n2]; exact e⟩
theorem xm.saidTo {C : Addr} {H : Hp} {p lc lp ld : Addr} {ws : List V} {pile : List Int} {left place : Int} {said : List Int} (h : xm C H p lc lp ld ws pile left place said) (said' : List Int) : xm C (upd H ld (.lst (said'.map V.int))) p lc lp ld ws pile left place said' ∧ MOut p lp ld H (upd H ld (.lst (said'.map V.int))) := by
 obtain ⟨q1, q2, q3⟩ := h.np
 obtain ⟨dx, fs, e, hf⟩ := h.ob
 exact ⟨⟨⟨dx, fs, by rw [zl q3]; exact e, hf⟩, by rw [zl h.n3.symm]; exact h.ec, by rw [zl h.n2]; exact h.ep, zc, h.n1, h.n2, h.n3⟩, fun b o _ _ n3 e => by rw [zl n3]; exact e⟩
theorem zb5 (lc lp : Addr) (l k : Int) (ld : Addr) : (mfl lc lp l k ld).lookup ("cards" : Str) = some (.ref lc) := by
 unfold mfl; rw [zw, if_pos rfl]
theorem jt (lc lp : Addr) (l k : Int) (ld : Addr) : (mfl lc lp l k ld).lookup ("pile" : Str) = some (.ref lp) := by
 unfold mfl; rw [zw, if_neg (by decide +kernel), zw, if_pos rfl]
theorem zac (lc lp : Addr) (l k : Int) (ld : Addr) : (mfl lc lp l k ld).lookup ("left" : Str) = some (.int l) := by
 unfold mfl; rw [zw, if_neg (by decide +kernel), zw, if_neg (by decide +kernel), zw, if_pos rfl]
theorem ja (lc lp : Addr) (l k : Int) (ld : Addr) : (mfl lc lp l k ld).lookup ("place" : Str) = some (.int k) := by
 unfold mfl; rw [zw, if_neg (by decide +kernel), zw, if_neg (by decide +kernel), zw, if_neg (by decide +kernel), zw, if_pos rfl]
theorem zfv (lc lp : Addr) (l k : Int) (ld : Addr) : (mfl lc lp l k ld).lookup ("said" : Str) = some (.ref ld) := by
 unfold mfl; rw [zw, if_neg (by decide +kernel), zw, if_neg (by decide +kernel), zw, if_neg (by decide +kernel), zw, if_neg (by decide +kernel), zw, if_pos rfl]
theorem jh {lc lp : Addr} {l k : Int} {ld : Addr} {m : Str} (h : ¬ m = "cards" ∧ ¬ m = "pile" ∧ ¬ m = "left" ∧ ¬ m = "place" ∧ ¬ m = "said") : (mfl lc lp l k ld).lookup m = none := by
 unfold mfl; rw [zw, if_neg h.1, zw, if_neg h.2.1, zw, if_neg h.2.2.1, zw, if_neg h.2.2.2.1, zw, if_neg h.2.2.2.2]; rfl
theorem zbf (lc lp : Addr) (l k k' : Int) (ld : Addr) (g : Str) : (mfl lc lp l k' ld).lookup g = if g = "place" then some (.int k') else (mfl lc lp l k ld).lookup g := by
 by_cases h : g = "place"
 ·subst h; rw [if_pos rfl]; exact ja ..
 ·rw [if_neg h]; unfold mfl; simp only [zw, if_neg h]
theorem zdc (lc lp : Addr) (l l' k : Int) (ld : Addr) (g : Str) : (mfl lc lp l' k ld).lookup g = if g = "left" then some (.int l') else (mfl lc lp l k ld).lookup g := by
 by_cases h : g = "left"
 ·subst h; rw [if_pos rfl]; exact zac ..
 ·rw [if_neg h]; unfold mfl; simp only [zw, if_neg h]
structure Fin where
 word : Bool
 said : List Int
 pile : List Int
 left : Nat
inductive Onp : Cd → List Int → List Int → List Int → List Int → Prop where
 | push {i : Int} {p s : List Int} : Onp (.push i) p s (p ++ [i]) s
 | load {j : Nat} {i : Int} {p s : List Int} : p[j]? = some i → Onp (.load (j : Int)) p s (p ++ [i]) s
 | store {j : Nat} {i : Int} {p s : List Int} : j < p.length → Onp (.store (j : Int)) (p ++ [i]) s (p.set j i) s
 | drop {i : Int} {p s : List Int} : Onp .drop (p ++ [i]) s p s
 | say {i : Int} {p s : List Int} : Onp .say (p ++ [i]) s p (s ++ [i])
 | flip {i : Int} {p s : List Int} : Onp .flip (p ++ [i]) s (p ++ [b2n (decide (i = 0))]) s
 | op {o : O3} {i j : Int} {p s : List Int} : (o = .mul → IntMulOk i j) → Onp (.op o) (p ++ [i] ++ [j]) s (p ++ [o.f i j]) s
 | less {i j : Int} {p s : List Int} : Onp .less (p ++ [i] ++ [j]) s (p ++ [b2n (decide (i < j))]) s
 | same {i j : Int} {p s : List Int} : Onp .same (p ++ [i] ++ [j]) s (p ++ [b2n (decide (i = j))]) s
inductive MStp (cs : List Cd) : Nat → List Int → Nat → List Int → Nat → List Int → Nat → List Int → Prop where
 | pile {k : Nat} {c : Cd} {p p' : List Int} {l : Nat} {s s' : List Int} : cs[k]? = some c → Onp c p s p' s' → MStp cs k p l s (k + 1) p' l s'
 | burn {k : Nat} {p : List Int} {l : Nat} {s : List Int} : cs[k]? = some .burn → MStp cs k p (l + 1) s (k + 1) p l s
 | back {k n : Nat} {p : List Int} {l : Nat} {s : List Int} : cs[k]? = some (.back (n : Int)) → n ≤ k → MStp cs k p (l + 1) s (k - n) p l s
 | skip {k n : Nat} {p : List Int} {l : Nat} {s : List Int} : cs[k]? = some (.skip (n : Int)) → k + 1 + n ≤ cs.length → MStp cs k p l s (k + 1 + n) p l s
 | fork0 {k n : Nat} {p : List Int} {l : Nat} {s : List Int} : cs[k]? = some (.fork (n : Int)) → k + 1 + n ≤ cs.length → MStp cs k (p ++ [0]) l s (k + 1 + n) p l s
 | fork1 {k : Nat} {n i : Int} {p : List Int} {l : Nat} {s : List Int} : cs[k]? = some (.fork n) → i ≠ 0 → MStp cs k (p ++ [i]) l s (k + 1) p l s
noncomputable def Cd.oil : Cd → Bool
 | .burn => true
 | .back _ => true
 | _ => false
inductive MRun (cs : List Cd) : Nat → Nat → List Int → Nat → List Int → Fin → Prop where
 | done {p : List Int} {l : Nat} {s : List Int} : MRun cs 0 cs.length p l s ⟨true, s, p, l⟩
 | dry {k : Nat} {c : Cd} {p s : List Int} : cs[k]? = some c → c.oil = true → MRun cs 0 k p 0 s ⟨false, s, p, 0⟩
 | step {m k k' : Nat} {p p' : List Int} {l l' : Nat} {s s' : List Int} {f : Fin} : MStp cs k p l s k' p' l' s' → p.length ≤ 1000000 → s.length ≤ 1000000 → MRun cs m k' p' l' s' f → MRun cs (m + 1) k p l s f
theorem Onp.len {c : Cd} {p s p' s' : List Int} (h : Onp c p s p' s') : p'.length ≤ p.length + 1 ∧ s'.length ≤ s.length + 1 := by
 cases h <;> simp <;> omega
theorem MStp.len {cs : List Cd} {k k' l l' : Nat} {p s p' s' : List Int} (h : MStp cs k p l s k' p' l' s') : p'.length ≤ p.length + 1 ∧ s'.length ≤ s.length + 1 := by
 cases h with
 | pile _ h => exact h.len
 | burn _ => omega
 | back _ _ => omega
 | skip _ _ => omega
 | fork0 _ _ => simp; omega
 | fork1 _ _ => simp; omega
theorem MStp.lt {cs : List Cd} {k k' l l' : Nat} {p s p' s' : List Int} (h : MStp cs k p l s k' p' l' s') : ∃ c, cs[k]? = some c ∧ (l = 0 → c.oil = false) := by
 cases h with
 | pile e h => exact ⟨_, e, fun _ => by cases h <;> rfl⟩
 | burn e => exact ⟨_, e, fun z => by cases z⟩
 | back e _ => exact ⟨_, e, fun z => by cases z⟩
 | skip e _ => exact ⟨_, e, fun _ => rfl⟩
 | fork0 e _ => exact ⟨_, e, fun _ => rfl⟩
 | fork1 e _ => exact ⟨_, e, fun _ => rfl⟩
noncomputable def Cd.wd : Cd → Str
 | .push _ => "push" | .load _ => "load" | .store _ => "store" | .drop => "drop" | .op o => o.w | .less => "less" | .same => "same" | .flip => "flip" | .say => "say" | .skip _ => "skip" | .fork _ => "fork" | .burn => "burn" | .back _ => "back"
theorem Cd.hd (c : Cd) : ∃ r, c.vs = .str c.wd :: r := by cases c <;> exact ⟨_, rfl⟩
theorem Cd.oil_in (c : Cd) : inV (.str c.wd) [.str "burn", .str "back"] = c.oil := by
 cases c with
 | op o => cases o <;> decide +kernel
 | push _ => exact (by decide +kernel : inV (.str "push") [.str "burn", .str "back"] = false)
 | load _ => exact (by decide +kernel : inV (.str "load") [.str "burn", .str "back"] = false)
 | store _ => exact (by decide +kernel : inV (.str "store") [.str "burn", .str "back"] = false)
 | drop => decide +kernel
 | less => decide +kernel
 | same => decide +kernel
 | flip => decide +kernel
 | say => decide +kernel
 | skip _ => exact (by decide +kernel : inV (.str "skip") [.str "burn", .str "back"] = false)
 | fork _ => exact (by decide +kernel : inV (.str "fork") [.str "burn", .str "back"] = false)
 | burn => decide +kernel
 | back _ => exact (by decide +kernel : inV (.str "back") [.str "burn", .str "back"] = true)
theorem Onp.hops {c : Cd} {p s p' s' : List Int} (h : Onp c p s p' s') : decide (V.str c.wd = V.str "fork") = false ∧ decide (V.str c.wd = V.str "skip") = false ∧ decide (V.str c.wd = V.str "burn") = false ∧ decide (V.str c.wd = V.str "back") = false := by
 cases h with
 | @op o i j p s hm => cases o <;> exact ⟨by decide +kernel, by decide +kernel, by decide +kernel, by decide +kernel⟩
 | push => exact ⟨(by decide +kernel : decide (V.str "push" = V.str "fork") = false), (by decide +kernel : decide (V.str "push" = V.str "skip") = false), (by decide +kernel : decide (V.str "push" = V.str "burn") = false), (by decide +kernel : decide (V.str "push" = V.str "back") = false)⟩
 | load _ => exact ⟨(by decide +kernel : decide (V.str "load" = V.str "fork") = false), (by decide +kernel : decide (V.str "load" = V.str "skip") = false), (by decide +kernel : decide (V.str "load" = V.str "burn") = false), (by decide +kernel : decide (V.str "load" = V.str "back") = false)⟩
 | store _ => exact ⟨(by decide +kernel : decide (V.str "store" = V.str "fork") = false), (by decide +kernel : decide (V.str "store" = V.str "skip") = false), (by decide +kernel : decide (V.str "store" = V.str "burn") = false), (by decide +kernel : decide (V.str "store" = V.str "back") = false)⟩
 | drop => exact ⟨by decide +kernel, by decide +kernel, by decide +kernel, by decide +kernel⟩
 | say => exact ⟨by decide +kernel, by decide +kernel, by decide +kernel, by decide +kernel⟩
 | flip => exact ⟨by decide +kernel, by decide +kernel, by decide +kernel, by decide +kernel⟩
 | less => exact ⟨by decide +kernel, by decide +kernel, by decide +kernel, by decide +kernel⟩
 | same => exact ⟨by decide +kernel, by decide +kernel, by decide +kernel, by decide +kernel⟩
theorem xm.cdsOut {C : Addr} {H H' : Hp} {p lc lp ld : Addr} {ws ws' : List V} {pile : List Int} {left place : Int} {said : List Int} {cs : List Cd} (h : xm C H p lc lp ld ws pile left place said) (M : MOut p lp ld H H') (hc : Cds H ws' cs) : Cds H' ws' cs := by
 obtain ⟨dx, fs, e, _⟩ := h.ob
 exact Paired.mapP hc fun v c ⟨a, ea, ht⟩ => ⟨a, ea, M a _ (x4 ht e (fun z => by cases z)) (x4 ht h.ep (fun z => by cases z)) (x4 ht h.es (fun z => by cases z)) ht⟩
open PySem L2
theorem lk_snoc {m : List (Str × V)} {f : Str} {v : V} (h : m.lookup f = none) (g : Str) : (m ++ [(f, v)]).lookup g = if g = f then some v else m.lookup g := by
 induction m with
 | nil => rw [List.nil_append, zw]
 | cons x m ih =>
  obtain ⟨k, y⟩ := x
  rw [zw] at h
  rw [List.cons_append, zw, zw]
  by_cases e : f = k
  ·rw [if_pos e] at h; cases h
  ·rw [if_neg e] at h
   by_cases e1 : g = k
   ·rw [if_pos e1, if_pos e1]
    rw [if_neg]
    intro z
    exact e (z.symm.trans e1)
   ·rw [if_neg e1, if_neg e1]
    exact ih h
theorem Has.snoc {fs m : List (Str × V)} {f : Str} {v : V} (h : Has fs m) (hl : fs.length ≤ 49) (hn : m.lookup f = none) : Has (putF f v fs) (m ++ [(f, v)]) ∧ (putF f v fs).length ≤ fs.length + 1 := h.new hl (lk_snoc hn)
end J
namespace W12
open PySem L2 J
noncomputable def top (i : Nat) : Stmt := PySem.Challenge.pw_jarcards_k12_whole_both_ways.main.body.getD i (.Pass ⟨0, 0, 0, 0⟩)
noncomputable abbrev zdt : Stmt := top 0
noncomputable abbrev vo : Stmt := top 6
theorem zc7 : qh ["names", "name", "place"] ["names", "name"] (zh vo) := ⟨rfl, rfl, rfl, by decide +kernel, rfl, by decide +kernel, by decide +kernel⟩
noncomputable abbrev vn : Stmt := top 7
theorem sc_reckoned : qh ["word", "first", "second"] ["word", "first", "second"] (zh vn) := ⟨rfl, rfl, rfl, by decide +kernel, rfl, by decide +kernel, by decide +kernel⟩
noncomputable abbrev zb3 : Stmt := top 8
theorem zfo : qh ["part", "names", "values", "word"] ["part", "names", "values"] (zh zb3) := ⟨rfl, rfl, rfl, by decide +kernel, rfl, by decide +kernel, by decide +kernel⟩
noncomputable abbrev zb4 : Stmt := top 9
theorem zcr : qh ["test", "names", "values", "word", "first", "second"] ["test", "names", "values"] (zh zb4) := ⟨rfl, rfl, rfl, by decide +kernel, rfl, by decide +kernel, by decide +kernel⟩
noncomputable abbrev ke : Stmt := top 10
theorem zan : qh ["part", "found", "inner"] ["part"] (zh ke) := ⟨rfl, rfl, rfl, by decide +kernel, rfl, by decide +kernel, by decide +kernel⟩
noncomputable abbrev kq : Stmt := top 12
theorem zcq : qh ["part", "names", "word"] ["part", "names"] (zh kq) := ⟨rfl, rfl, rfl, by decide +kernel, rfl, by decide +kernel, by decide +kernel⟩
noncomputable abbrev kg : Stmt := top 13
theorem sc_both_cards : qh ["first", "second"] ["first", "second"] (zh kg) := ⟨rfl, rfl, rfl, by decide +kernel, rfl, by decide +kernel, by decide +kernel⟩
noncomputable abbrev kb : Stmt := top 14
theorem zb8 : qh ["test", "names", "word"] ["test", "names"] (zh kb) := ⟨rfl, rfl, rfl, by decide +kernel, rfl, by decide +kernel, by decide +kernel⟩
noncomputable abbrev ka : Stmt := top 15
theorem sc_when_cards : qh ["test", "first", "second"] ["test", "first", "second"] (zh ka) := ⟨rfl, rfl, rfl, by decide +kernel, rfl, by decide +kernel, by decide +kernel⟩
noncomputable abbrev ju : Stmt := top 16
theorem sc_while_cards : qh ["test", "inner"] ["test", "inner"] (zh ju) := ⟨rfl, rfl, rfl, by decide +kernel, rfl, by decide +kernel, by decide +kernel⟩
noncomputable abbrev jy : Stmt := top 17
theorem j5 : qh ["block", "names", "made", "order", "word", "test"] ["block", "names"] (zh jy) := ⟨rfl, rfl, rfl, by decide +kernel, rfl, by decide +kernel, by decide +kernel⟩
noncomputable abbrev vy : Stmt := top 18
theorem sc_cards_of : qh ["program"] ["program"] (zh vy) := ⟨rfl, rfl, rfl, by decide +kernel, rfl, by decide +kernel, by decide +kernel⟩
noncomputable abbrev x5 : Stmt := top 21
theorem zat : qh ["order", "word"] ["order"] (zh x5) := ⟨rfl, rfl, rfl, by decide +kernel, rfl, by decide +kernel, by decide +kernel⟩
noncomputable abbrev xn : Stmt := top 22
theorem jq : qh ["block", "names", "found", "order", "word"] ["block", "names"] (zh xn) := ⟨rfl, rfl, rfl, by decide +kernel, rfl, by decide +kernel, by decide +kernel⟩
noncomputable abbrev kr : Stmt := top 23
theorem sc_strangers : qh ["program"] ["program"] (zh kr) := ⟨rfl, rfl, rfl, by decide +kernel, rfl, by decide +kernel, by decide +kernel⟩
noncomputable abbrev jz : Stmt := je (top 24) 0
theorem sc_Course_init : qh ["self", "program", "starts", "oil"] ["self", "program", "starts", "oil"] (zh jz) := ⟨rfl, rfl, rfl, by decide +kernel, rfl, by decide +kernel, by decide +kernel⟩
noncomputable abbrev xk : Stmt := je (top 24) 1
theorem sc_Course_put_ahead : qh ["self", "block"] ["self", "block"] (zh xk) := ⟨rfl, rfl, rfl, by decide +kernel, rfl, by decide +kernel, by decide +kernel⟩
noncomputable abbrev vd : Stmt := je (top 24) 2
theorem zcs : qh ["self", "step"] ["self"] (zh vd) := ⟨rfl, rfl, rfl, by decide +kernel, rfl, by decide +kernel, by decide +kernel⟩
noncomputable abbrev jn : Stmt := je (top 24) 3
theorem zbk : qh ["self", "order", "word"] ["self", "order"] (zh jn) := ⟨rfl, rfl, rfl, by decide +kernel, rfl, by decide +kernel, by decide +kernel⟩
noncomputable abbrev xb : Stmt := je (top 24) 4
theorem sc_Course_begin_while : qh ["self", "order"] ["self", "order"] (zh xb) := ⟨rfl, rfl, rfl, by decide +kernel, rfl, by decide +kernel, by decide +kernel⟩
noncomputable abbrev xg : Stmt := je (top 24) 5
theorem wb : qh ["self", "order", "start"] ["self", "order"] (zh xg) := ⟨rfl, rfl, rfl, by decide +kernel, rfl, by decide +kernel, by decide +kernel⟩
noncomputable abbrev xj : Stmt := je (top 24) 6
theorem sc_Course_worth_now : qh ["self", "part"] ["self", "part"] (zh xj) := ⟨rfl, rfl, rfl, by decide +kernel, rfl, by decide +kernel, by decide +kernel⟩
noncomputable abbrev xl : Stmt := je (top 24) 7
theorem sc_Course_holds_now : qh ["self", "test"] ["self", "test"] (zh xl) := ⟨rfl, rfl, rfl, by decide +kernel, rfl, by decide +kernel, by decide +kernel⟩
noncomputable abbrev vx : Stmt := top 25
theorem wa : qh ["program", "starts", "oil", "unknown", "name", "course", "word"] ["program", "starts", "oil"] (zh vx) := ⟨rfl, rfl, rfl, by decide +kernel, rfl, by decide +kernel, by decide +kernel⟩
noncomputable abbrev kt : Stmt := top 28
theorem sc_one_where : qh ["held"] ["held"] (zh kt) := ⟨rfl, rfl, rfl, by decide +kernel, rfl, by decide +kernel, by decide +kernel⟩
noncomputable abbrev jv : Stmt := top 29
theorem sc_made_of_two : qh ["word", "first", "second"] ["word", "first", "second"] (zh jv) := ⟨rfl, rfl, rfl, by decide +kernel, rfl, by decide +kernel, by decide +kernel⟩
noncomputable abbrev jm : Stmt := je (top 30) 0
theorem sc_Machine_init : qh ["self", "cards", "pile", "oil"] ["self", "cards", "pile", "oil"] (zh jm) := ⟨rfl, rfl, rfl, by decide +kernel, rfl, by decide +kernel, by decide +kernel⟩
noncomputable abbrev xy : Stmt := je (top 30) 1
theorem sc_Machine_ending : qh ["self"] ["self"] (zh xy) := ⟨rfl, rfl, rfl, by decide +kernel, rfl, by decide +kernel, by decide +kernel⟩
noncomputable abbrev jr : Stmt := je (top 30) 2
noncomputable abbrev xp : Stmt := je (top 30) 3
theorem km : qh ["self", "card", "word"] ["self"] (zh xp) := ⟨rfl, rfl, rfl, by decide +kernel, rfl, by decide +kernel, by decide +kernel⟩
noncomputable abbrev xa : Stmt := je (top 30) 4
theorem xh : qh ["self", "card", "word", "number", "second", "first"] ["self", "card"] (zh xa) := ⟨rfl, rfl, rfl, by decide +kernel, rfl, by decide +kernel, by decide +kernel⟩
noncomputable abbrev xc : Stmt := je (top 30) 5
theorem sc_Machine_taken_off : qh ["self"] ["self"] (zh xc) := ⟨rfl, rfl, rfl, by decide +kernel, rfl, by decide +kernel, by decide +kernel⟩
noncomputable abbrev qv : Stmt := je (top 30) 6
theorem sc_Machine_place_on_pile : qh ["self", "place"] ["self", "place"] (zh qv) := ⟨rfl, rfl, rfl, by decide +kernel, rfl, by decide +kernel, by decide +kernel⟩
noncomputable abbrev xf : Stmt := je (top 30) 7
theorem sc_Machine_leave_out : qh ["self", "count"] ["self", "count"] (zh xf) := ⟨rfl, rfl, rfl, by decide +kernel, rfl, by decide +kernel, by decide +kernel⟩
noncomputable abbrev xo : Stmt := je (top 30) 8
theorem sc_Machine_go_back : qh ["self", "count"] ["self", "count"] (zh xo) := ⟨rfl, rfl, rfl, by decide +kernel, rfl, by decide +kernel, by decide +kernel⟩
noncomputable abbrev zek : Stmt := top 31
theorem sc_ran : qh ["cards", "pile", "oil", "machine"] ["cards", "pile", "oil"] (zh zek) := ⟨rfl, rfl, rfl, by decide +kernel, rfl, by decide +kernel, by decide +kernel⟩
noncomputable abbrev vw : Stmt := top 33
theorem sc_law_draw : qh ["_law_number", "_law_prime", "_law_many"] ["_law_number", "_law_prime", "_law_many"] (zh vw) := ⟨rfl, rfl, rfl, by decide +kernel, rfl, by decide +kernel, by decide +kernel⟩
noncomputable abbrev ku : Stmt := top 34
theorem sc_law_whole : qh ["_law_found"] ["_law_found"] (zh ku) := ⟨rfl, rfl, rfl, by decide +kernel, rfl, by decide +kernel, by decide +kernel⟩
noncomputable abbrev zav : Stmt := top 35
theorem sc_law_at : qh ["_law_script", "_law_k"] ["_law_script", "_law_k"] (zh zav) := ⟨rfl, rfl, rfl, by decide +kernel, rfl, by decide +kernel, by decide +kernel⟩
noncomputable abbrev va : Stmt := top 36
theorem vi : qh ["_law_found", "_law_due", "_law_left", "_law_right", "_law_one", "_law_two"] ["_law_found", "_law_due"] (zh va) := ⟨rfl, rfl, rfl, by decide +kernel, rfl, by decide +kernel, by decide +kernel⟩
noncomputable abbrev vt : Stmt := top 37
theorem v9 : qh ["_law_salt", "_law_prime", "_law_second", "_law_scope", "_law_spot", "_law_number"] ["_law_salt", "_law_prime", "_law_second", "_law_scope"] (zh vt) := ⟨rfl, rfl, rfl, by decide +kernel, rfl, by decide +kernel, by decide +kernel⟩
noncomputable abbrev kf : Stmt := top 38
theorem xx : qh ["_law_salt", "_law_scope", "_law_way", "_law_less", "_law_one", "_law_two", "_law_turn", "_law_deep"] ["_law_salt", "_law_scope"] (zh kf) := ⟨rfl, rfl, rfl, by decide +kernel, rfl, by decide +kernel, by decide +kernel⟩
noncomputable abbrev jw : Stmt := top 39
theorem jk : qh ["_law_salt", "_law_scope", "_law_way", "_law_one", "_law_least", "_law_other"] ["_law_salt", "_law_scope"] (zh jw) := ⟨rfl, rfl, rfl, by decide +kernel, rfl, by decide +kernel, by decide +kernel⟩
noncomputable abbrev jx : Stmt := top 40
theorem w9 : qh ["_law_way", "_law_salt", "_law_scope", "_law_jars", "_law_jar"] ["_law_way", "_law_salt", "_law_scope"] (zh jx) := ⟨rfl, rfl, rfl, by decide +kernel, rfl, by decide +kernel, by decide +kernel⟩
noncomputable abbrev kz : Stmt := top 41
theorem wr : qh ["_law_blocks", "_law_heads", "_law_scope", "_law_salt", "_law_head", "_law_block", "_law_test"] ["_law_blocks", "_law_heads", "_law_scope", "_law_salt"] (zh kz) := ⟨rfl, rfl, rfl, by decide +kernel, rfl, by decide +kernel, by decide +kernel⟩
noncomputable abbrev ky : Stmt := top 42
theorem xw : qh ["_law_cells", "_law_names", "_law_more", "_law_blocks", "_law_heads", "_law_scope", "_law_k", "_law_way", "_law_salt", "_law_near", "_law_name"] ["_law_cells", "_law_names", "_law_more"] (zh ky) := ⟨rfl, rfl, rfl, by decide +kernel, rfl, by decide +kernel, by decide +kernel⟩
noncomputable abbrev jl : Stmt := top 43
theorem qw : qh ["_law_cell", "_law_made", "_law_k", "_law_letter", "_law_more", "_law_size", "_law_spot", "_law_letters"] ["_law_cell"] (zh jl) := ⟨rfl, rfl, rfl, by decide +kernel, rfl, by decide +kernel, by decide +kernel⟩
noncomputable abbrev x6 : Stmt := top 44
theorem zau : qh ["_law_cell", "_law_names", "_law_starts"] ["_law_cell", "_law_names"] (zh x6) := ⟨rfl, rfl, rfl, by decide +kernel, rfl, by decide +kernel, by decide +kernel⟩
noncomputable abbrev vv : Stmt := top 45
theorem zai : qh ["_law_names", "_law_name", "_law_place", "_law_k"] ["_law_names", "_law_name"] (zh vv) := ⟨rfl, rfl, rfl, by decide +kernel, rfl, by decide +kernel, by decide +kernel⟩
noncomputable abbrev kv : Stmt := top 46
theorem za7 : qh ["_law_part", "_law_names", "_law_pots", "_law_one", "_law_two"] ["_law_part", "_law_names", "_law_pots"] (zh kv) := ⟨rfl, rfl, rfl, by decide +kernel, rfl, by decide +kernel, by decide +kernel⟩
noncomputable abbrev vq : Stmt := top 47
theorem zbo : qh ["_law_test", "_law_names", "_law_pots", "_law_one", "_law_two"] ["_law_test", "_law_names", "_law_pots"] (zh vq) := ⟨rfl, rfl, rfl, by decide +kernel, rfl, by decide +kernel, by decide +kernel⟩
noncomputable abbrev vr : Stmt := top 48
theorem zc8 : qh ["_law_order", "_law_names", "_law_pots", "_law_told", "_law_sort"] ["_law_order", "_law_names", "_law_pots", "_law_told"] (zh vr) := ⟨rfl, rfl, rfl, by decide +kernel, rfl, by decide +kernel, by decide +kernel⟩
noncomputable abbrev vp : Stmt := top 49
theorem jc : qh ["_law_program", "_law_starts", "_law_oil", "_law_names", "_law_pots", "_law_told", "_law_left", "_law_todo", "_law_order"] ["_law_program", "_law_starts", "_law_oil"] (zh vp) := ⟨rfl, rfl, rfl, by decide +kernel, rfl, by decide +kernel, by decide +kernel⟩
noncomputable abbrev x9 : Stmt := top 50
theorem q8 : qh ["_law_thing", "_law_names", "_law_made", "_law_order", "_law_sort", "_law_inner", "_law_rows", "_law_far"] ["_law_thing", "_law_names"] (zh x9) := ⟨rfl, rfl, rfl, by decide +kernel, rfl, by decide +kernel, by decide +kernel⟩
noncomputable abbrev x8 : Stmt := top 51
theorem sc_law_fork_over : qh ["_law_row"] ["_law_row"] (zh x8) := ⟨rfl, rfl, rfl, by decide +kernel, rfl, by decide +kernel, by decide +kernel⟩
noncomputable abbrev zbl : Stmt := top 52
theorem wf : qh ["_law_script", "_law_names", "_law_starts", "_law_oil", "_law_program", "_law_due", "_law_handed", "_law_pots", "_law_cards", "_law_laid", "_law_made"] ["_law_script"] (zh zbl) := ⟨rfl, rfl, rfl, by decide +kernel, rfl, by decide +kernel, by decide +kernel⟩
set_option genInjectivity false in
set_option genSizeOf false in
structure Txt (K : W.Frag) (mg : Str → Option Value) where
 c_Course : Addr
 cl_Course : Cls K c_Course
 mg_Course : mg "Course" = some (.ref c_Course)
 na_Course_row : j1 K c_Course "row"
 na_Course_held : j1 K c_Course "held"
 na_Course_said : j1 K c_Course "said"
 na_Course_oil : j1 K c_Course "oil"
 na_Course_used : j1 K c_Course "used"
 na_Course_ahead : j1 K c_Course "ahead"
 c_Machine : Addr
 cl_Machine : Cls K c_Machine
 mg_Machine : mg "Machine" = some (.ref c_Machine)
 na_Machine_cards : j1 K c_Machine "cards"
 na_Machine_pile : j1 K c_Machine "pile"
 na_Machine_left : j1 K c_Machine "left"
 na_Machine_place : j1 K c_Machine "place"
 na_Machine_said : j1 K c_Machine "said"
 f_wall : Addr
 fd_wall : FuncData
 wall : Def K mg "_wall" zdt ["k"] f_wall fd_wall
 f_place_of : Addr
 fd_place_of : FuncData
 place_of : Def K mg "place_of" vo ["names", "name"] f_place_of fd_place_of
 f_reckoned : Addr
 fd_reckoned : FuncData
 reckoned : Def K mg "reckoned" vn ["word", "first", "second"] f_reckoned fd_reckoned
 f_worth : Addr
 fd_worth : FuncData
 worth : Def K mg "worth" zb3 ["part", "names", "values"] f_worth fd_worth
 f_holds : Addr
 fd_holds : FuncData
 holds : Def K mg "holds" zb4 ["test", "names", "values"] f_holds fd_holds
 f_names_used : Addr
 fd_names_used : FuncData
 names_used : Def K mg "names_used" ke ["part"] f_names_used fd_names_used
 f_sum_cards : Addr
 fd_sum_cards : FuncData
 sum_cards : Def K mg "sum_cards" kq ["part", "names"] f_sum_cards fd_sum_cards
 f_both_cards : Addr
 fd_both_cards : FuncData
 both_cards : Def K mg "both_cards" kg ["first", "second"] f_both_cards fd_both_cards
 f_test_cards : Addr
 fd_test_cards : FuncData
 test_cards : Def K mg "test_cards" kb ["test", "names"] f_test_cards fd_test_cards
 f_when_cards : Addr
 fd_when_cards : FuncData
 when_cards : Def K mg "when_cards" ka ["test", "first", "second"] f_when_cards fd_when_cards
 f_while_cards : Addr
 fd_while_cards : FuncData
 while_cards : Def K mg "while_cards" ju ["test", "inner"] f_while_cards fd_while_cards
 f_block_cards : Addr
 fd_block_cards : FuncData
 block_cards : Def K mg "block_cards" jy ["block", "names"] f_block_cards fd_block_cards
 f_cards_of : Addr
 fd_cards_of : FuncData
 cards_of : Def K mg "cards_of" vy ["program"] f_cards_of fd_cards_of
 f_names_at_head : Addr
 fd_names_at_head : FuncData
 names_at_head : Def K mg "names_at_head" x5 ["order"] f_names_at_head fd_names_at_head
 f_block_strangers : Addr
 fd_block_strangers : FuncData
 block_strangers : Def K mg "block_strangers" xn ["block", "names"] f_block_strangers fd_block_strangers
 f_strangers : Addr
 fd_strangers : FuncData
 strangers : Def K mg "strangers" kr ["program"] f_strangers fd_strangers
 f_Course_init : Addr
 fd_Course_init : FuncData
 Course_init : MDef K "__init__" "Course.__init__" jz ["self", "program", "starts", "oil"] f_Course_init fd_Course_init
 me_Course_init : Meth K c_Course "__init__" f_Course_init
 f_Course_put_ahead : Addr
 fd_Course_put_ahead : FuncData
 Course_put_ahead : MDef K "put_ahead" "Course.put_ahead" xk ["self", "block"] f_Course_put_ahead fd_Course_put_ahead
 me_Course_put_ahead : Meth K c_Course "put_ahead" f_Course_put_ahead
 f_Course_go : Addr
 fd_Course_go : FuncData
 Course_go : MDef K "go" "Course.go" vd ["self"] f_Course_go fd_Course_go
 me_Course_go : Meth K c_Course "go" f_Course_go
 f_Course_begin : Addr
 fd_Course_begin : FuncData
 Course_begin : MDef K "begin" "Course.begin" jn ["self", "order"] f_Course_begin fd_Course_begin
 me_Course_begin : Meth K c_Course "begin" f_Course_begin
 f_Course_begin_while : Addr
 fd_Course_begin_while : FuncData
 Course_begin_while : MDef K "begin_while" "Course.begin_while" xb ["self", "order"] f_Course_begin_while fd_Course_begin_while
 me_Course_begin_while : Meth K c_Course "begin_while" f_Course_begin_while
 f_Course_begin_with : Addr
 fd_Course_begin_with : FuncData
 Course_begin_with : MDef K "begin_with" "Course.begin_with" xg ["self", "order"] f_Course_begin_with fd_Course_begin_with
 me_Course_begin_with : Meth K c_Course "begin_with" f_Course_begin_with
 f_Course_worth_now : Addr
 fd_Course_worth_now : FuncData
 Course_worth_now : MDef K "worth_now" "Course.worth_now" xj ["self", "part"] f_Course_worth_now fd_Course_worth_now
 me_Course_worth_now : Meth K c_Course "worth_now" f_Course_worth_now
 f_Course_holds_now : Addr
 fd_Course_holds_now : FuncData
 Course_holds_now : MDef K "holds_now" "Course.holds_now" xl ["self", "test"] f_Course_holds_now fd_Course_holds_now
 me_Course_holds_now : Meth K c_Course "holds_now" f_Course_holds_now
 f_followed : Addr
 fd_followed : FuncData
 followed : Def K mg "followed" vx ["program", "starts", "oil"] f_followed fd_followed
 f_one_where : Addr
 fd_one_where : FuncData
 one_where : Def K mg "one_where" kt ["held"] f_one_where fd_one_where
 f_made_of_two : Addr
 fd_made_of_two : FuncData
 made_of_two : Def K mg "made_of_two" jv ["word", "first", "second"] f_made_of_two fd_made_of_two
 f_Machine_init : Addr
 fd_Machine_init : FuncData
 Machine_init : MDef K "__init__" "Machine.__init__" jm ["self", "cards", "pile", "oil"] f_Machine_init fd_Machine_init
 me_Machine_init : Meth K c_Machine "__init__" f_Machine_init
 f_Machine_ending : Addr
 fd_Machine_ending : FuncData
 Machine_ending : MDef K "ending" "Machine.ending" xy ["self"] f_Machine_ending fd_Machine_ending
 me_Machine_ending : Meth K c_Machine "ending" f_Machine_ending
 f_Machine_state : Addr
 fd_Machine_state : FuncData
 Machine_state : MDef K "state" "Machine.state" jr ["self"] f_Machine_state fd_Machine_state
 me_Machine_state : Meth K c_Machine "state" f_Machine_state
 f_Machine_do_card : Addr
 fd_Machine_do_card : FuncData
 Machine_do_card : MDef K "do_card" "Machine.do_card" xp ["self"] f_Machine_do_card fd_Machine_do_card
 me_Machine_do_card : Meth K c_Machine "do_card" f_Machine_do_card
 f_Machine_do_on_pile : Addr
 fd_Machine_do_on_pile : FuncData
 Machine_do_on_pile : MDef K "do_on_pile" "Machine.do_on_pile" xa ["self", "card"] f_Machine_do_on_pile fd_Machine_do_on_pile
 me_Machine_do_on_pile : Meth K c_Machine "do_on_pile" f_Machine_do_on_pile
 f_Machine_taken_off : Addr
 fd_Machine_taken_off : FuncData
 Machine_taken_off : MDef K "taken_off" "Machine.taken_off" xc ["self"] f_Machine_taken_off fd_Machine_taken_off
 me_Machine_taken_off : Meth K c_Machine "taken_off" f_Machine_taken_off
 f_Machine_place_on_pile : Addr
 fd_Machine_place_on_pile : FuncData
 Machine_place_on_pile : MDef K "place_on_pile" "Machine.place_on_pile" qv ["self", "place"] f_Machine_place_on_pile fd_Machine_place_on_pile
 me_Machine_place_on_pile : Meth K c_Machine "place_on_pile" f_Machine_place_on_pile
 f_Machine_leave_out : Addr
 fd_Machine_leave_out : FuncData
 Machine_leave_out : MDef K "leave_out" "Machine.leave_out" xf ["self", "count"] f_Machine_leave_out fd_Machine_leave_out
 me_Machine_leave_out : Meth K c_Machine "leave_out" f_Machine_leave_out
 f_Machine_go_back : Addr
 fd_Machine_go_back : FuncData
 Machine_go_back : MDef K "go_back" "Machine.go_back" xo ["self", "count"] f_Machine_go_back fd_Machine_go_back
 me_Machine_go_back : Meth K c_Machine "go_back" f_Machine_go_back
 f_ran : Addr
 fd_ran : FuncData
 ran : Def K mg "ran" zek ["cards", "pile", "oil"] f_ran fd_ran
 f_law_draw : Addr
 fd_law_draw : FuncData
 law_draw : Def K mg "_law_draw" vw ["_law_number", "_law_prime", "_law_many"] f_law_draw fd_law_draw
 f_law_whole : Addr
 fd_law_whole : FuncData
 law_whole : Def K mg "_law_whole" ku ["_law_found"] f_law_whole fd_law_whole
 f_law_at : Addr
 fd_law_at : FuncData
 law_at : Def K mg "_law_at" zav ["_law_script", "_law_k"] f_law_at fd_law_at
 f_law_alike : Addr
 fd_law_alike : FuncData
 law_alike : Def K mg "_law_alike" va ["_law_found", "_law_due"] f_law_alike fd_law_alike
 f_law_leaf : Addr
 fd_law_leaf : FuncData
 law_leaf : Def K mg "_law_leaf" vt ["_law_salt", "_law_prime", "_law_second", "_law_scope"] f_law_leaf fd_law_leaf
 f_law_sum_of : Addr
 fd_law_sum_of : FuncData
 law_sum_of : Def K mg "_law_sum_of" kf ["_law_salt", "_law_scope"] f_law_sum_of fd_law_sum_of
 f_law_test_of : Addr
 fd_law_test_of : FuncData
 law_test_of : Def K mg "_law_test_of" jw ["_law_salt", "_law_scope"] f_law_test_of fd_law_test_of
 f_law_head_of : Addr
 fd_law_head_of : FuncData
 law_head_of : Def K mg "_law_head_of" jx ["_law_way", "_law_salt", "_law_scope"] f_law_head_of fd_law_head_of
 f_law_close : Addr
 fd_law_close : FuncData
 law_close : Def K mg "_law_close" kz ["_law_blocks", "_law_heads", "_law_scope", "_law_salt"] f_law_close fd_law_close
 f_law_grown : Addr
 fd_law_grown : FuncData
 law_grown : Def K mg "_law_grown" ky ["_law_cells", "_law_names", "_law_more"] f_law_grown fd_law_grown
 f_law_names_of : Addr
 fd_law_names_of : FuncData
 law_names_of : Def K mg "_law_names_of" jl ["_law_cell"] f_law_names_of fd_law_names_of
 f_law_starts_of : Addr
 fd_law_starts_of : FuncData
 law_starts_of : Def K mg "_law_starts_of" x6 ["_law_cell", "_law_names"] f_law_starts_of fd_law_starts_of
 f_law_last : Addr
 fd_law_last : FuncData
 law_last : Def K mg "_law_last" vv ["_law_names", "_law_name"] f_law_last fd_law_last
 f_law_value : Addr
 fd_law_value : FuncData
 law_value : Def K mg "_law_value" kv ["_law_part", "_law_names", "_law_pots"] f_law_value fd_law_value
 f_law_true : Addr
 fd_law_true : FuncData
 law_true : Def K mg "_law_true" vq ["_law_test", "_law_names", "_law_pots"] f_law_true fd_law_true
 f_law_next : Addr
 fd_law_next : FuncData
 law_next : Def K mg "_law_next" vr ["_law_order", "_law_names", "_law_pots", "_law_told"] f_law_next fd_law_next
 f_law_walk : Addr
 fd_law_walk : FuncData
 law_walk : Def K mg "_law_walk" vp ["_law_program", "_law_starts", "_law_oil"] f_law_walk fd_law_walk
 f_law_cards_for : Addr
 fd_law_cards_for : FuncData
 law_cards_for : Def K mg "_law_cards_for" x9 ["_law_thing", "_law_names"] f_law_cards_for fd_law_cards_for
 f_law_fork_over : Addr
 fd_law_fork_over : FuncData
 law_fork_over : Def K mg "_law_fork_over" x8 ["_law_row"] f_law_fork_over fd_law_fork_over
 f_law : Addr
 fd_law : FuncData
 law : Def K mg "law" zbl ["_law_script"] f_law fd_law
 mk_Course : Mk K c_Course f_Course_init
 mk_Machine : Mk K c_Machine f_Machine_init
 a_AWAY : Addr
 m_AWAY : mg "AWAY" = some (.ref a_AWAY)
 k_AWAY : ∀ H : Hp, TpK K H a_AWAY [.str "away"]
 a_OIL_CARDS : Addr
 m_OIL_CARDS : mg "OIL_CARDS" = some (.ref a_OIL_CARDS)
 k_OIL_CARDS : ∀ H : Hp, TpK K H a_OIL_CARDS [.str "burn", .str "back"]
 b_len : mg "len" = none
 b_range : mg "range" = none
 b_isinstance : mg "isinstance" = none
 b_list : mg "list" = none
 b_tuple : mg "tuple" = none
 b_str : mg "str" = none
 b_int : mg "int" = none
 b_bool : mg "bool" = none
 b_reversed : mg "reversed" = none
section
variable {P : Program} {w : World} {K : W.Frag} {mg : Str → Option Value} {base : Heap}
noncomputable def spReck : Sp := fun vs H Q _ => ∃ (o : O3) (i j : Int), vs = [.str o.w, .int i, .int j] ∧ (o = .mul → IntMulOk i j) ∧ Q (.int (o.f i j)) H
theorem zc9 (T : Txt K mg) : FnOk P w K mg base CX0 1 T.f_reckoned T.fd_reckoned ["word", "first", "second"] spReck := by
 refine T.reckoned.F.ok sc_reckoned (fun vs H Q E h => ?_) (fun cdv A outer s H vs Q E hr h => ?_)
 ·obtain ⟨o, i, j, rfl, _⟩ := h; rfl
 obtain ⟨o, i, j, rfl, hm, q⟩ := h
 refine ⟨_, (zf (z0 (zj qi (pv 0) zi (zp _)) (zg (zr (zy jg (pv 1) (pv 2)))) zv)
  (zf (z0 (zj qi (pv 0) zi (zp _)) (zg (zr (zy v0 (pv 1) (pv 2)))) zv)
  (zg (zr (zy vk (pv 1) (pv 2)))))), ?_⟩
 try dsimp only[kx,kxb]
 cases o
 ·refine ⟨_, rfl, rfl, _, rfl, qj (by decide +kernel) ⟨_, rfl, _, rfl, _, _, rfl, rfl, q⟩⟩
 ·refine ⟨_, rfl, rfl, _, rfl, zo (by decide +kernel) ⟨_, rfl, rfl, _, rfl, qj (by decide +kernel) ⟨_, rfl, _, rfl, _, _, rfl, rfl, q⟩⟩⟩
 ·refine ⟨_, rfl, rfl, _, rfl, zo (by decide +kernel) ⟨_, rfl, rfl, _, rfl, zo (by decide +kernel) ⟨_, rfl, _, rfl, _, _, rfl, rfl, hm rfl, q⟩⟩⟩
noncomputable def spOneW : Sp := fun vs H Q _ => ∃ b : Bool, vs = [.bl b] ∧ Q (.int (b2n b)) H
theorem zcu (T : Txt K mg) : FnOk P w K mg base CX0 1 T.f_one_where T.fd_one_where ["held"] spOneW := by
 refine T.one_where.F.ok sc_one_where (fun vs H Q E h => ?_) (fun cdv A outer s H vs Q E hr h => ?_)
 ·obtain ⟨b, rfl, _⟩ := h; rfl
 obtain ⟨b, rfl, q⟩ := h
 refine ⟨_, (zg (zr (zfp (ki (pv 0)) zd zd))), ?_⟩
 try dsimp only[kx,kxb]
 refine ⟨_, rfl, _, rfl, ?_⟩
 cases b with
 | true => exact qj rfl q
 | false => exact zo rfl q
inductive Two : Str → Int → Int → Int → Prop where
 | less {i j : Int} : Two "less" i j (b2n (decide (i < j)))
 | same {i j : Int} : Two "same" i j (b2n (decide (i = j)))
 | op {o : O3} {i j : Int} : (o = .mul → IntMulOk i j) → Two o.w i j (o.f i j)
noncomputable def spTwo : Sp := fun vs H Q _ => ∃ (wd : Str) (i j r : Int), vs = [.str wd, .int i, .int j] ∧ Two wd i j r ∧ Q (.int r) H
theorem ok_made_of_two (T : Txt K mg) : FnOk P w K mg base CX0 2 T.f_made_of_two T.fd_made_of_two ["word", "first", "second"] spTwo := by
 have G_one_where := zcu (P := P) (w := w) (base := base) T
 have G_reckoned := zc9 (P := P) (w := w) (base := base) T
 refine T.made_of_two.F.ok sc_made_of_two (fun vs H Q E h => ?_) (fun cdv A outer s H vs Q E hr h => ?_)
 ·obtain ⟨wd, i, j, r, rfl, _⟩ := h; rfl
 obtain ⟨wd, i, j, r, rfl, ht, q⟩ := h
 refine ⟨_, (zf (z0 (zj qi (pv 0) zi (zp _)) (zg (zr (zk G_one_where hr rfl T.one_where.m T.one_where.F.kp T.one_where.b .nil zq (za (wu zbm (pv 1) (pv 2) (zp _)) zb)))) zv)
  (zf (z0 (zj qi (pv 0) zi (zp _)) (zg (zr (zk G_one_where hr rfl T.one_where.m T.one_where.F.kp T.one_where.b .nil zq (za (wu qi (pv 1) (pv 2) (zp _)) zb)))) zv)
  (zg (zr (zk G_reckoned hr rfl T.reckoned.m T.reckoned.F.kp T.reckoned.b .nil zq (za (pv 0) (za (pv 1) (za (pv 2) zb)))))))), ?_⟩
 try dsimp only[kx,kxb]
 cases ht with
 | less => exact ⟨_, rfl, rfl, _, rfl, qj (by decide +kernel) ⟨_, rfl, _, rfl, _, _, rfl, rfl, _, rfl, q⟩⟩
 | same =>
  refine ⟨_, rfl, rfl, _, rfl, zo (by decide +kernel) ⟨_, rfl, rfl, _, rfl, qj (by decide +kernel) ⟨_, rfl, _, rfl, rfl, _, rfl, ?_⟩⟩⟩
  have dv : decide (V.int i = V.int j) = decide (i = j) := decide_eq_decide.mpr ⟨fun z => by injection z, fun z => by rw [z]⟩
  rw [dv]
  exact q
 | @op o _ _ hm =>
  refine ⟨_, rfl, rfl, _, rfl, zo (by cases o <;> decide +kernel) ⟨_, rfl, rfl, _, rfl, zo (by cases o <;> decide +kernel) ?_⟩⟩
  exact ⟨_, rfl, _, rfl, _, rfl, o, i, j, rfl, hm, q⟩
noncomputable def spTaken (C : Addr) : Sp := fun vs H Q _ => ∃ (p lc lp ld : Addr) (ws : List V) (pile : List Int) (i left place : Int) (said : List Int), vs = [.ref p] ∧ xm C H p lc lp ld ws (pile ++ [i]) left place said ∧ ∀ H', xm C H' p lc lp ld ws pile left place said → MOut p lp ld H H' → Q (.int i) H'
theorem we (T : Txt K mg) : FnOk P w K mg base CX0 1 T.f_Machine_taken_off T.fd_Machine_taken_off ["self"] (spTaken T.c_Machine) := by
 refine T.Machine_taken_off.F.ok sc_Machine_taken_off (fun vs H Q E h => ?_) (fun cdv A outer s H vs Q E hr h => ?_)
 ·obtain ⟨p, lc, lp, ld, ws, pile, i, left, place, said, rfl, _⟩ := h; rfl
 obtain ⟨p, lc, lp, ld, ws, pile, i, left, place, said, rfl, hM, q⟩ := h
 refine ⟨_, (zf (z0 (za9 (zdu (qq (pv 0) rfl) (by intro _; rfl))) (zg zaw) zv)
  (zg (zr (wg F.plainAttrs_list F.slot_list_pop F.type_list_pop wj (qq (pv 0) rfl))))), ?_⟩
 try dsimp only[kx,kxb]
 obtain ⟨dx, fs, e, hf⟩ := hM.ob
 refine ⟨_, rfl, p, T.c_Machine, dx, fs, _, rfl, e, T.cl_Machine, T.na_Machine_pile, (hf.at_ _).trans (jt ..), true, .inl ⟨_, SqL.of hM.ep, by simp⟩, zo rfl ?_⟩
 have ep : H lp = some (.lst (pile.map V.int ++ [.int i])) := by rw [hM.ep, List.map_append]; rfl
 refine ⟨_, rfl, p, T.c_Machine, dx, fs, _, rfl, e, T.cl_Machine, T.na_Machine_pile, (hf.at_ _).trans (jt ..), .inl ⟨rfl, _, SqL.of ep⟩, _, _, _, rfl, rfl, ep, xu _ _, ?_⟩
 rw [List.dropLast_concat]
 exact q _ (hM.pileTo pile).1 (hM.pileTo pile).2
noncomputable def spPlaceOn (C : Addr) : Sp := fun vs H Q _ => ∃ (p lc lp ld : Addr) (ws : List V) (pile : List Int) (left place : Int) (said : List Int) (j : Nat), vs = [.ref p, .int (j : Int)] ∧ xm C H p lc lp ld ws pile left place said ∧ j < pile.length ∧ Q (.int (j : Int)) H
theorem ok_Machine_place_on_pile (T : Txt K mg) : FnOk P w K mg base CX0 1 T.f_Machine_place_on_pile T.fd_Machine_place_on_pile ["self", "place"] (spPlaceOn T.c_Machine) := by
 refine T.Machine_place_on_pile.F.ok sc_Machine_place_on_pile (fun vs H Q E h => ?_) (fun cdv A outer s H vs Q E hr h => ?_)
 ·obtain ⟨p, lc, lp, ld, ws, pile, left, place, said, j, rfl, _⟩ := h; rfl
 obtain ⟨p, lc, lp, ld, ws, pile, left, place, said, j, rfl, hM, hj, q⟩ := h
 refine ⟨_, (zf (z0 (PW.pt (zct (zj zbm (pv 1) zd (zp _)) (zbp (zj op_ge (pv 1) (qk qa rfl T.b_len PySem.boot_len (za (qq (pv 0) rfl) zb)) (zp _))))) (zg zaw) zv)
  (zg (zr (pv 1)))), ?_⟩
 try dsimp only[kx,kxb]
 obtain ⟨dx, fs, e, hf⟩ := hM.ob
 refine ⟨_, rfl, _, _, rfl, rfl, _, rfl, zo (decide_eq_false (by omega)) ?_⟩
 refine ⟨_, rfl, _, rfl, p, T.c_Machine, dx, fs, _, rfl, e, T.cl_Machine, T.na_Machine_pile, (hf.at_ _).trans (jt ..), _, _, rfl, .inl (SqL.of hM.ep), _, _, rfl, rfl, _, rfl, zo (decide_eq_false (by rw [List.length_map]; omega)) ?_⟩
 exact ⟨_, rfl, q⟩
noncomputable def spLeave (C : Addr) : Sp := fun vs H Q _ => ∃ (p lc lp ld : Addr) (ws : List V) (pile : List Int) (left : Int) (k n : Nat) (said : List Int), vs = [.ref p, .int (n : Int)] ∧ xm C H p lc lp ld ws pile left (k : Int) said ∧ k + n ≤ ws.length ∧ ∀ H', xm C H' p lc lp ld ws pile left ((k + n : Nat) : Int) said → MOut p lp ld H H' → Q .non H'
theorem ok_Machine_leave_out (T : Txt K mg) : FnOk P w K mg base CX0 1 T.f_Machine_leave_out T.fd_Machine_leave_out ["self", "count"] (spLeave T.c_Machine) := by
 refine T.Machine_leave_out.F.ok sc_Machine_leave_out (fun vs H Q E h => ?_) (fun cdv A outer s H vs Q E hr h => ?_)
 ·obtain ⟨p, lc, lp, ld, ws, pile, left, k, n, said, rfl, _⟩ := h; rfl
 obtain ⟨p, lc, lp, ld, ws, pile, left, k, n, said, rfl, hM, hn, q⟩ := h
 refine ⟨_, (zf (z0 (PW.pt (zct (zj zbm (pv 1) zd (zp _)) (zbp (zj zfq (pv 1) (zy v0 (qk qa rfl T.b_len PySem.boot_len (za (qq (pv 0) rfl) zb)) (qq (pv 0) rfl)) (zp _))))) (zg zaw) zv)
  (zg (ww (pv 0) (pv 1) zge))), ?_⟩
 try dsimp only[kx,kxb]
 obtain ⟨dx, fs, e, hf⟩ := hM.ob
 refine ⟨_, rfl, _, _, rfl, rfl, _, rfl, zo (decide_eq_false (by omega)) ?_⟩
 refine ⟨_, rfl, _, rfl, p, T.c_Machine, dx, fs, _, rfl, e, T.cl_Machine, T.na_Machine_cards, (hf.at_ _).trans (zb5 ..), _, _, rfl, .inl (SqL.of hM.ec), _, rfl, p, T.c_Machine, dx, fs, _, rfl, e, T.cl_Machine, T.na_Machine_place, (hf.at_ _).trans (ja ..), _, _, rfl, rfl, _, _, rfl, rfl, _, rfl, zo (decide_eq_false (by omega)) ?_⟩
 refine ⟨_, rfl, p, T.c_Machine, dx, fs, _, rfl, e, T.cl_Machine, T.na_Machine_place, (hf.at_ _).trans (ja ..), _, rfl, _, _, rfl, rfl, dx, fs, e, Nat.lt_of_le_of_lt hf.len (by decide), ?_⟩
 have hf2 : Has (putF "place" (.int ((k : Int) + (n : Int))) fs) (mfl lc lp left ((k : Int) + (n : Int)) ld) := hf.put (ja ..) (zbf _ _ _ _ _ _)
 have r := hM.fld (dx := dx) hf2
 have ek : ((k : Int) + (n : Int)) = ((k + n : Nat) : Int) := by omega
 exact q _ (by rw [← ek]; exact r.1) r.2
noncomputable def spGoBack (C : Addr) : Sp := fun vs H Q _ => ∃ (p lc lp ld : Addr) (ws : List V) (pile : List Int) (left : Int) (k n : Nat) (said : List Int), vs = [.ref p, .int (n : Int)] ∧ xm C H p lc lp ld ws pile left ((k + 1 : Nat) : Int) said ∧ n ≤ k ∧ ∀ H', xm C H' p lc lp ld ws pile left ((k - n : Nat) : Int) said → MOut p lp ld H H' → Q .non H'
theorem ok_Machine_go_back (T : Txt K mg) : FnOk P w K mg base CX0 1 T.f_Machine_go_back T.fd_Machine_go_back ["self", "count"] (spGoBack T.c_Machine) := by
 refine T.Machine_go_back.F.ok sc_Machine_go_back (fun vs H Q E h => ?_) (fun cdv A outer s H vs Q E hr h => ?_)
 ·obtain ⟨p, lc, lp, ld, ws, pile, left, k, n, said, rfl, _⟩ := h; rfl
 obtain ⟨p, lc, lp, ld, ws, pile, left, k, n, said, rfl, hM, hn, q⟩ := h
 refine ⟨_, (zf (z0 (PW.pt (zct (zj zbm (pv 1) zd (zp _)) (zbp (zj zfq (pv 1) (zy v0 (qq (pv 0) rfl) zd) (zp _))))) (zg zaw) zv)
  (zg (ww (pv 0) (zy jg (pv 1) zd) zgd))), ?_⟩
 try dsimp only[kx,kxb]
 obtain ⟨dx, fs, e, hf⟩ := hM.ob
 refine ⟨_, rfl, _, _, rfl, rfl, _, rfl, zo (decide_eq_false (by omega)) ?_⟩
 refine ⟨_, rfl, _, rfl, p, T.c_Machine, dx, fs, _, rfl, e, T.cl_Machine, T.na_Machine_place, (hf.at_ _).trans (ja ..), _, _, rfl, rfl, _, _, rfl, rfl, _, rfl, zo (decide_eq_false (by omega)) ?_⟩
 refine ⟨_, rfl, p, T.c_Machine, dx, fs, _, rfl, e, T.cl_Machine, T.na_Machine_place, (hf.at_ _).trans (ja ..), _, rfl, _, _, rfl, rfl, _, _, rfl, rfl, dx, fs, e, Nat.lt_of_le_of_lt hf.len (by decide), ?_⟩
 have hf2 : Has (putF "place" (.int (((k + 1 : Nat) : Int) - ((n : Int) + 1))) fs) (mfl lc lp left (((k + 1 : Nat) : Int) - ((n : Int) + 1)) ld) := hf.put (ja ..) (zbf _ _ _ _ _ _)
 have r := hM.fld (dx := dx) hf2
 have ek : (((k + 1 : Nat) : Int) - ((n : Int) + 1)) = ((k - n : Nat) : Int) := by omega
 exact q _ (by rw [← ek]; exact r.1) r.2
end
open PySem L2 J
section
variable {P : Program} {w : World} {K : W.Frag} {mg : Str → Option Value} {base : Heap}
noncomputable def spOnPile (C : Addr) : Sp := fun vs H Q _ => ∃ (p lc lp ld : Addr) (ws : List V) (pile pile' : List Int) (left place : Int) (said said' : List Int) (a : Addr) (c : Cd), vs = [.ref p, .ref a] ∧ xm C H p lc lp ld ws pile left place said ∧ H a = some (.tup c.vs) ∧ Onp c pile said pile' said' ∧ pile.length ≤ 1000000 ∧ said.length ≤ 1000000 ∧
 ∀ H', xm C H' p lc lp ld ws pile' left place said' → MOut p lp ld H H' → Q .non H'
theorem ok_Machine_do_on_pile (T : Txt K mg) : FnOk P w K mg base CX0 3 T.f_Machine_do_on_pile T.fd_Machine_do_on_pile ["self", "card"] (spOnPile T.c_Machine) := by
 have G_Machine_taken_off := (we (P := P) (w := w) (base := base) T).mono (show 1 ≤ 2 by omega)
 have G_Machine_place_on_pile := (ok_Machine_place_on_pile (P := P) (w := w) (base := base) T).mono (show 1 ≤ 2 by omega)
 have G_one_where := (zcu (P := P) (w := w) (base := base) T).mono (show 1 ≤ 2 by omega)
 have G_made_of_two := ok_made_of_two (P := P) (w := w) (base := base) T
 refine T.Machine_do_on_pile.F.ok xh (fun vs H Q E h => ?_) (fun cdv A outer s H vs Q E hr h => ?_)
 ·obtain ⟨p, lc, lp, ld, ws, pile, pile', left, place, said, said', a, c, rfl, _⟩ := h; rfl
 obtain ⟨p, lc, lp, ld, ws, pile, pile', left, place, said, said', a, c, rfl, hM, ha, ho, hl, hsl, q⟩ := h
 refine ⟨_, (zf (zx (i := 2) xh.nd rfl (Or.inl rfl) (zn zm (pv 1) zd (fun _ _ => rfl)))
  (zg (z0 (zj qi (pv 2) zi (zp _)) (zg (qc (qx F.plainAttrs_list F.slot_list_append F.type_list_append qo (qq (pv 0) rfl) (za (zn zm (pv 1) zd (fun _ _ => rfl)) zb)))) (zg (z0 (zj qi (pv 2) zi (zp _)) (zg (qc (qx F.plainAttrs_list F.slot_list_append F.type_list_append qo (qq (pv 0) rfl) (za (zn qp (qq (pv 0) rfl) (x3 (pv 0) T.cl_Machine T.me_Machine_place_on_pile G_Machine_place_on_pile hr T.Machine_place_on_pile.b .nil zq (za (zn zm (pv 1) zd (fun _ _ => rfl)) zb)) (fun _ _ => rfl)) zb)))) (zg (z0 (zj qi (pv 2) zi (zp _)) (zf (zx (i := 3) xh.nd rfl (Or.inl rfl) (j6 (pv 0) T.cl_Machine T.me_Machine_taken_off G_Machine_taken_off hr T.Machine_taken_off.b .nil zq))
  (zg (zdw (pv 3) (zdy (qq (pv 0) rfl) (x3 (pv 0) T.cl_Machine T.me_Machine_place_on_pile G_Machine_place_on_pile hr T.Machine_place_on_pile.b .nil zq (za (zn zm (pv 1) zd (fun _ _ => rfl)) zb)) zbn)))) (zg (z0 (zj qi (pv 2) zi (zp _)) (zg (qc (j6 (pv 0) T.cl_Machine T.me_Machine_taken_off G_Machine_taken_off hr T.Machine_taken_off.b .nil zq))) (zg (z0 (zj qi (pv 2) zi (zp _)) (zg (qc (qx F.plainAttrs_list F.slot_list_append F.type_list_append qo (qq (pv 0) rfl) (za (j6 (pv 0) T.cl_Machine T.me_Machine_taken_off G_Machine_taken_off hr T.Machine_taken_off.b .nil zq) zb)))) (zg (z0 (zj qi (pv 2) zi (zp _)) (zg (qc (qx F.plainAttrs_list F.slot_list_append F.type_list_append qo (qq (pv 0) rfl) (za (zk G_one_where hr rfl T.one_where.m T.one_where.F.kp T.one_where.b .nil zq (za (wu qi (j6 (pv 0) T.cl_Machine T.me_Machine_taken_off G_Machine_taken_off hr T.Machine_taken_off.b .nil zq) zd (zp _)) zb)) zb)))) (zf (zx (i := 4) xh.nd rfl (Or.inl rfl) (j6 (pv 0) T.cl_Machine T.me_Machine_taken_off G_Machine_taken_off hr T.Machine_taken_off.b .nil zq))
  (zf (zx (i := 5) xh.nd rfl (Or.inl rfl) (j6 (pv 0) T.cl_Machine T.me_Machine_taken_off G_Machine_taken_off hr T.Machine_taken_off.b .nil zq))
  (zg (qc (qx F.plainAttrs_list F.slot_list_append F.type_list_append qo (qq (pv 0) rfl) (za (zk G_made_of_two hr rfl T.made_of_two.m T.made_of_two.F.kp T.made_of_two.b .nil zq (za (pv 2) (za (pv 5) (za (pv 4) zb)))) zb))))))))))))))))))), ?_⟩
 try dsimp only[kx,kxb]
 obtain ⟨dx, fs, e, hf⟩ := hM.ob
 have tf : ∀ {H' : Hp} {xs : List V}, MOut p lp ld H H' → H a = some (.tup xs) → H' a = some (.tup xs) := fun {H'} {xs} M h => M a _ (x4 h e (fun z => by cases z)) (x4 h hM.ep (fun z => by cases z)) (x4 h hM.es (fun z => by cases z)) h
 cases ho with
 | @push i =>
  have f : SqT K H a [.str "push", .int i] := SqT.of ha
  refine ⟨_, rfl, _, _, _, _, rfl, rfl, f, at0, ?_⟩
  refine ⟨_, rfl, rfl, _, rfl, qj (by decide +kernel) ?_⟩
  refine ⟨_, rfl, p, T.c_Machine, dx, fs, _, rfl, e, T.cl_Machine, T.na_Machine_pile, (hf.at_ _).trans (jt ..), .inl ⟨rfl, _, SqL.of hM.ep⟩, _, rfl, _, _, _, _, rfl, rfl, f, rfl, ?_⟩
  refine ⟨_, _, _, rfl, rfl, hM.ep, by rw [List.length_map, sizeLine_eq]; omega, ?_⟩
  have r := hM.pileTo (pile ++ [i])
  rw [List.map_append] at r
  exact q _ r.1 r.2
 | @load j i _ _ hv =>
  have f : SqT K H a [.str "load", .int (j : Int)] := SqT.of ha
  have hjl := (List.getElem?_eq_some_iff.mp hv).1
  have hj : (pile.map V.int)[j]? = some (V.int i) := by rw [List.getElem?_map, hv]; rfl
  refine ⟨_, rfl, _, _, _, _, rfl, rfl, f, at0, ?_⟩
  refine ⟨_, rfl, rfl, _, rfl, zo (by decide +kernel) ?_⟩
  refine ⟨_, rfl, rfl, _, rfl, qj (by decide +kernel) ?_⟩
  refine ⟨_, rfl, p, T.c_Machine, dx, fs, _, rfl, e, T.cl_Machine, T.na_Machine_pile, (hf.at_ _).trans (jt ..), .inl ⟨rfl, _, SqL.of hM.ep⟩, _, rfl, p, T.c_Machine, dx, fs, _, rfl, e, T.cl_Machine, T.na_Machine_pile, (hf.at_ _).trans (jt ..), _, rfl, p, dx, fs, rfl, e, (hf.at_ _).trans (jh (by decide +kernel)), _, rfl, _, _, _, _, rfl, rfl, f, rfl, ?_⟩
  refine ⟨p, lc, lp, ld, ws, pile, left, place, said, j, rfl, hM, hjl, ?_⟩
  refine ⟨_, _, _, _, rfl, rfl, SqL.of hM.ep, zu hj, ?_⟩
  refine ⟨_, _, _, rfl, rfl, hM.ep, by rw [List.length_map, sizeLine_eq]; omega, ?_⟩
  have r := hM.pileTo (pile ++ [i])
  rw [List.map_append] at r
  exact q _ r.1 r.2
 | @store j i p0 _ hj =>
  have f : SqT K H a [.str "store", .int (j : Int)] := SqT.of ha
  refine ⟨_, rfl, _, _, _, _, rfl, rfl, f, at0, ?_⟩
  refine ⟨_, rfl, rfl, _, rfl, zo (by decide +kernel) ?_⟩
  refine ⟨_, rfl, rfl, _, rfl, zo (by decide +kernel) ?_⟩
  refine ⟨_, rfl, rfl, _, rfl, qj (by decide +kernel) ?_⟩
  refine ⟨_, rfl, p, dx, fs, rfl, e, (hf.at_ _).trans (jh (by decide +kernel)), p, lc, lp, ld, ws, p0, i, left, place, said, rfl, hM, fun H1 hM1 M1 => ?_⟩
  obtain ⟨dx1, fs1, e1, hf1⟩ := hM1.ob
  have f1 : SqT K H1 a [.str "store", .int (j : Int)] := SqT.of (tf M1 ha)
  refine ⟨_, rfl, _, rfl, p, T.c_Machine, dx1, fs1, _, rfl, e1, T.cl_Machine, T.na_Machine_pile, (hf1.at_ _).trans (jt ..), _, rfl, p, dx1, fs1, rfl, e1, (hf1.at_ _).trans (jh (by decide +kernel)), _, rfl, _, _, _, _, rfl, rfl, f1, rfl, ?_⟩
  refine ⟨p, lc, lp, ld, ws, p0, left, place, said, j, rfl, hM1, hj, ?_⟩
  have hix : ixN (p0.map V.int).length (j : Int) = some j := by
   unfold ixN
   rw [List.length_map]
   simp
   omega
  refine ⟨lp, _, _, j, rfl, rfl, hM1.ep, hix, ?_⟩
  have r := hM1.pileTo (p0.set j i)
  rw [List.map_set] at r
  exact q _ r.1 (M1.trans r.2)
 | @drop i p0 _ =>
  have f : SqT K H a [.str "drop"] := SqT.of ha
  refine ⟨_, rfl, _, _, _, _, rfl, rfl, f, at0, ?_⟩
  refine ⟨_, rfl, rfl, _, rfl, zo (by decide +kernel) ?_⟩
  refine ⟨_, rfl, rfl, _, rfl, zo (by decide +kernel) ?_⟩
  refine ⟨_, rfl, rfl, _, rfl, zo (by decide +kernel) ?_⟩
  refine ⟨_, rfl, rfl, _, rfl, qj (by decide +kernel) ?_⟩
  exact ⟨_, rfl, p, dx, fs, rfl, e, (hf.at_ _).trans (jh (by decide +kernel)), p, lc, lp, ld, ws, pile', i, left, place, said, rfl, hM, fun H1 hM1 M1 => q _ hM1 M1⟩
 | @say i p0 _ =>
  have f : SqT K H a [.str "say"] := SqT.of ha
  refine ⟨_, rfl, _, _, _, _, rfl, rfl, f, at0, ?_⟩
  refine ⟨_, rfl, rfl, _, rfl, zo (by decide +kernel) ?_⟩
  refine ⟨_, rfl, rfl, _, rfl, zo (by decide +kernel) ?_⟩
  refine ⟨_, rfl, rfl, _, rfl, zo (by decide +kernel) ?_⟩
  refine ⟨_, rfl, rfl, _, rfl, zo (by decide +kernel) ?_⟩
  refine ⟨_, rfl, rfl, _, rfl, qj (by decide +kernel) ?_⟩
  refine ⟨_, rfl, p, T.c_Machine, dx, fs, _, rfl, e, T.cl_Machine, T.na_Machine_said, (hf.at_ _).trans (zfv ..), .inl ⟨rfl, _, SqL.of hM.es⟩, _, rfl, p, dx, fs, rfl, e, (hf.at_ _).trans (jh (by decide +kernel)), p, lc, lp, ld, ws, pile', i, left, place, said, rfl, hM, fun H1 hM1 M1 => ?_⟩
  refine ⟨_, _, _, rfl, rfl, hM1.es, by rw [List.length_map, sizeLine_eq]; omega, ?_⟩
  have r := hM1.saidTo (said ++ [i])
  rw [List.map_append] at r
  exact q _ r.1 (M1.trans r.2)
 | @flip i p0 _ =>
  have f : SqT K H a [.str "flip"] := SqT.of ha
  refine ⟨_, rfl, _, _, _, _, rfl, rfl, f, at0, ?_⟩
  refine ⟨_, rfl, rfl, _, rfl, zo (by decide +kernel) ?_⟩
  refine ⟨_, rfl, rfl, _, rfl, zo (by decide +kernel) ?_⟩
  refine ⟨_, rfl, rfl, _, rfl, zo (by decide +kernel) ?_⟩
  refine ⟨_, rfl, rfl, _, rfl, zo (by decide +kernel) ?_⟩
  refine ⟨_, rfl, rfl, _, rfl, zo (by decide +kernel) ?_⟩
  refine ⟨_, rfl, rfl, _, rfl, qj (by decide +kernel) ?_⟩
  refine ⟨_, rfl, p, T.c_Machine, dx, fs, _, rfl, e, T.cl_Machine, T.na_Machine_pile, (hf.at_ _).trans (jt ..), .inl ⟨rfl, _, SqL.of hM.ep⟩, _, rfl, p, dx, fs, rfl, e, (hf.at_ _).trans (jh (by decide +kernel)), p, lc, lp, ld, ws, p0, i, left, place, said, rfl, hM, fun H1 hM1 M1 => ?_⟩
  have dv : decide (V.int i = V.int 0) = decide (i = 0) := decide_eq_decide.mpr ⟨fun z => by injection z, fun z => by rw [z]⟩
  refine ⟨rfl, _, rfl, ?_⟩
  rw [dv]
  have hpl : (p0 ++ [i]).length ≤ 1000000 := hl
  rw [List.length_append] at hpl
  refine ⟨_, _, _, rfl, rfl, hM1.ep, by rw [List.length_map, sizeLine_eq]; omega, ?_⟩
  have r := hM1.pileTo (p0 ++ [b2n (decide (i = 0))])
  rw [List.map_append] at r
  exact q _ r.1 (M1.trans r.2)
 | @op o i j p0 _ hm =>
  have f : SqT K H a [.str o.w] := SqT.of ha
  refine ⟨_, rfl, _, _, _, _, rfl, rfl, f, at0, ?_⟩
  refine ⟨_, rfl, rfl, _, rfl, zo (by cases o <;> decide +kernel) ?_⟩
  refine ⟨_, rfl, rfl, _, rfl, zo (by cases o <;> decide +kernel) ?_⟩
  refine ⟨_, rfl, rfl, _, rfl, zo (by cases o <;> decide +kernel) ?_⟩
  refine ⟨_, rfl, rfl, _, rfl, zo (by cases o <;> decide +kernel) ?_⟩
  refine ⟨_, rfl, rfl, _, rfl, zo (by cases o <;> decide +kernel) ?_⟩
  refine ⟨_, rfl, rfl, _, rfl, zo (by cases o <;> decide +kernel) ?_⟩
  refine ⟨_, rfl, p, dx, fs, rfl, e, (hf.at_ _).trans (jh (by decide +kernel)), p, lc, lp, ld, ws, p0 ++ [i], j, left, place, said, rfl, hM, fun H1 hM1 M1 => ?_⟩
  obtain ⟨dx1, fs1, e1, hf1⟩ := hM1.ob
  refine ⟨_, rfl, p, dx1, fs1, rfl, e1, (hf1.at_ _).trans (jh (by decide +kernel)), p, lc, lp, ld, ws, p0, i, left, place, said, rfl, hM1, fun H2 hM2 M2 => ?_⟩
  obtain ⟨dx2, fs2, e2, hf2⟩ := hM2.ob
  have hpl : (p0 ++ [i] ++ [j]).length ≤ 1000000 := hl
  rw [List.length_append, List.length_append] at hpl
  refine ⟨_, rfl, p, T.c_Machine, dx2, fs2, _, rfl, e2, T.cl_Machine, T.na_Machine_pile, (hf2.at_ _).trans (jt ..), .inl ⟨rfl, _, SqL.of hM2.ep⟩, _, rfl, _, rfl, _, rfl, o.w, i, j, o.f i j, rfl, .op hm, ?_⟩
  refine ⟨_, _, _, rfl, rfl, hM2.ep, by rw [List.length_map, sizeLine_eq]; omega, ?_⟩
  have r := hM2.pileTo (p0 ++ [o.f i j])
  rw [List.map_append] at r
  exact q _ r.1 (M1.trans (M2.trans r.2))
 | @less i j p0 _ =>
  have f : SqT K H a [.str "less"] := SqT.of ha
  refine ⟨_, rfl, _, _, _, _, rfl, rfl, f, at0, ?_⟩
  refine ⟨_, rfl, rfl, _, rfl, zo (by decide +kernel) ?_⟩
  refine ⟨_, rfl, rfl, _, rfl, zo (by decide +kernel) ?_⟩
  refine ⟨_, rfl, rfl, _, rfl, zo (by decide +kernel) ?_⟩
  refine ⟨_, rfl, rfl, _, rfl, zo (by decide +kernel) ?_⟩
  refine ⟨_, rfl, rfl, _, rfl, zo (by decide +kernel) ?_⟩
  refine ⟨_, rfl, rfl, _, rfl, zo (by decide +kernel) ?_⟩
  refine ⟨_, rfl, p, dx, fs, rfl, e, (hf.at_ _).trans (jh (by decide +kernel)), p, lc, lp, ld, ws, p0 ++ [i], j, left, place, said, rfl, hM, fun H1 hM1 M1 => ?_⟩
  obtain ⟨dx1, fs1, e1, hf1⟩ := hM1.ob
  refine ⟨_, rfl, p, dx1, fs1, rfl, e1, (hf1.at_ _).trans (jh (by decide +kernel)), p, lc, lp, ld, ws, p0, i, left, place, said, rfl, hM1, fun H2 hM2 M2 => ?_⟩
  obtain ⟨dx2, fs2, e2, hf2⟩ := hM2.ob
  have hpl : (p0 ++ [i] ++ [j]).length ≤ 1000000 := hl
  rw [List.length_append, List.length_append] at hpl
  refine ⟨_, rfl, p, T.c_Machine, dx2, fs2, _, rfl, e2, T.cl_Machine, T.na_Machine_pile, (hf2.at_ _).trans (jt ..), .inl ⟨rfl, _, SqL.of hM2.ep⟩, _, rfl, _, rfl, _, rfl, "less", i, j, b2n (decide (i < j)), rfl, .less, ?_⟩
  refine ⟨_, _, _, rfl, rfl, hM2.ep, by rw [List.length_map, sizeLine_eq]; omega, ?_⟩
  have r := hM2.pileTo (p0 ++ [b2n (decide (i < j))])
  rw [List.map_append] at r
  exact q _ r.1 (M1.trans (M2.trans r.2))
 | @same i j p0 _ =>
  have f : SqT K H a [.str "same"] := SqT.of ha
  refine ⟨_, rfl, _, _, _, _, rfl, rfl, f, at0, ?_⟩
  refine ⟨_, rfl, rfl, _, rfl, zo (by decide +kernel) ?_⟩
  refine ⟨_, rfl, rfl, _, rfl, zo (by decide +kernel) ?_⟩
  refine ⟨_, rfl, rfl, _, rfl, zo (by decide +kernel) ?_⟩
  refine ⟨_, rfl, rfl, _, rfl, zo (by decide +kernel) ?_⟩
  refine ⟨_, rfl, rfl, _, rfl, zo (by decide +kernel) ?_⟩
  refine ⟨_, rfl, rfl, _, rfl, zo (by decide +kernel) ?_⟩
  refine ⟨_, rfl, p, dx, fs, rfl, e, (hf.at_ _).trans (jh (by decide +kernel)), p, lc, lp, ld, ws, p0 ++ [i], j, left, place, said, rfl, hM, fun H1 hM1 M1 => ?_⟩
  obtain ⟨dx1, fs1, e1, hf1⟩ := hM1.ob
  refine ⟨_, rfl, p, dx1, fs1, rfl, e1, (hf1.at_ _).trans (jh (by decide +kernel)), p, lc, lp, ld, ws, p0, i, left, place, said, rfl, hM1, fun H2 hM2 M2 => ?_⟩
  obtain ⟨dx2, fs2, e2, hf2⟩ := hM2.ob
  have hpl : (p0 ++ [i] ++ [j]).length ≤ 1000000 := hl
  rw [List.length_append, List.length_append] at hpl
  refine ⟨_, rfl, p, T.c_Machine, dx2, fs2, _, rfl, e2, T.cl_Machine, T.na_Machine_pile, (hf2.at_ _).trans (jt ..), .inl ⟨rfl, _, SqL.of hM2.ep⟩, _, rfl, _, rfl, _, rfl, "same", i, j, b2n (decide (i = j)), rfl, .same, ?_⟩
  refine ⟨_, _, _, rfl, rfl, hM2.ep, by rw [List.length_map, sizeLine_eq]; omega, ?_⟩
  have r := hM2.pileTo (p0 ++ [b2n (decide (i = j))])
  rw [List.map_append] at r
  exact q _ r.1 (M1.trans (M2.trans r.2))
end
open PySem L2 J
section
variable {P : Program} {w : World} {K : W.Frag} {mg : Str → Option Value} {base : Heap}
noncomputable def endV (cs : List Cd) (k l : Nat) : V := if k = cs.length then .str "done" else match cs[k]? with
 | some c => if l = 0 ∧ c.oil = true then .str "dry" else .non
 | none => .non
noncomputable def zfl (C : Addr) : Sp := fun vs H Q _ => ∃ (p lc lp ld : Addr) (ws : List V) (pile : List Int) (k l : Nat) (said : List Int) (cs : List Cd), vs = [.ref p] ∧ xm C H p lc lp ld ws pile (l : Int) (k : Int) said ∧ Cds H ws cs ∧ k ≤ cs.length ∧ Q (endV cs k l) H
theorem ok_Machine_ending (T : Txt K mg) : FnOk P w K mg base CX0 1 T.f_Machine_ending T.fd_Machine_ending ["self"] (zfl T.c_Machine) := by
 refine T.Machine_ending.F.ok sc_Machine_ending (fun vs H Q E h => ?_) (fun cdv A outer s H vs Q E hr h => ?_)
 ·obtain ⟨p, lc, lp, ld, ws, pile, k, l, said, cs, rfl, _⟩ := h; rfl
 obtain ⟨p, lc, lp, ld, ws, pile, k, l, said, cs, rfl, hM, hC, hk, q⟩ := h
 refine ⟨_, (zf (z0 (zj qi (qq (pv 0) rfl) (qk qa rfl T.b_len PySem.boot_len (za (qq (pv 0) rfl) zb)) (zp _)) (zg (zr zi)) zv)
  (zf (z0 (PW.pt (zbq (zj qi (qq (pv 0) rfl) zd (zp _)) (za8 (zj op_in_seq (zn zm (zn qp (qq (pv 0) rfl) (qq (pv 0) rfl) (fun _ _ => rfl)) zd (fun _ _ => rfl)) (ze4 (v := .ref T.a_OIL_CARDS) rfl T.m_OIL_CARDS rfl) (by with_unfolding_all rfl))))) (zg (zr zi)) zv)
  (zg (zr pe_non)))), ?_⟩
 try dsimp only[kx,kxb]
 obtain ⟨dx, fs, e, hf⟩ := hM.ob
 have hwl := hC.len
 refine ⟨_, rfl, p, T.c_Machine, dx, fs, _, rfl, e, T.cl_Machine, T.na_Machine_place, (hf.at_ _).trans (ja ..), _, rfl, p, T.c_Machine, dx, fs, _, rfl, e, T.cl_Machine, T.na_Machine_cards, (hf.at_ _).trans (zb5 ..), _, _, rfl, .inl (SqL.of hM.ec), rfl, _, rfl, ?_⟩
 unfold endV at q
 refine ite2 (fun c => ?_) (fun c => ?_)
 ·have c1 : (k : Int) = (ws.length : Int) := by injection (of_decide_eq_true c)
  rw [if_pos (by omega)] at q
  exact q
 have c1 : ¬ (k : Int) = (ws.length : Int) := fun z => c (decide_eq_true (by rw [z]))
 have hlt : k < cs.length := by omega
 rw [if_neg (by omega), List.getElem?_eq_getElem hlt] at q
 have q0 : Q (if l = 0 ∧ cs[k].oil = true then V.str "dry" else .non) H := q
 have hck : cs[k]? = some cs[k] := List.getElem?_eq_getElem hlt
 obtain ⟨v, hv, ca, rfl, hca⟩ := Cds.get' hC hck
 obtain ⟨rr, ev⟩ := Cd.hd cs[k]
 rw [ev] at hca
 refine ⟨_, rfl, p, T.c_Machine, dx, fs, _, rfl, e, T.cl_Machine, T.na_Machine_left, (hf.at_ _).trans (zac ..), rfl, _, rfl, ?_⟩
 by_cases hl : l = 0
 ·refine qj (decide_eq_true (by rw [hl]; rfl)) ?_
  refine ⟨_, rfl, p, T.c_Machine, dx, fs, _, rfl, e, T.cl_Machine, T.na_Machine_cards, (hf.at_ _).trans (zb5 ..), _, rfl, p, T.c_Machine, dx, fs, _, rfl, e, T.cl_Machine, T.na_Machine_place, (hf.at_ _).trans (ja ..), _, _, _, _, rfl, rfl, SqL.of hM.ec, zu hv, _, _, _, _, rfl, rfl, SqT.of hca, at0, _, _, rfl, .inr (T.k_OIL_CARDS H).sq, rfl, by decide +kernel, _, rfl, ?_⟩
  have eo : (if false = true then !inV (V.str cs[k].wd) [V.str "burn", V.str "back"] else inV (V.str cs[k].wd) [V.str "burn", V.str "back"]) = cs[k].oil := Cd.oil_in cs[k]
  cases ho : cs[k].oil with
  | true =>
   rw [if_pos ⟨hl, ho⟩] at q0
   rw [ho] at eo
   exact qj eo q0
  | false =>
   rw [if_neg (fun z => by rw [ho] at z; exact nomatch z.2)] at q0
   rw [ho] at eo
   exact zo eo q0
 ·refine zo (decide_eq_false (fun z => hl (by injection z; omega))) (iteF ?_)
  rw [if_neg (fun z => hl z.1)] at q0
  exact q0
noncomputable def spDoCard (C : Addr) : Sp := fun vs H Q _ => ∃ (p lc lp ld : Addr) (ws : List V) (pile pile' : List Int) (k k' l l' : Nat) (said said' : List Int) (cs : List Cd), vs = [.ref p] ∧ xm C H p lc lp ld ws pile (l : Int) (k : Int) said ∧ Cds H ws cs ∧ MStp cs k pile l said k' pile' l' said' ∧ pile.length ≤ 1000000 ∧ said.length ≤ 1000000 ∧
 ∀ H', xm C H' p lc lp ld ws pile' (l' : Int) (k' : Int) said' → MOut p lp ld H H' → Q .non H'
theorem ok_Machine_do_card (T : Txt K mg) : FnOk P w K mg base CX0 4 T.f_Machine_do_card T.fd_Machine_do_card ["self"] (spDoCard T.c_Machine) := by
 have G_Machine_taken_off := (we (P := P) (w := w) (base := base) T).mono (show 1 ≤ 3 by omega)
 have G_Machine_leave_out := (ok_Machine_leave_out (P := P) (w := w) (base := base) T).mono (show 1 ≤ 3 by omega)
 have G_Machine_go_back := (ok_Machine_go_back (P := P) (w := w) (base := base) T).mono (show 1 ≤ 3 by omega)
 have G_Machine_do_on_pile := ok_Machine_do_on_pile (P := P) (w := w) (base := base) T
 refine T.Machine_do_card.F.ok km (fun vs H Q E h => ?_) (fun cdv A outer s H vs Q E hr h => ?_)
 ·obtain ⟨p, lc, lp, ld, ws, pile, pile', k, k', l, l', said, said', cs, rfl, _⟩ := h; rfl
 obtain ⟨p, lc, lp, ld, ws, pile, pile', k, k', l, l', said, said', cs, rfl, hM, hC, hst, hpl, hsl, q⟩ := h
 refine ⟨_, (zf (zx (i := 1) km.nd rfl (Or.inl rfl) (zn qp (qq (pv 0) rfl) (qq (pv 0) rfl) (fun _ _ => rfl)))
  (zf (ww (pv 0) zd zge)
  (zf (zx (i := 2) km.nd rfl (Or.inl rfl) (zn zm (pv 1) zd (fun _ _ => rfl)))
  (zg (z0 (zj qi (pv 2) zi (zp _)) (zg (z0 (zj qi (j6 (pv 0) T.cl_Machine T.me_Machine_taken_off G_Machine_taken_off hr T.Machine_taken_off.b .nil zq) zd (zp _)) (zg (qc (x3 (pv 0) T.cl_Machine T.me_Machine_leave_out G_Machine_leave_out hr T.Machine_leave_out.b .nil zq (za (zn zm (pv 1) zd (fun _ _ => rfl)) zb)))) zv)) (zg (z0 (zj qi (pv 2) zi (zp _)) (zg (qc (x3 (pv 0) T.cl_Machine T.me_Machine_leave_out G_Machine_leave_out hr T.Machine_leave_out.b .nil zq (za (zn zm (pv 1) zd (fun _ _ => rfl)) zb)))) (zg (z0 (zj qi (pv 2) zi (zp _)) (zg (ww (pv 0) zd zgd)) (zg (z0 (zj qi (pv 2) zi (zp _)) (zf (ww (pv 0) zd zgd)
  (zg (qc (x3 (pv 0) T.cl_Machine T.me_Machine_go_back G_Machine_go_back hr T.Machine_go_back.b .nil zq (za (zn zm (pv 1) zd (fun _ _ => rfl)) zb))))) (zg (qc (x3 (pv 0) T.cl_Machine T.me_Machine_do_on_pile G_Machine_do_on_pile hr T.Machine_do_on_pile.b .nil zq (za (pv 1) zb))))))))))))))), ?_⟩
 try dsimp only[kx,kxb]
 obtain ⟨dx, fs, e, hf⟩ := hM.ob
 have hwl := hC.len
 obtain ⟨c, hck, _⟩ := hst.lt
 obtain ⟨v, hv, ca, rfl, hca⟩ := Cds.get' hC hck
 refine ⟨_, rfl, p, T.c_Machine, dx, fs, _, rfl, e, T.cl_Machine, T.na_Machine_cards, (hf.at_ _).trans (zb5 ..), _, rfl, p, T.c_Machine, dx, fs, _, rfl, e, T.cl_Machine, T.na_Machine_place, (hf.at_ _).trans (ja ..), _, _, _, _, rfl, rfl, SqL.of hM.ec, zu hv, ?_⟩
 refine ⟨_, rfl, p, T.c_Machine, dx, fs, _, rfl, e, T.cl_Machine, T.na_Machine_place, (hf.at_ _).trans (ja ..), _, _, rfl, rfl, dx, fs, e, Nat.lt_of_le_of_lt hf.len (by decide), ?_⟩
 have hf2 : Has (putF "place" (.int ((k : Int) + 1)) fs) (mfl lc lp (l : Int) ((k : Int) + 1) ld) := hf.put (ja ..) (zbf _ _ _ _ _ _)
 obtain ⟨hM1, M1⟩ := hM.fld (dx := dx) hf2
 have hca1 : upd H p (.ins T.c_Machine dx (putF "place" (.int ((k : Int) + 1)) fs)) ca = some (.tup c.vs) := by rw [zl (x4 hca e (fun z => by cases z))]; exact hca
 have e1 : upd H p (.ins T.c_Machine dx (putF "place" (.int ((k : Int) + 1)) fs)) p = some (.ins T.c_Machine dx (putF "place" (.int ((k : Int) + 1)) fs)) := zc
 generalize upd H p (.ins T.c_Machine dx (putF "place" (.int ((k : Int) + 1)) fs)) = H1 at hM1 M1 hca1 e1
 have ek : ((k : Int) + 1) = ((k + 1 : Nat) : Int) := by omega
 rw [ek] at hM1 hf2 e1
 cases hst with
 | @pile c' _ _ _ _ _ e' ho =>
  cases (hck.symm.trans e')
  obtain ⟨h1, h2, h3, h4⟩ := ho.hops
  obtain ⟨rr, ev⟩ := Cd.hd c
  have hcv := hca1
  rw [ev] at hcv
  refine ⟨_, rfl, _, _, _, _, rfl, rfl, SqT.of hcv, at0, ?_⟩
  refine ⟨_, rfl, rfl, _, rfl, zo h1 ?_⟩
  refine ⟨_, rfl, rfl, _, rfl, zo h2 ?_⟩
  refine ⟨_, rfl, rfl, _, rfl, zo h3 ?_⟩
  refine ⟨_, rfl, rfl, _, rfl, zo h4 ?_⟩
  exact ⟨_, rfl, p, dx, _, rfl, e1, (hf2.at_ _).trans (jh (by decide +kernel)), _, rfl, p, lc, lp, ld, ws, pile, pile', l, _, said, said', ca, c, rfl, hM1, hca1, ho, hpl, hsl, fun H2 hM2 M2 => q _ hM2 (M1.trans M2)⟩
 | @burn _ l0 _ e' =>
  cases (hck.symm.trans e')
  have f : SqT K H1 ca [.str "burn"] := SqT.of hca1
  refine ⟨_, rfl, _, _, _, _, rfl, rfl, f, at0, ?_⟩
  refine ⟨_, rfl, rfl, _, rfl, zo (by decide +kernel) ?_⟩
  refine ⟨_, rfl, rfl, _, rfl, zo (by decide +kernel) ?_⟩
  refine ⟨_, rfl, rfl, _, rfl, qj (by decide +kernel) ?_⟩
  refine ⟨_, rfl, p, T.c_Machine, dx, _, _, rfl, e1, T.cl_Machine, T.na_Machine_left, (hf2.at_ _).trans (zac ..), _, _, rfl, rfl, dx, _, e1, Nat.lt_of_le_of_lt hf2.len (by decide), ?_⟩
  have el : (((l' + 1 : Nat) : Int) - 1) = (l' : Int) := by omega
  have hf3 := hf2.put (f := "left") (v := .int (((l' + 1 : Nat) : Int) - 1)) (m' := mfl lc lp (((l' + 1 : Nat) : Int) - 1) _ ld) (zac ..) (zdc _ _ _ _ _ _)
  have r := hM1.fld (dx := dx) hf3
  exact q _ (by rw [← el]; exact r.1) (M1.trans r.2)
 | @back n _ l0 _ e' hn =>
  cases (hck.symm.trans e')
  have f : SqT K H1 ca [.str "back", .int (n : Int)] := SqT.of hca1
  refine ⟨_, rfl, _, _, _, _, rfl, rfl, f, at0, ?_⟩
  refine ⟨_, rfl, rfl, _, rfl, zo (by decide +kernel) ?_⟩
  refine ⟨_, rfl, rfl, _, rfl, zo (by decide +kernel) ?_⟩
  refine ⟨_, rfl, rfl, _, rfl, zo (by decide +kernel) ?_⟩
  refine ⟨_, rfl, rfl, _, rfl, qj (by decide +kernel) ?_⟩
  refine ⟨_, rfl, p, T.c_Machine, dx, _, _, rfl, e1, T.cl_Machine, T.na_Machine_left, (hf2.at_ _).trans (zac ..), _, _, rfl, rfl, dx, _, e1, Nat.lt_of_le_of_lt hf2.len (by decide), ?_⟩
  have el : (((l' + 1 : Nat) : Int) - 1) = (l' : Int) := by omega
  have hf3 := hf2.put (f := "left") (v := .int (((l' + 1 : Nat) : Int) - 1)) (m' := mfl lc lp (((l' + 1 : Nat) : Int) - 1) _ ld) (zac ..) (zdc _ _ _ _ _ _)
  obtain ⟨hM2, M2⟩ := hM1.fld (dx := dx) hf3
  have f2 := SqT.of (K := K) ((M2 ca _ (x4 hca1 e1 (fun z => by cases z)) (x4 hca1 hM1.ep (fun z => by cases z)) (x4 hca1 hM1.es (fun z => by cases z))) hca1)
  obtain ⟨dx2, fs2, e2, hf4⟩ := hM2.ob
  refine ⟨_, rfl, p, dx2, fs2, rfl, e2, (hf4.at_ _).trans (jh (by decide +kernel)), _, rfl, _, _, _, _, rfl, rfl, f2, rfl, p, lc, lp, ld, ws, pile, _, k, n, said, rfl, hM2, hn, fun H3 hM3 M3 => ?_⟩
  exact q _ (by rw [← el]; exact hM3) (M1.trans (M2.trans M3))
 | @skip n _ _ _ e' hn =>
  cases (hck.symm.trans e')
  have f : SqT K H1 ca [.str "skip", .int (n : Int)] := SqT.of hca1
  refine ⟨_, rfl, _, _, _, _, rfl, rfl, f, at0, ?_⟩
  refine ⟨_, rfl, rfl, _, rfl, zo (by decide +kernel) ?_⟩
  refine ⟨_, rfl, rfl, _, rfl, qj (by decide +kernel) ?_⟩
  exact ⟨_, rfl, p, dx, _, rfl, e1, (hf2.at_ _).trans (jh (by decide +kernel)), _, rfl, _, _, _, _, rfl, rfl, f, rfl, p, lc, lp, ld, ws, pile, _, k + 1, n, said, rfl, hM1, by omega, fun H2 hM2 M2 => q _ hM2 (M1.trans M2)⟩
 | @fork0 n p0 _ _ e' hn =>
  cases (hck.symm.trans e')
  have f : SqT K H1 ca [.str "fork", .int (n : Int)] := SqT.of hca1
  refine ⟨_, rfl, _, _, _, _, rfl, rfl, f, at0, ?_⟩
  refine ⟨_, rfl, rfl, _, rfl, qj (by decide +kernel) ?_⟩
  refine ⟨_, rfl, p, dx, _, rfl, e1, (hf2.at_ _).trans (jh (by decide +kernel)), p, lc, lp, ld, ws, pile', 0, _, _, said, rfl, hM1, fun H2 hM2 M2 => ?_⟩
  refine ⟨rfl, _, rfl, qj (decide_eq_true rfl) ?_⟩
  obtain ⟨dx2, fs2, e2, hf4⟩ := hM2.ob
  have f2 := SqT.of (K := K) ((M2 ca _ (x4 hca1 e1 (fun z => by cases z)) (x4 hca1 hM1.ep (fun z => by cases z)) (x4 hca1 hM1.es (fun z => by cases z))) hca1)
  exact ⟨_, rfl, p, dx2, fs2, rfl, e2, (hf4.at_ _).trans (jh (by decide +kernel)), _, rfl, _, _, _, _, rfl, rfl, f2, rfl, p, lc, lp, ld, ws, pile', _, k + 1, n, said, rfl, hM2, by omega, fun H3 hM3 M3 => q _ hM3 (M1.trans (M2.trans M3))⟩
 | @fork1 n i p0 _ _ e' hi =>
  cases (hck.symm.trans e')
  have f : SqT K H1 ca [.str "fork", .int n] := SqT.of hca1
  refine ⟨_, rfl, _, _, _, _, rfl, rfl, f, at0, ?_⟩
  refine ⟨_, rfl, rfl, _, rfl, qj (by decide +kernel) ?_⟩
  refine ⟨_, rfl, p, dx, _, rfl, e1, (hf2.at_ _).trans (jh (by decide +kernel)), p, lc, lp, ld, ws, pile', i, _, _, said, rfl, hM1, fun H2 hM2 M2 => ?_⟩
  exact ⟨rfl, _, rfl, zo (decide_eq_false (fun z => hi (by injection z))) (q _ hM2 (M1.trans M2))⟩
end
open PySem L2 J
section
variable {P : Program} {w : World} {K : W.Frag} {mg : Str → Option Value} {base : Heap}
noncomputable def spMInit (C : Addr) : Sp := fun vs H Q _ => ∃ (p dx lc lq : Addr) (ws : List V) (pile : List Int) (oil : Int), vs = [.ref p, .ref lc, .ref lq, .int oil] ∧ H p = some (.ins C dx []) ∧ H lc = some (.lst ws) ∧ H lq = some (.lst (pile.map V.int)) ∧
 ∀ lp ld H', H lp = none → H ld = none → xm C H' p lc lp ld ws pile oil 0 [] → (∀ b o, b ≠ p → H b = some o → H' b = some o) → Q .non H'
theorem ok_Machine_init (T : Txt K mg) : FnOk P w K mg base CX0 1 T.f_Machine_init T.fd_Machine_init ["self", "cards", "pile", "oil"] (spMInit T.c_Machine) := by
 refine T.Machine_init.F.ok sc_Machine_init (fun vs H Q E h => ?_) (fun cdv A outer s H vs Q E hr h => ?_)
 ·obtain ⟨p, dx, lc, lq, ws, pile, oil, rfl, _⟩ := h; rfl
 obtain ⟨p, dx, lc, lq, ws, pile, oil, rfl, hp, hc, hq, q⟩ := h
 refine ⟨_, (zf (zaa (pv 0) (pv 1) rfl)
  (zf (zaa (pv 0) (j0 jf rfl T.b_list j4 (za (pv 2) zb)) rfl)
  (zf (zaa (pv 0) (pv 3) rfl)
  (zf (zaa (pv 0) zd rfl)
  (zg (zaa (pv 0) (ql zb) rfl)))))), ?_⟩
 try dsimp only[kx,kxb]
 have npc : p ≠ lc := x4 hp hc (fun z => by cases z)
 have npq : p ≠ lq := x4 hp hq (fun z => by cases z)
 obtain ⟨a1, b1⟩ := Has.nil.snoc (f := "cards") (v := .ref lc) (by decide) rfl
 refine ⟨_, rfl, _, rfl, p, T.c_Machine, dx, [], rfl, hp, T.cl_Machine, T.na_Machine_cards, (by show 0 < 1000; decide), ?_⟩
 generalize hf1 : putF "cards" (.ref lc) [] = fs1 at a1 b1
 have hq1 : upd H p (.ins T.c_Machine dx fs1) lq = some (.lst (pile.map V.int)) := by rw [zl npq.symm]; exact hq
 refine ⟨_, rfl, _, _, rfl, .inl (SqL.of hq1), fun lp hlp => ?_⟩
 have npl : p ≠ lp := fun z => by rw [← z, zc] at hlp; cases hlp
 have hlp0 : H lp = none := by rwa [zl npl.symm] at hlp
 have hp2 : upd (upd H p (.ins T.c_Machine dx fs1)) lp (.lst (pile.map V.int)) p = some (.ins T.c_Machine dx fs1) := by rw [zl npl, zc]
 have ho2 : ∀ b o, b ≠ p → H b = some o → upd (upd H p (.ins T.c_Machine dx fs1)) lp (.lst (pile.map V.int)) b = some o := fun b o nb e => by rw [zl (zt e hlp0), zl nb]; exact e
 have el2 : upd (upd H p (.ins T.c_Machine dx fs1)) lp (.lst (pile.map V.int)) lp = some (.lst (pile.map V.int)) := zc
 generalize upd (upd H p (.ins T.c_Machine dx fs1)) lp (.lst (pile.map V.int)) = H2 at hp2 ho2 el2
 obtain ⟨a2, b2⟩ := a1.snoc (f := "pile") (v := .ref lp) (by show fs1.length ≤ 49; have : ([] : List (Str × V)).length = 0 := rfl; omega) (by show List.lookup _ [(("cards" : Str), V.ref lc)] = none; rw [zw, if_neg (by decide +kernel)]; rfl)
 refine ⟨_, rfl, p, T.c_Machine, dx, fs1, rfl, hp2, T.cl_Machine, T.na_Machine_pile, Nat.lt_of_le_of_lt a1.len (by decide), ?_⟩
 generalize hf2 : putF "pile" (.ref lp) fs1 = fs2 at a2 b2
 obtain ⟨a3, b3⟩ := a2.snoc (f := "left") (v := .int oil) (by have : ([] : List (Str × V)).length = 0 := rfl; omega) (by show List.lookup _ [(("cards" : Str), V.ref lc), (("pile" : Str), V.ref lp)] = none; rw [zw, if_neg (by decide +kernel), zw, if_neg (by decide +kernel)]; rfl)
 refine ⟨_, rfl, _, rfl, p, T.c_Machine, dx, fs2, rfl, zc, T.cl_Machine, T.na_Machine_left, Nat.lt_of_le_of_lt a2.len (by decide), ?_⟩
 generalize hf3 : putF "left" (.int oil) fs2 = fs3 at a3 b3
 obtain ⟨a4, b4⟩ := a3.snoc (f := "place") (v := .int 0) (by have : ([] : List (Str × V)).length = 0 := rfl; omega) (by show List.lookup _ [(("cards" : Str), V.ref lc), (("pile" : Str), V.ref lp), (("left" : Str), V.int oil)] = none; rw [zw, if_neg (by decide +kernel), zw, if_neg (by decide +kernel), zw, if_neg (by decide +kernel)]; rfl)
 refine ⟨_, rfl, p, T.c_Machine, dx, fs3, rfl, zc, T.cl_Machine, T.na_Machine_place, Nat.lt_of_le_of_lt a3.len (by decide), ?_⟩
 generalize hf4 : putF "place" (.int 0) fs3 = fs4 at a4 b4
 rw [zdh, zdh]
 have hp3 : upd H2 p (.ins T.c_Machine dx fs4) p = some (.ins T.c_Machine dx fs4) := zc
 have ho3 : ∀ b o, b ≠ p → H b = some o → upd H2 p (.ins T.c_Machine dx fs4) b = some o := fun b o nb e => by rw [zl nb]; exact ho2 b o nb e
 have el3 : upd H2 p (.ins T.c_Machine dx fs4) lp = some (.lst (pile.map V.int)) := by rw [zl npl.symm]; exact el2
 generalize upd H2 p (.ins T.c_Machine dx fs4) = H3 at hp3 ho3 el3
 refine ⟨Nat.zero_le _, fun ld hld => ?_⟩
 have npd : p ≠ ld := zt hp3 hld
 have nld : lp ≠ ld := zt el3 hld
 have hld0 : H ld = none := by
  cases e : H ld with
  | none => rfl
  | some o => rw [ho3 ld o npd.symm e] at hld; cases hld
 obtain ⟨a5, b5⟩ := a4.snoc (f := "said") (v := .ref ld) (by have : ([] : List (Str × V)).length = 0 := rfl; omega) (by show List.lookup _ [(("cards" : Str), V.ref lc), (("pile" : Str), V.ref lp), (("left" : Str), V.int oil), (("place" : Str), V.int 0)] = none; rw [zw, if_neg (by decide +kernel), zw, if_neg (by decide +kernel), zw, if_neg (by decide +kernel), zw, if_neg (by decide +kernel)]; rfl)
 refine ⟨_, rfl, p, T.c_Machine, dx, fs4, rfl, (by rw [zl npd]; exact hp3), T.cl_Machine, T.na_Machine_said, Nat.lt_of_le_of_lt a4.len (by decide), ?_⟩
 refine q lp ld _ hlp0 hld0 ⟨⟨dx, _, zc, a5⟩, ?_, ?_, ?_, ?_, nld, ?_⟩ fun b o nb e => ?_
 ·rw [zl npc.symm, zl (zt hc hld0)]; exact ho3 _ _ npc.symm hc
 ·rw [zl npl.symm, zl nld]; exact el3
 ·rw [zl npd.symm, zc]; rfl
 ·exact (zt hc hlp0).symm
 ·exact (zt hc hld0).symm
 ·rw [zl nb, zl (zt e hld0)]; exact ho3 b o nb e
noncomputable def finW (f : J.Fin) : Str := if f.word = true then "done" else "dry"
noncomputable def spRan : Sp := fun vs H Q _ => ∃ (lc lq : Addr) (ws : List V) (cs : List Cd) (pile : List Int) (oil n : Nat) (f : J.Fin), vs = [.ref lc, .ref lq, .int (oil : Int)] ∧ H lc = some (.lst ws) ∧ Cds H ws cs ∧ H lq = some (.lst (pile.map V.int)) ∧ MRun cs n 0 pile oil [] f ∧
 ∀ r ld lp H', Same H H' → H' r = some (.tup [.str (finW f), .ref ld, .ref lp, .int ((oil : Int) - (f.left : Int))]) → H' ld = some (.lst (f.said.map V.int)) → H' lp = some (.lst (f.pile.map V.int)) → Q (.ref r) H'
noncomputable def WRan (C : Addr) (H : Hp) (lc lq p lp ld : Addr) (oil : Nat) (ws : List V) (cs : List Cd) (f : J.Fin) (m : Nat) (σ : St) (H' : Hp) : Prop :=
 ∃ (pile said : List Int) (k l : Nat), σ = [some (.ref lc), some (.ref lq), some (.int (oil : Int)), some (.ref p)] ∧ Same H H' ∧ xm C H' p lc lp ld ws pile (l : Int) (k : Int) said ∧ Cds H' ws cs ∧ MRun cs m k pile l said f
theorem mrun_le {cs : List Cd} {m k l : Nat} {p s : List Int} {f : J.Fin} (h : MRun cs m k p l s f) : k ≤ cs.length := by
 cases h with
 | done => exact Nat.le_refl _
 | dry e _ => exact Nat.le_of_lt (List.getElem?_eq_some_iff.mp e).1
 | step s _ _ _ =>
  obtain ⟨c, e, _⟩ := s.lt
  exact Nat.le_of_lt (List.getElem?_eq_some_iff.mp e).1
theorem ok_ran (T : Txt K mg) : FnOk P w K mg base CX0 6 T.f_ran T.fd_ran ["cards", "pile", "oil"] spRan := by
 have G_Machine_init := (ok_Machine_init (P := P) (w := w) (base := base) T).mono (show 1 ≤ 4 by omega)
 have G_Machine_ending := (ok_Machine_ending (P := P) (w := w) (base := base) T).mono (show 1 ≤ 5 by omega)
 have G_Machine_do_card := (ok_Machine_do_card (P := P) (w := w) (base := base) T).mono (show 4 ≤ 5 by omega)
 refine T.ran.F.ok sc_ran (fun vs H Q E h => ?_) (fun cdv A outer s H vs Q E hr h => ?_)
 ·obtain ⟨lc, lq, ws, cs, pile, oil, n, f, rfl, _⟩ := h; rfl
 obtain ⟨lc, lq, ws, cs, pile, oil, n, f, rfl, hc, hC, hq, hrun, q⟩ := h
 refine ⟨_, (zf (zx (i := 3) sc_ran.nd rfl (Or.inl rfl) (pe_make T.mk_Machine G_Machine_init hr rfl T.mg_Machine T.Machine_init.b .nil zq (za (pv 0) (za (pv 1) (za (pv 2) zb)))))
  (zf (zbr PassesOwn.never (zj op_isN (j6 (pv 3) T.cl_Machine T.me_Machine_ending G_Machine_ending hr T.Machine_ending.b .nil zq) pe_non (zp _)) (zg (qc (j6 (pv 3) T.cl_Machine T.me_Machine_do_card G_Machine_do_card hr T.Machine_do_card.b .nil zq))))
  (zg (zr (qb (za (j6 (pv 3) T.cl_Machine T.me_Machine_ending G_Machine_ending hr T.Machine_ending.b .nil zq) (za (qq (pv 3) rfl) (za (qq (pv 3) rfl) (za (zy v0 (pv 2) (qq (pv 3) rfl)) zb))))))))), ?_⟩
 try dsimp only[kx,kxb]
 have four : (4 : Nat) ≤ sizeLine := by decide
 refine ⟨_, rfl, _, rfl, _, rfl, fun p dx hp hdx hne => ?_⟩
 have ndx : ∀ b o, H b = some o → b ≠ dx := fun b o e => zt e hdx
 have np : ∀ b o, H b = some o → b ≠ p := fun b o e => zt e hp
 have ho : ∀ b o, H b = some o → upd (upd H dx (.own p)) p (.ins T.c_Machine dx []) b = some o := fun b o e => by rw [zl (np b o e), zl (ndx b o e)]; exact e
 refine ⟨p, dx, lc, lq, ws, pile, oil, rfl, zc, ho _ _ hc, ho _ _ hq, fun lp ld H1 hlp hld hM keep => ⟨rfl, ?_⟩⟩
 have S1 : Same H H1 := fun b o e => keep b o (np b o e) (ho b o e)
 have hlp0 : H lp = none := by
  cases e : H lp with
  | none => rfl
  | some o => rw [ho _ _ e] at hlp; cases hlp
 have hld0 : H ld = none := by
  cases e : H ld with
  | none => rfl
  | some o => rw [ho _ _ e] at hld; cases hld
 refine ⟨WRan T.c_Machine H lc lq p lp ld oil ws cs f, ⟨n, pile, [], 0, oil, rfl, S1, hM, hC.mono S1.tup, hrun⟩, ?_⟩
 rintro m σ H2 ⟨pile2, said2, k, l, rfl, S2, hM2, hC2, hr2⟩
 obtain ⟨dx2, fs2, e2, hf2⟩ := hM2.ob
 have hk := mrun_le hr2
 refine ⟨_, rfl, p, dx2, fs2, rfl, e2, (hf2.at_ _).trans (jh (by decide +kernel)), p, lc, lp, ld, ws, pile2, k, l, said2, cs, rfl, hM2, hC2, hk, rfl, _, rfl, ?_⟩
 have out : endV cs k l = .str (finW f) → said2 = f.said → pile2 = f.pile → l = f.left → tRet (tTup (zeh (tMeth T.c_Machine "ending" (zfl T.c_Machine) [] E0 (tVar 3) tNil) (zeh (tFld K (tVar 3) "said") (zeh (tFld K (tVar 3) "pile") (zeh (tOp (rI0 fun i j => V.int (i - j)) (tVar 2) (tFld K (tVar 3) "left")) tNil)))))
   {nx := fun _ H' => Q V.non H', rt := Q } [some (.ref lc), some (.ref lq), some (.int (oil : Int)), some (.ref p)] H2 := fun ee e3 e4 e5 => by
  subst e3 e4 e5
  refine ⟨_, rfl, p, dx2, fs2, rfl, e2, (hf2.at_ _).trans (jh (by decide +kernel)), p, lc, lp, ld, ws, f.pile, k, f.left, f.said, cs, rfl, hM2, hC2, hk, ?_⟩
  refine ⟨_, rfl, p, T.c_Machine, dx2, fs2, _, rfl, e2, T.cl_Machine, T.na_Machine_said, (hf2.at_ _).trans (zfv ..), _, rfl, p, T.c_Machine, dx2, fs2, _, rfl, e2, T.cl_Machine, T.na_Machine_pile, (hf2.at_ _).trans (jt ..), _, rfl, _, rfl, p, T.c_Machine, dx2, fs2, _, rfl, e2, T.cl_Machine, T.na_Machine_left, (hf2.at_ _).trans (zac ..), _, _, rfl, rfl, four, fun r hr3 => ?_⟩
  rw [ee]
  have S3 := ze hr3 (.tup [.str (finW f), .ref ld, .ref lp, .int ((oil : Int) - (f.left : Int))])
  exact q r ld lp _ (S2.trans S3) zc (S3 _ _ hM2.es) (S3 _ _ hM2.ep)
 cases hr2 with
 | done =>
  have ee : endV cs cs.length l = .str "done" := if_pos rfl
  rw [ee]
  exact zo (by simp) (out ee rfl rfl rfl)
 | @dry _ c _ _ e ho2 =>
  have hlt := (List.getElem?_eq_some_iff.mp e).1
  have ee : endV cs k 0 = .str "dry" := by
   unfold endV
   rw [if_neg (by omega), e]
   exact if_pos ⟨rfl, ho2⟩
  rw [ee]
  exact zo (by simp) (out ee rfl rfl rfl)
 | @step m' _ k' _ p' _ l' _ s' _ st hb1 hb2 r2 =>
  obtain ⟨c, e, hno⟩ := st.lt
  have hlt := (List.getElem?_eq_some_iff.mp e).1
  have ee : endV cs k l = .non := by
   unfold endV
   rw [if_neg (by omega), e]
   exact if_neg (fun z => by rw [hno z.1] at z; exact nomatch z.2)
  rw [ee]
  refine qj (by simp) ?_
  refine ⟨fun σ' H'' => ∃ m2, m2 < m' + 1 ∧ WRan T.c_Machine H lc lq p lp ld oil ws cs f m2 σ' H'', fun _ _ z => z, ?_⟩
  have hl := st.len
  refine ⟨_, rfl, p, dx2, fs2, rfl, e2, (hf2.at_ _).trans (jh (by decide +kernel)), p, lc, lp, ld, ws, pile2, p', k, k', l, l', said2, s', cs, rfl, hM2, hC2, st, hb1, hb2, fun H3 hM3 M3 => ?_⟩
  refine ⟨m', Nat.lt_succ_self _, p', s', k', l', rfl, fun b o eb => ?_, hM3, hM2.cdsOut M3 hC2, r2⟩
  exact M3 b o (zt eb hp) (zt eb hlp0) (zt eb hld0) (S2 b o eb)
end
end W12
namespace J
open PySem L2
inductive Od where
 | set (x : Str) (a : Sm Str)
 | say (a : Sm Str)
 | when (t : Ts) (b c : Bk)
 | whil (t : Ts) (b : Bk)
 | wit (x : Str) (a : Sm Str) (b : Bk)
noncomputable def Bk.ods : Bk → List Od
 | .nil => []
 | .set x a r => .set x a :: r.ods
 | .say a r => .say a :: r.ods
 | .when t b c r => .when t b c :: r.ods
 | .whil t b r => .whil t b :: r.ods
 | .wit x a b r => .wit x a b :: r.ods
noncomputable def vm (t b c : List Cd) : List Cd := t ++ [.fork ((b.length : Int) + 1)] ++ b ++ [.skip (c.length : Int)] ++ c
noncomputable def ko (t b : List Cd) : List Cd := t ++ [.fork ((b.length : Int) + 1)] ++ b ++ [.back ((t.length : Int) + 1 + (b.length : Int))]
noncomputable def ixC (ns : List Str) (x : Str) : Int := (((xq ns x).getD 0 : Nat) : Int)
noncomputable def Bk.cards : List Str → Bk → List Cd
 | _, .nil => []
 | ns, .set x a r => .burn :: (a.cards ns ++ [.store (ixC ns x)] ++ r.cards ns)
 | ns, .say a r => .burn :: (a.cards ns ++ [.say] ++ r.cards ns)
 | ns, .when t b c r => .burn :: (vm (t.cards ns) (b.cards ns) (c.cards ns) ++ r.cards ns)
 | ns, .whil t b r => .burn :: (ko (t.cards ns) (b.cards ns) ++ r.cards ns)
 | ns, .wit x a b r => .burn :: (a.cards ns ++ b.cards (ns ++ [x]) ++ [.drop] ++ r.cards ns)
noncomputable def Od.cards (ns : List Str) : Od → List Cd
 | .set x a => a.cards ns ++ [.store (ixC ns x)]
 | .say a => a.cards ns ++ [.say]
 | .when t b c => vm (t.cards ns) (b.cards ns) (c.cards ns)
 | .whil t b => ko (t.cards ns) (b.cards ns)
 | .wit x a b => a.cards ns ++ b.cards (ns ++ [x]) ++ [.drop]
inductive Wi where
 | o (x : Od)
 | gone
structure WFin where
 word : Bool
 told : List Int
 pots : List Int
 left : Nat
noncomputable abbrev wis (b : Bk) : List Wi := b.ods.map Wi.o
inductive Walk : Nat → List Wi → List Str → List Int → List Int → Nat → WFin → Prop where
 | done {ns : List Str} {ps s : List Int} {l : Nat} : Walk 0 [] ns ps s l ⟨true, s, ps, l⟩
 | dry {x : Od} {r : List Wi} {ns : List Str} {ps s : List Int} : Walk 0 (.o x :: r) ns ps s 0 ⟨false, s, ps, 0⟩
 | gone {m : Nat} {r : List Wi} {ns : List Str} {x : Str} {ps : List Int} {i : Int} {s : List Int} {l : Nat} {f : WFin} : Walk m r ns ps s l f → Walk (m + 1) (.gone :: r) (ns ++ [x]) (ps ++ [i]) s l f
 | set {m : Nat} {x : Str} {a : Sm Str} {j : Nat} {r : List Wi} {ns : List Str} {ps s : List Int} {l : Nat} {f : WFin} : xq ns x = some j → Walk m r ns (ps.set j (a.val ns ps)) s l f → Walk (m + 1) (.o (.set x a) :: r) ns ps s (l + 1) f
 | say {m : Nat} {a : Sm Str} {r : List Wi} {ns : List Str} {ps s : List Int} {l : Nat} {f : WFin} : Walk m r ns ps (s ++ [a.val ns ps]) l f → Walk (m + 1) (.o (.say a) :: r) ns ps s (l + 1) f
 | when1 {m : Nat} {t : Ts} {b c : Bk} {r : List Wi} {ns : List Str} {ps s : List Int} {l : Nat} {f : WFin} : t.val ns ps = true → Walk m (wis b ++ r) ns ps s l f → Walk (m + 1) (.o (.when t b c) :: r) ns ps s (l + 1) f
 | when0 {m : Nat} {t : Ts} {b c : Bk} {r : List Wi} {ns : List Str} {ps s : List Int} {l : Nat} {f : WFin} : t.val ns ps = false → Walk m (wis c ++ r) ns ps s l f → Walk (m + 1) (.o (.when t b c) :: r) ns ps s (l + 1) f
 | whil1 {m : Nat} {t : Ts} {b : Bk} {r : List Wi} {ns : List Str} {ps s : List Int} {l : Nat} {f : WFin} : t.val ns ps = true → Walk m (wis b ++ .o (.whil t b) :: r) ns ps s l f → Walk (m + 1) (.o (.whil t b) :: r) ns ps s (l + 1) f
 | whil0 {m : Nat} {t : Ts} {b : Bk} {r : List Wi} {ns : List Str} {ps s : List Int} {l : Nat} {f : WFin} : t.val ns ps = false → Walk m r ns ps s l f → Walk (m + 1) (.o (.whil t b) :: r) ns ps s (l + 1) f
 | wit {m : Nat} {x : Str} {a : Sm Str} {b : Bk} {r : List Wi} {ns : List Str} {ps s : List Int} {l : Nat} {f : WFin} : Walk m (wis b ++ .gone :: r) (ns ++ [x]) (ps ++ [a.val ns ps]) s l f → Walk (m + 1) (.o (.wit x a b) :: r) ns ps s (l + 1) f
noncomputable def Sm.tiny : Sm Str → Prop
 | .num i => i.natAbs ≤ 100
 | _ => False
noncomputable def Sm.lin (ns : List Str) : Sm Str → Prop
 | .num _ => True
 | .name x => x ∈ ns
 | .op o a b => a.lin ns ∧ b.lin ns ∧ (o = .mul → a.tiny ∨ b.tiny)
noncomputable def Ts.lin (ns : List Str) : Ts → Prop
 | .less a b => a.lin ns ∧ b.lin ns ∧ a.dp ≤ 20 ∧ b.dp ≤ 20
 | .same a b => a.lin ns ∧ b.lin ns ∧ a.dp ≤ 20 ∧ b.dp ≤ 20
 | .not t => t.lin ns
 | .both t u => t.lin ns ∧ u.lin ns
noncomputable def Sm.fin (ns : List Str) (a : Sm Str) : Prop := a.lin ns ∧ a.dp ≤ 20 ∧ a.lv ≤ 20
noncomputable def Ts.fin (ns : List Str) (t : Ts) : Prop := t.lin ns ∧ t.dp ≤ 20 ∧ t.wn ≤ 200
noncomputable def Bk.lin : List Str → Bk → Prop
 | _, .nil => True
 | ns, .set x a r => x ∈ ns ∧ a.fin ns ∧ r.lin ns
 | ns, .say a r => a.fin ns ∧ r.lin ns
 | ns, .when t b c r => t.fin ns ∧ b.lin ns ∧ c.lin ns ∧ r.lin ns
 | ns, .whil t b r => t.fin ns ∧ b.lin ns ∧ r.lin ns
 | ns, .wit x a b r => a.fin ns ∧ ns.length < 500 ∧ b.lin (ns ++ [x]) ∧ r.lin ns
noncomputable def Od.lin (ns : List Str) : Od → Prop
 | .set x a => x ∈ ns ∧ a.fin ns
 | .say a => a.fin ns
 | .when t b c => t.fin ns ∧ b.lin ns ∧ c.lin ns
 | .whil t b => t.fin ns ∧ b.lin ns
 | .wit x a b => a.fin ns ∧ ns.length < 500 ∧ b.lin (ns ++ [x])
theorem mul_small100 {i j : Int} (h : i.natAbs ≤ 100) : IntMulOk i j := CMul.ok (.inl ⟨by omega, by omega⟩)
theorem mul_small100R {i j : Int} (h : j.natAbs ≤ 100) : IntMulOk i j := CMul.ok (.inr ⟨by omega, by omega⟩)
theorem zfg {ns : List Str} {ps : List Int} : ∀ {a : Sm Str}, a.tiny → (a.val ns ps).natAbs ≤ 100
 | .num i, h => h
 | .name _, h => h.elim
 | .op _ _ _, h => h.elim
theorem zgc {ns : List Str} {ps : List Int} {o : O3} {a b : Sm Str} (h : (Sm.op o a b).lin ns) : a.lin ns ∧ b.lin ns ∧ (o = .mul → IntMulOk (a.val ns ps) (b.val ns ps)) :=
 ⟨h.1, h.2.1, fun e => (h.2.2 e).elim (fun z => mul_small100 (zfg z)) (fun z => mul_small100R (zfg z))⟩
theorem Sm.dp_pos {N : Type} : ∀ s : Sm N, 1 ≤ s.dp
 | .num _ => Nat.le_refl 1
 | .name _ => Nat.le_refl 1
 | .op _ _ _ => Nat.le_add_left 1 _
theorem zd2 {cs : List Cd} {ns : List Str} {ps : List Int} {l : Nat} {q : List Int} {f : Fin} (hl : ps.length = ns.length) (hq : q.length ≤ 1000000) : ∀ {s : Sm Str} {k n : Nat} {t : List Int}, s.lin ns → ps.length + t.length + s.dp ≤ 1000000 → Seg cs k (s.cards ns) →
  MRun cs n (k + (s.cards ns).length) (ps ++ t ++ [s.val ns ps]) l q f → ∃ n', MRun cs n' k (ps ++ t) l q f
 | .num i, k, n, t, _, hb, g, r => ⟨n + 1, .step (.pile g.head .push) (by rw [List.length_append]; omega) hq r⟩
 | .name x, k, n, t, hx, hb, g, r => by
  obtain ⟨j, hj⟩ := j7 (show x ∈ ns from hx)
  have lt := v5 hj
  have g' : Seg cs k [.load (((xq ns x).getD 0 : Nat) : Int)] := g
  have r' : MRun cs n (k + 1) (ps ++ t ++ [Sm.val ns ps (.name x)]) l q f := r
  have ev : Sm.val ns ps (.name x) = ps.getD j 0 := by unfold Sm.val; rw [hj]
  rw [hj] at g'
  rw [ev] at r'
  refine ⟨n + 1, .step (.pile g'.head (.load (j := j) (i := ps.getD j 0) ?_)) (by rw [List.length_append]; omega) hq r'⟩
  rw [List.getElem?_append_left (by omega), List.getD_eq_getElem?_getD, List.getElem?_eq_getElem (by omega)]
  rfl
 | .op o a b, k, n, t, hg, hb, g, r => by
  obtain ⟨h1, h2, h3⟩ := zgc (ps := ps) hg
  have hb' : ps.length + t.length + (max a.dp b.dp + 1) ≤ 1000000 := hb
  have g' : Seg cs k (a.cards ns ++ b.cards ns ++ [.op o]) := g
  have e : k + (a.cards ns ++ b.cards ns ++ [Cd.op o]).length = k + (a.cards ns).length + (b.cards ns).length + 1 := by
   simp only [List.length_append, List.length_cons, List.length_nil]; omega
  have r' : MRun cs n (k + (a.cards ns ++ b.cards ns ++ [Cd.op o]).length) (ps ++ t ++ [o.f (a.val ns ps) (b.val ns ps)]) l q f := r
  rw [e] at r'
  have g3 := g'.right
  rw [List.length_append, ← Nat.add_assoc] at g3
  have step : MRun cs (n + 1) (k + (a.cards ns).length + (b.cards ns).length) (ps ++ t ++ [a.val ns ps] ++ [b.val ns ps]) l q f :=
   .step (.pile g3.head (.op h3)) (by simp only [List.length_append, List.length_cons, List.length_nil]; have := a.dp_pos; have := b.dp_pos; omega) hq r'
  rw [List.append_assoc ps t] at step
  obtain ⟨n2, r2⟩ := zd2 hl hq (s := b) (t := t ++ [a.val ns ps]) h2 (by rw [List.length_append]; show _ + (_ + 1) + _ ≤ _; omega) g'.left.right step
  rw [← List.append_assoc] at r2
  exact zd2 hl hq h1 (by omega) g'.left.left r2
theorem m_two {cs : List Cd} {ns : List Str} {ps : List Int} {l : Nat} {q t : List Int} {f : Fin} (hl : ps.length = ns.length) (hq : q.length ≤ 1000000) {a b : Sm Str} {k n : Nat} {c : Cd} {v : Int} (ha : a.lin ns) (hb : b.lin ns) (da : a.dp ≤ 20) (db : b.dp ≤ 20) (hp : ps.length + t.length ≤ 900000)
  (g' : Seg cs k (a.cards ns ++ b.cards ns ++ [c])) (hc : Onp c (ps ++ t ++ [a.val ns ps] ++ [b.val ns ps]) q (ps ++ t ++ [v]) q)
  (r : MRun cs n (k + (a.cards ns ++ b.cards ns ++ [c]).length) (ps ++ t ++ [v]) l q f) : ∃ n', MRun cs n' k (ps ++ t) l q f := by
 have e : k + (a.cards ns ++ b.cards ns ++ [c]).length = k + (a.cards ns).length + (b.cards ns).length + 1 := by
  simp only [List.length_append, List.length_cons, List.length_nil]; omega
 rw [e] at r
 have g3 := g'.right
 rw [List.length_append, ← Nat.add_assoc] at g3
 have step : MRun cs (n + 1) (k + (a.cards ns).length + (b.cards ns).length) (ps ++ t ++ [a.val ns ps] ++ [b.val ns ps]) l q f :=
  .step (.pile g3.head hc) (by simp only [List.length_append, List.length_cons, List.length_nil]; omega) hq r
 rw [List.append_assoc ps t] at step
 obtain ⟨n2, r2⟩ := zd2 hl hq (s := b) (t := t ++ [a.val ns ps]) hb (by rw [List.length_append]; show _ + (_ + 1) + _ ≤ _; omega) g'.left.right step
 rw [← List.append_assoc] at r2
 exact zd2 hl hq ha (by omega) g'.left.left r2
theorem Seg.le {cs : List Cd} {k : Nat} {l : List Cd} (h : Seg cs k l) (hl : 0 < l.length) : k + l.length ≤ cs.length := by
 obtain ⟨c, hc⟩ : ∃ c, l[l.length - 1]? = some c := ⟨l[l.length - 1], List.getElem?_eq_getElem (by omega)⟩
 have := h _ _ hc
 have lt : k + (l.length - 1) < cs.length := by
  rcases Nat.lt_or_ge (k + (l.length - 1)) cs.length with z | z
  ·exact z
  ·rw [List.getElem?_eq_none z] at this; cases this
 omega
theorem zd1 {cs : List Cd} {ns : List Str} {ps : List Int} {l : Nat} {q : List Int} {f : Fin} (hl : ps.length = ns.length) (hq : q.length ≤ 1000000) : ∀ {s : Ts} {k n : Nat} {t : List Int}, s.lin ns → ps.length + t.length ≤ 900000 → Seg cs k (s.cards ns) →
  MRun cs n (k + (s.cards ns).length) (ps ++ t ++ [b2n (s.val ns ps)]) l q f → ∃ n', MRun cs n' k (ps ++ t) l q f
 | .less a b, k, n, t, hg, hb, g, r => m_two hl hq hg.1 hg.2.1 hg.2.2.1 hg.2.2.2 hb g .less r
 | .same a b, k, n, t, hg, hb, g, r => m_two hl hq hg.1 hg.2.1 hg.2.2.1 hg.2.2.2 hb g .same r
 | .not s, k, n, t, hg, hb, g, r => by
  have g' : Seg cs k (s.cards ns ++ [.flip]) := g
  have r' : MRun cs n (k + (s.cards ns ++ [Cd.flip]).length) (ps ++ t ++ [b2n (!s.val ns ps)]) l q f := r
  have e : k + (s.cards ns ++ [Cd.flip]).length = k + (s.cards ns).length + 1 := by
   simp only [List.length_append, List.length_cons, List.length_nil]; omega
  rw [e] at r'
  have d : b2n (decide (b2n (s.val ns ps) = 0)) = b2n (!s.val ns ps) := by cases s.val ns ps <;> rfl
  rw [← d] at r'
  exact zd1 hl hq (s := s) hg hb g'.left (.step (.pile g'.right.head .flip) (by simp only [List.length_append, List.length_cons, List.length_nil]; omega) hq r')
 | .both s u, k, n, t, hg, hb, g, r => by
  have g' : Seg cs k (s.cards ns ++ [.fork (((u.cards ns).length : Int) + 1)] ++ u.cards ns ++ [.skip 1, .push 0]) := g
  have r' : MRun cs n (k + (s.cards ns ++ [Cd.fork (((u.cards ns).length : Int) + 1)] ++ u.cards ns ++ [Cd.skip 1, .push 0]).length) (ps ++ t ++ [b2n (s.val ns ps && u.val ns ps)]) l q f := r
  have e : k + (s.cards ns ++ [Cd.fork (((u.cards ns).length : Int) + 1)] ++ u.cards ns ++ [Cd.skip 1, .push 0]).length = k + (s.cards ns).length + 1 + (u.cards ns).length + 2 := by
   simp only [List.length_append, List.length_cons, List.length_nil]; omega
  have le := g'.le (by simp only [List.length_append, List.length_cons, List.length_nil]; omega)
  rw [e] at r' le
  have gf := g'.left.left.right.head
  have gu := g'.left.right
  have gs := g'.right
  rw [List.length_append] at gu
  rw [List.length_append, List.length_append] at gs
  have e1 : k + ((s.cards ns).length + [Cd.fork (((u.cards ns).length : Int) + 1)].length) = k + (s.cards ns).length + 1 := by simp only [List.length_cons, List.length_nil]; omega
  have e2 : k + ((s.cards ns).length + [Cd.fork (((u.cards ns).length : Int) + 1)].length + (u.cards ns).length) = k + (s.cards ns).length + 1 + (u.cards ns).length := by simp only [List.length_cons, List.length_nil]; omega
  rw [e1] at gu
  rw [e2] at gs
  have one : (ps ++ t ++ [b2n (s.val ns ps)]).length ≤ 1000000 := by simp only [List.length_append, List.length_cons, List.length_nil]; omega
  have two : (ps ++ t).length ≤ 1000000 := by simp only [List.length_append]; omega
  suffices h : ∃ n', MRun cs n' (k + (s.cards ns).length) (ps ++ t ++ [b2n (s.val ns ps)]) l q f by
   obtain ⟨n', h⟩ := h
   exact zd1 hl hq hg.1 hb g'.left.left.left h
  cases hv : s.val ns ps with
  | true =>
   rw [hv] at r' one
   have st : MRun cs (n + 1) (k + (s.cards ns).length + 1 + (u.cards ns).length) (ps ++ t ++ [b2n (u.val ns ps)]) l q f :=
    .step (.skip (n := 1) gs.head (by omega)) (by simp only [List.length_append, List.length_cons, List.length_nil]; omega) hq r'
   obtain ⟨n2, r2⟩ := zd1 hl hq hg.2 hb gu st
   exact ⟨n2 + 1, .step (.fork1 gf (by decide)) one hq r2⟩
  | false =>
   rw [hv] at r' one
   have gf' : cs[k + (s.cards ns).length]? = some (.fork (((u.cards ns).length + 1 : Nat) : Int)) := gf
   have e3 : k + (s.cards ns).length + 1 + ((u.cards ns).length + 1) = k + (s.cards ns).length + 1 + (u.cards ns).length + 1 := by omega
   refine ⟨n + 1 + 1, .step (.fork0 gf' (by omega)) one hq ?_⟩
   rw [e3]
   exact .step (.pile (gs.at (j := 1) rfl) .push) two hq r'
inductive Skp (cs : List Cd) : Nat → Nat → Prop where
 | refl {k : Nat} : Skp cs k k
 | skip {k n j : Nat} : cs[k]? = some (.skip (n : Int)) → k + 1 + n ≤ cs.length → Skp cs (k + 1 + n) j → Skp cs k j
theorem Skp.run {cs : List Cd} {p : List Int} {l : Nat} {q : List Int} {f : Fin} (hp : p.length ≤ 1000000) (hq : q.length ≤ 1000000) {k j : Nat} (h : Skp cs k j) (r : ∃ n, MRun cs n j p l q f) : ∃ n, MRun cs n k p l q f := by
 induction h with
 | refl => exact r
 | skip e h _ ih =>
  obtain ⟨n, ih⟩ := ih r
  exact ⟨n + 1, .step (.skip e h) hp hq ih⟩
inductive Cont (cs : List Cd) : List Wi → List Str → Nat → Prop where
 | done {ns : List Str} {k : Nat} : Skp cs k cs.length → Cont cs [] ns k
 | ord {x : Od} {r : List Wi} {ns : List Str} {k j : Nat} : Skp cs k j → Seg cs j (.burn :: x.cards ns) → x.lin ns → Cont cs r ns (j + 1 + (x.cards ns).length) → Cont cs (.o x :: r) ns k
 | again {t : Ts} {b : Bk} {r : List Wi} {ns : List Str} {k j i n : Nat} : Skp cs k j → cs[j]? = some (.back (n : Int)) → n ≤ j → j - n = i → Seg cs i (ko (t.cards ns) (b.cards ns)) → t.lin ns → b.lin ns → Cont cs r ns (i + (ko (t.cards ns) (b.cards ns)).length) → Cont cs (.o (.whil t b) :: r) ns k
 | gone {x : Str} {r : List Wi} {ns : List Str} {k j : Nat} : Skp cs k j → cs[j]? = some .drop → Cont cs r ns (j + 1) → Cont cs (.gone :: r) (ns ++ [x]) k
theorem Cont.skip {cs : List Cd} {w : List Wi} {ns : List Str} {k n : Nat} (e : cs[k]? = some (.skip (n : Int))) (hk : k + 1 + n ≤ cs.length) (h : Cont cs w ns (k + 1 + n)) : Cont cs w ns k := by
 cases h with
 | done s => exact .done (.skip e hk s)
 | ord s a b c => exact .ord (.skip e hk s) a b c
 | again s a b c d t u v => exact .again (.skip e hk s) a b c d t u v
 | gone s a b => exact .gone (.skip e hk s) a b
theorem ji {cs : List Cd} : ∀ {b : Bk} {w : List Wi} {ns : List Str} {k : Nat}, b.lin ns → Seg cs k (b.cards ns) → Cont cs w ns (k + (b.cards ns).length) → Cont cs (wis b ++ w) ns k
 | .nil, w, ns, k, _, _, h => h
 | .set x a r, w, ns, k, hb, g, h => by
  have g' : Seg cs k ((.burn :: Od.cards ns (.set x a)) ++ r.cards ns) := by
   rw [List.cons_append]; exact g
  have e : k + ((Bk.set x a r).cards ns).length = k + (Cd.burn :: Od.cards ns (.set x a)).length + (r.cards ns).length := by
   simp only [Bk.cards, Od.cards, List.length_append, List.length_cons, List.length_nil]; omega
  rw [e] at h
  refine .ord (x := .set x a) .refl g'.left ⟨hb.1, hb.2.1⟩ ?_
  have := ji hb.2.2 g'.right h
  rw [List.length_cons, ← Nat.add_assoc] at this
  rw [Nat.add_right_comm]
  exact this
 | .say a r, w, ns, k, hb, g, h => by
  have g' : Seg cs k ((.burn :: Od.cards ns (.say a)) ++ r.cards ns) := by
   rw [List.cons_append]; exact g
  have e : k + ((Bk.say a r).cards ns).length = k + (Cd.burn :: Od.cards ns (.say a)).length + (r.cards ns).length := by
   simp only [Bk.cards, Od.cards, List.length_append, List.length_cons, List.length_nil]; omega
  rw [e] at h
  refine .ord (x := .say a) .refl g'.left hb.1 ?_
  have := ji hb.2 g'.right h
  rw [List.length_cons, ← Nat.add_assoc] at this
  rw [Nat.add_right_comm]
  exact this
 | .when t b c r, w, ns, k, hb, g, h => by
  have g' : Seg cs k ((.burn :: Od.cards ns (.when t b c)) ++ r.cards ns) := by
   rw [List.cons_append]; exact g
  have e : k + ((Bk.when t b c r).cards ns).length = k + (Cd.burn :: Od.cards ns (.when t b c)).length + (r.cards ns).length := by
   simp only [Bk.cards, Od.cards, List.length_append, List.length_cons, List.length_nil]; omega
  rw [e] at h
  refine .ord (x := .when t b c) .refl g'.left ⟨hb.1, hb.2.1, hb.2.2.1⟩ ?_
  have := ji hb.2.2.2 g'.right h
  rw [List.length_cons, ← Nat.add_assoc] at this
  rw [Nat.add_right_comm]
  exact this
 | .whil t b r, w, ns, k, hb, g, h => by
  have g' : Seg cs k ((.burn :: Od.cards ns (.whil t b)) ++ r.cards ns) := by
   rw [List.cons_append]; exact g
  have e : k + ((Bk.whil t b r).cards ns).length = k + (Cd.burn :: Od.cards ns (.whil t b)).length + (r.cards ns).length := by
   simp only [Bk.cards, Od.cards, List.length_append, List.length_cons, List.length_nil]; omega
  rw [e] at h
  refine .ord (x := .whil t b) .refl g'.left ⟨hb.1, hb.2.1⟩ ?_
  have := ji hb.2.2 g'.right h
  rw [List.length_cons, ← Nat.add_assoc] at this
  rw [Nat.add_right_comm]
  exact this
 | .wit x a b r, w, ns, k, hb, g, h => by
  have g' : Seg cs k ((.burn :: Od.cards ns (.wit x a b)) ++ r.cards ns) := by
   rw [List.cons_append]; exact g
  have e : k + ((Bk.wit x a b r).cards ns).length = k + (Cd.burn :: Od.cards ns (.wit x a b)).length + (r.cards ns).length := by
   simp only [Bk.cards, Od.cards, List.length_append, List.length_cons, List.length_nil]; omega
  rw [e] at h
  refine .ord (x := .wit x a b) .refl g'.left ⟨hb.1, hb.2.1, hb.2.2.1⟩ ?_
  have := ji hb.2.2.2 g'.right h
  rw [List.length_cons, ← Nat.add_assoc] at this
  rw [Nat.add_right_comm]
  exact this
theorem zdg {cs : List Cd} {t : Ts} {b : Bk} {r : List Wi} {ns : List Str} {i l : Nat} {ps q : List Int} {f : Fin} (hl : ps.length = ns.length) (hn : ns.length ≤ 500) (hq : q.length ≤ 1000000) (g : Seg cs i (ko (t.cards ns) (b.cards ns))) (ht : t.lin ns) (hb : b.lin ns) (c : Cont cs r ns (i + (ko (t.cards ns) (b.cards ns)).length))
  (ih1 : t.val ns ps = true → ∀ k, Cont cs (wis b ++ .o (.whil t b) :: r) ns k → ∃ n, MRun cs n k ps l q f)
  (ih0 : t.val ns ps = false → ∀ k, Cont cs r ns k → ∃ n, MRun cs n k ps l q f) : ∃ n, MRun cs n i ps l q f := by
 have g' : Seg cs i (t.cards ns ++ [.fork (((b.cards ns).length : Int) + 1)] ++ b.cards ns ++ [.back (((t.cards ns).length : Int) + 1 + ((b.cards ns).length : Int))]) := g
 have le := g'.le (by simp only [List.length_append, List.length_cons, List.length_nil]; omega)
 have el : (ko (t.cards ns) (b.cards ns)).length = (t.cards ns).length + 1 + (b.cards ns).length + 1 := by
  simp only [ko, List.length_append, List.length_cons, List.length_nil]
 have el' : (t.cards ns ++ [Cd.fork (((b.cards ns).length : Int) + 1)] ++ b.cards ns ++ [Cd.back (((t.cards ns).length : Int) + 1 + ((b.cards ns).length : Int))]).length = (t.cards ns).length + 1 + (b.cards ns).length + 1 := el
 rw [el'] at le
 have gf := g'.left.left.right.head
 have gb := g'.left.right
 have gk := g'.right.head
 rw [List.length_append, List.length_cons, List.length_nil] at gb
 rw [List.length_append, List.length_append, List.length_cons, List.length_nil] at gk
 have one : (ps ++ [] ++ [b2n (t.val ns ps)]).length ≤ 1000000 := by simp only [List.length_append, List.length_cons, List.length_nil]; omega
 suffices h : ∃ n', MRun cs n' (i + (t.cards ns).length) (ps ++ [] ++ [b2n (t.val ns ps)]) l q f by
  obtain ⟨n', h⟩ := h
  have := zd1 hl hq ht (t := []) (by simp only [List.length_nil]; omega) g'.left.left.left h
  rw [List.append_nil] at this
  exact this
 cases hv : t.val ns ps with
 | true =>
  rw [hv] at one
  have gk' : cs[i + ((t.cards ns).length + (0 + 1) + (b.cards ns).length)]? = some (.back (((t.cards ns).length + 1 + (b.cards ns).length : Nat) : Int)) := by
   rw [gk]; simp only [Int.natCast_add]; rfl
  have ct : Cont cs (wis b ++ .o (.whil t b) :: r) ns (i + ((t.cards ns).length + (0 + 1))) := by
   refine ji hb gb (.again (i := i) .refl (n := (t.cards ns).length + 1 + (b.cards ns).length) ?_ (by omega) (by omega) g ht hb c)
   rw [Nat.add_assoc]
   exact gk'
  obtain ⟨n, h⟩ := ih1 hv _ ct
  refine ⟨n + 1, .step (.fork1 gf (by decide)) one hq ?_⟩
  rw [List.append_nil]
  exact h
 | false =>
  rw [hv] at one
  have gf' : cs[i + (t.cards ns).length]? = some (.fork (((b.cards ns).length + 1 : Nat) : Int)) := gf
  rw [el] at c
  obtain ⟨n, h⟩ := ih0 hv _ c
  refine ⟨n + 1, .step (.fork0 gf' (by omega)) one hq ?_⟩
  rw [List.append_nil, show i + (t.cards ns).length + 1 + ((b.cards ns).length + 1) = i + ((t.cards ns).length + 1 + (b.cards ns).length + 1) by omega]
  exact h
theorem zgg {cs : List Cd} {t : Ts} {b d : Bk} {r : List Wi} {ns : List Str} {i l : Nat} {ps q : List Int} {f : Fin} (hl : ps.length = ns.length) (hn : ns.length ≤ 500) (hq : q.length ≤ 1000000) (g : Seg cs i (vm (t.cards ns) (b.cards ns) (d.cards ns))) (ht : t.lin ns) (hb : b.lin ns) (hd : d.lin ns) (c : Cont cs r ns (i + (vm (t.cards ns) (b.cards ns) (d.cards ns)).length))
  (ih1 : t.val ns ps = true → ∀ k, Cont cs (wis b ++ r) ns k → ∃ n, MRun cs n k ps l q f)
  (ih0 : t.val ns ps = false → ∀ k, Cont cs (wis d ++ r) ns k → ∃ n, MRun cs n k ps l q f) : ∃ n, MRun cs n i ps l q f := by
 have g' : Seg cs i (t.cards ns ++ [.fork (((b.cards ns).length : Int) + 1)] ++ b.cards ns ++ [.skip ((d.cards ns).length : Int)] ++ d.cards ns) := g
 have le := g'.le (by simp only [List.length_append, List.length_cons, List.length_nil]; omega)
 have el : (vm (t.cards ns) (b.cards ns) (d.cards ns)).length = (t.cards ns).length + 1 + (b.cards ns).length + 1 + (d.cards ns).length := by
  simp only [vm, List.length_append, List.length_cons, List.length_nil]
 have el' : (t.cards ns ++ [Cd.fork (((b.cards ns).length : Int) + 1)] ++ b.cards ns ++ [Cd.skip ((d.cards ns).length : Int)] ++ d.cards ns).length = (t.cards ns).length + 1 + (b.cards ns).length + 1 + (d.cards ns).length := el
 rw [el'] at le
 have gf := g'.left.left.left.right.head
 have gb := g'.left.left.right
 have gk := g'.left.right.head
 have gd := g'.right
 rw [List.length_append, List.length_cons, List.length_nil] at gb
 rw [List.length_append, List.length_append, List.length_cons, List.length_nil] at gk
 simp only [List.length_append, List.length_cons, List.length_nil] at gd
 rw [el] at c
 have one : (ps ++ [] ++ [b2n (t.val ns ps)]).length ≤ 1000000 := by simp only [List.length_append, List.length_cons, List.length_nil]; omega
 suffices h : ∃ n', MRun cs n' (i + (t.cards ns).length) (ps ++ [] ++ [b2n (t.val ns ps)]) l q f by
  obtain ⟨n', h⟩ := h
  have := zd1 hl hq ht (t := []) (by simp only [List.length_nil]; omega) g'.left.left.left.left h
  rw [List.append_nil] at this
  exact this
 cases hv : t.val ns ps with
 | true =>
  rw [hv] at one
  have ct : Cont cs (wis b ++ r) ns (i + ((t.cards ns).length + (0 + 1))) := by
   refine ji hb gb (Cont.skip (n := (d.cards ns).length) ?_ (by omega) ?_)
   ·rw [Nat.add_assoc]
    exact gk
   ·rw [show i + ((t.cards ns).length + (0 + 1)) + (b.cards ns).length + 1 + (d.cards ns).length = i + ((t.cards ns).length + 1 + (b.cards ns).length + 1 + (d.cards ns).length) by omega]
    exact c
  obtain ⟨n, h⟩ := ih1 hv _ ct
  refine ⟨n + 1, .step (.fork1 gf (by decide)) one hq ?_⟩
  rw [List.append_nil]
  exact h
 | false =>
  rw [hv] at one
  have gf' : cs[i + (t.cards ns).length]? = some (.fork (((b.cards ns).length + 1 : Nat) : Int)) := gf
  have ct : Cont cs (wis d ++ r) ns (i + (t.cards ns).length + 1 + ((b.cards ns).length + 1)) := by
   rw [show i + (t.cards ns).length + 1 + ((b.cards ns).length + 1) = i + ((t.cards ns).length + (0 + 1) + (b.cards ns).length + (0 + 1)) by omega]
   refine ji hd gd ?_
   rw [show i + ((t.cards ns).length + (0 + 1) + (b.cards ns).length + (0 + 1)) + (d.cards ns).length = i + ((t.cards ns).length + 1 + (b.cards ns).length + 1 + (d.cards ns).length) by omega]
   exact c
  obtain ⟨n, h⟩ := ih0 hv _ ct
  refine ⟨n + 1, .step (.fork0 gf' (by omega)) one hq ?_⟩
  rw [List.append_nil]
  exact h
theorem sim {cs : List Cd} {m : Nat} {r : List Wi} {ns : List Str} {ps s : List Int} {l : Nat} {f : WFin} (w : Walk m r ns ps s l f) : ∀ k, Cont cs r ns k → ps.length = ns.length → ns.length ≤ 500 → s.length + l ≤ 900000 → ∃ n, MRun cs n k ps l s ⟨f.word, f.told, f.pots, f.left⟩ := by
 induction w with
 | done =>
  intro k c hl hn hq
  cases c with
  | done s => exact s.run (by omega) (by omega) ⟨0, .done⟩
 | dry =>
  intro k c hl hn hq
  cases c with
  | ord s g _ _ => exact s.run (by omega) (by omega) ⟨0, .dry g.head rfl⟩
  | again s g _ _ _ _ _ _ => exact s.run (by omega) (by omega) ⟨0, .dry g rfl⟩
 | @gone m r ns x ps i s l f w ih =>
  intro k c hl hn hq
  have hl' : ps.length = ns.length := by simp only [List.length_append, List.length_cons, List.length_nil] at hl; omega
  have hn' : ns.length ≤ 500 := by simp only [List.length_append, List.length_cons, List.length_nil] at hn; omega
  generalize e : ns ++ [x] = ns2 at c
  cases c with
  | @gone x2 _ ns3 _ j s2 g c2 =>
   obtain ⟨e1, e2⟩ := List.append_inj' e rfl
   subst e1
   obtain ⟨n, h⟩ := ih _ c2 hl' hn' hq
   exact s2.run (by simp only [List.length_append, List.length_cons, List.length_nil]; omega) (by omega) ⟨n + 1, .step (.pile g .drop) (by simp only [List.length_append, List.length_cons, List.length_nil]; omega) (by omega) h⟩
 | @set m x a j r ns ps s l f e w ih =>
  intro k c hl hn hq
  cases c with
  | @ord _ _ _ _ j2 s2 g lin c2 =>
   obtain ⟨_, la, da, _⟩ := lin
   have lt := v5 e
   have g1 : Seg cs (j2 + 1) (a.cards ns ++ [.store (ixC ns x)]) := fun i c h => by
    have := g (i + 1) c h
    rw [show j2 + (i + 1) = j2 + 1 + i by omega] at this
    exact this
   have g2 := g1.right.head
   have ei : ixC ns x = (j : Int) := by unfold ixC; rw [e]; rfl
   rw [ei] at g2
   have el : j2 + 1 + (Od.cards ns (.set x a)).length = j2 + 1 + (a.cards ns).length + 1 := by
    simp only [Od.cards, List.length_append, List.length_cons, List.length_nil]; omega
   rw [el] at c2
   obtain ⟨n, h⟩ := ih _ c2 (by rw [List.length_set]; exact hl) hn (by omega)
   obtain ⟨n2, h2⟩ := zd2 (q := s) (l := l) hl (by omega) la (t := []) (n := n + 1) (f := ⟨f.word, f.told, f.pots, f.left⟩) (by simp only [List.length_nil]; omega) g1.left (.step (.pile g2 (p' := ps.set j (a.val ns ps)) (s' := s) (by rw [List.append_nil]; exact .store (by omega))) (by simp only [List.length_append, List.length_cons, List.length_nil]; omega) (by omega) h)
   rw [List.append_nil] at h2
   exact s2.run (by omega) (by omega) ⟨n2 + 1, .step (.burn g.head) (by omega) (by omega) h2⟩
 | @say m a r ns ps s l f w ih =>
  intro k c hl hn hq
  cases c with
  | @ord _ _ _ _ j2 s2 g lin c2 =>
   obtain ⟨la, da, _⟩ := lin
   have g1 : Seg cs (j2 + 1) (a.cards ns ++ [.say]) := fun i c h => by
    have := g (i + 1) c h
    rw [show j2 + (i + 1) = j2 + 1 + i by omega] at this
    exact this
   have g2 := g1.right.head
   have el : j2 + 1 + (Od.cards ns (.say a)).length = j2 + 1 + (a.cards ns).length + 1 := by
    simp only [Od.cards, List.length_append, List.length_cons, List.length_nil]; omega
   rw [el] at c2
   obtain ⟨n, h⟩ := ih _ c2 hl hn (by simp only [List.length_append, List.length_cons, List.length_nil]; omega)
   obtain ⟨n2, h2⟩ := zd2 (q := s) (l := l) hl (by omega) la (t := []) (n := n + 1) (f := ⟨f.word, f.told, f.pots, f.left⟩) (by simp only [List.length_nil]; omega) g1.left (.step (.pile g2 (p' := ps) (s' := s ++ [a.val ns ps]) (by rw [List.append_nil]; exact .say)) (by simp only [List.length_append, List.length_cons, List.length_nil]; omega) (by omega) h)
   rw [List.append_nil] at h2
   exact s2.run (by omega) (by omega) ⟨n2 + 1, .step (.burn g.head) (by omega) (by omega) h2⟩
 | @when1 m t b d r ns ps s l f hv w ih =>
  intro k c hl hn hq
  cases c with
  | @ord _ _ _ _ j2 s2 g lin c2 =>
   have g1 : Seg cs (j2 + 1) (vm (t.cards ns) (b.cards ns) (d.cards ns)) := fun i c h => by
    have := g (i + 1) c h
    rw [show j2 + (i + 1) = j2 + 1 + i by omega] at this
    exact this
   obtain ⟨n, h⟩ := zgg (l := l) (f := ⟨f.word, f.told, f.pots, f.left⟩) hl hn (by omega) g1 lin.1.1 lin.2.1 lin.2.2 c2 (fun _ k c => ih k c hl hn (by omega)) (fun z => by rw [hv] at z; cases z)
   exact s2.run (by omega) (by omega) ⟨n + 1, .step (.burn g.head) (by omega) (by omega) h⟩
 | @when0 m t b d r ns ps s l f hv w ih =>
  intro k c hl hn hq
  cases c with
  | @ord _ _ _ _ j2 s2 g lin c2 =>
   have g1 : Seg cs (j2 + 1) (vm (t.cards ns) (b.cards ns) (d.cards ns)) := fun i c h => by
    have := g (i + 1) c h
    rw [show j2 + (i + 1) = j2 + 1 + i by omega] at this
    exact this
   obtain ⟨n, h⟩ := zgg (l := l) (f := ⟨f.word, f.told, f.pots, f.left⟩) hl hn (by omega) g1 lin.1.1 lin.2.1 lin.2.2 c2 (fun z => by rw [hv] at z; cases z) (fun _ k c => ih k c hl hn (by omega))
   exact s2.run (by omega) (by omega) ⟨n + 1, .step (.burn g.head) (by omega) (by omega) h⟩
 | @whil1 m t b r ns ps s l f hv w ih =>
  intro k c hl hn hq
  cases c with
  | @ord _ _ _ _ j2 s2 g lin c2 =>
   have g1 : Seg cs (j2 + 1) (ko (t.cards ns) (b.cards ns)) := fun i c h => by
    have := g (i + 1) c h
    rw [show j2 + (i + 1) = j2 + 1 + i by omega] at this
    exact this
   obtain ⟨n, h⟩ := zdg (l := l) (f := ⟨f.word, f.told, f.pots, f.left⟩) hl hn (by omega) g1 lin.1.1 lin.2 c2 (fun _ k c => ih k c hl hn (by omega)) (fun z => by rw [hv] at z; cases z)
   exact s2.run (by omega) (by omega) ⟨n + 1, .step (.burn g.head) (by omega) (by omega) h⟩
  | @again _ _ _ _ _ j2 i n s2 e le ei g1 lt lb c2 =>
   subst ei
   obtain ⟨n, h⟩ := zdg (l := l) (f := ⟨f.word, f.told, f.pots, f.left⟩) hl hn (by omega) g1 lt lb c2 (fun _ k c => ih k c hl hn (by omega)) (fun z => by rw [hv] at z; cases z)
   exact s2.run (by omega) (by omega) ⟨n + 1, .step (.back e le) (by omega) (by omega) h⟩
 | @whil0 m t b r ns ps s l f hv w ih =>
  intro k c hl hn hq
  cases c with
  | @ord _ _ _ _ j2 s2 g lin c2 =>
   have g1 : Seg cs (j2 + 1) (ko (t.cards ns) (b.cards ns)) := fun i c h => by
    have := g (i + 1) c h
    rw [show j2 + (i + 1) = j2 + 1 + i by omega] at this
    exact this
   obtain ⟨n, h⟩ := zdg (l := l) (f := ⟨f.word, f.told, f.pots, f.left⟩) hl hn (by omega) g1 lin.1.1 lin.2 c2 (fun z => by rw [hv] at z; cases z) (fun _ k c => ih k c hl hn (by omega))
   exact s2.run (by omega) (by omega) ⟨n + 1, .step (.burn g.head) (by omega) (by omega) h⟩
  | @again _ _ _ _ _ j2 i n s2 e le ei g1 lt lb c2 =>
   subst ei
   obtain ⟨n, h⟩ := zdg (l := l) (f := ⟨f.word, f.told, f.pots, f.left⟩) hl hn (by omega) g1 lt lb c2 (fun z => by rw [hv] at z; cases z) (fun _ k c => ih k c hl hn (by omega))
   exact s2.run (by omega) (by omega) ⟨n + 1, .step (.back e le) (by omega) (by omega) h⟩
 | @wit m x a b r ns ps s l f w ih =>
  intro k c hl hn hq
  cases c with
  | @ord _ _ _ _ j2 s2 g lin c2 =>
   obtain ⟨⟨la, da, _⟩, ln, lb⟩ := lin
   have g1 : Seg cs (j2 + 1) (a.cards ns ++ b.cards (ns ++ [x]) ++ [.drop]) := fun i c h => by
    have := g (i + 1) c h
    rw [show j2 + (i + 1) = j2 + 1 + i by omega] at this
    exact this
   have g2 := g1.left.right
   have g3 := g1.right.head
   rw [List.length_append] at g3
   have el : j2 + 1 + (Od.cards ns (.wit x a b)).length = j2 + 1 + (a.cards ns).length + (b.cards (ns ++ [x])).length + 1 := by
    simp only [Od.cards, List.length_append, List.length_cons, List.length_nil]; omega
   rw [el] at c2
   have ct : Cont cs (wis b ++ .gone :: r) (ns ++ [x]) (j2 + 1 + (a.cards ns).length) :=
    ji lb g2 (.gone .refl (by rw [Nat.add_assoc (j2 + 1)]; exact g3) c2)
   obtain ⟨n, h⟩ := ih _ ct (by simp only [List.length_append, List.length_cons, List.length_nil]; omega) (by simp only [List.length_append, List.length_cons, List.length_nil]; omega) (by omega)
   obtain ⟨n2, h2⟩ := zd2 hl (by omega) la (t := []) (n := n) (l := l) (q := s) (f := ⟨f.word, f.told, f.pots, f.left⟩) (by simp only [List.length_nil]; omega) g1.left.left (by rw [List.append_nil]; exact h)
   rw [List.append_nil] at h2
   exact s2.run (by omega) (by omega) ⟨n2 + 1, .step (.burn g.head) (by omega) (by omega) h2⟩
open PySem L2
theorem zcv (salt p1 p2 : Int) (sc : List Str) : (qs salt p1 p2 sc).lin sc := by
 rcases zc5 salt p1 p2 sc with ⟨x, e, h⟩ | ⟨i, e, _⟩ <;> rw [e]
 ·exact h
 ·trivial
theorem zdp {o : Sm Str} {l : Int} {sc : List Str} (ho : o.lin sc) : ∀ k : Nat, (turned o l k).lin sc
 | 0 => ho
 | k + 1 => by
  have := zdp (l := l) ho k
  show (Sm.op (if k % 2 = 0 then .add else .sub) (turned o l k) (.num l)).lin sc
  split
  ·exact ⟨this, trivial, fun z => nomatch z⟩
  ·exact ⟨this, trivial, fun z => nomatch z⟩
theorem sum_lin (salt : Int) (sc : List Str) : (sumF salt sc).lin sc := by
 have a := zcv salt 1009 1013 sc
 have b := zcv salt 1019 1021 sc
 have l0 := wk (n := salt) (p := 1061) (show (0 : Int) < 4 by decide)
 have l4 := zar (n := salt) (p := 1061) (show (0 : Int) < 4 by decide)
 unfold sumF
 dsimp only
 split
 ·exact a
 ·split
  ·exact ⟨a, b, fun z => nomatch z⟩
  ·split
   ·exact ⟨a, b, fun z => nomatch z⟩
   ·split
    ·exact ⟨a, trivial, fun _ => .inr (by show (drw salt 1061 4 - 1).natAbs ≤ 100; omega)⟩
    ·split
     ·exact zdp a _
     ·split
      ·exact ⟨⟨⟨trivial, ⟨b, a, fun z => nomatch z⟩, fun _ => .inl (by show (drw salt 1061 4).natAbs ≤ 100; omega)⟩, b, fun z => nomatch z⟩, ⟨a, trivial, fun z => nomatch z⟩, fun z => nomatch z⟩
      ·exact ⟨⟨a, b, fun z => nomatch z⟩, ⟨trivial, b, fun _ => .inl (by show (drw salt 1061 4).natAbs ≤ 100; omega)⟩, fun z => nomatch z⟩
theorem test_lin (salt : Int) (sc : List Str) : (zah salt sc).lin sc := by
 have b := zcv salt 1019 1021 sc
 have b1 : (qs salt 1019 1021 sc).dp ≤ 20 := by rw [(v4 salt 1019 1021 sc).1]; decide
 have one : (if drw salt 1097 3 = 1 then sumF salt sc else qs salt 1009 1013 sc).lin sc ∧ (if drw salt 1097 3 = 1 then sumF salt sc else qs salt 1009 1013 sc).dp ≤ 20 := by
  split
  ·exact ⟨sum_lin salt sc, by have := (zas salt sc).1; omega⟩
  ·exact ⟨zcv salt 1009 1013 sc, by rw [(v4 salt 1009 1013 sc).1]; decide⟩
 unfold zah
 dsimp only
 generalize (if drw salt 1097 3 = 1 then sumF salt sc else qs salt 1009 1013 sc) = o at one
 have d1 : ∀ i : Int, (Sm.num i : Sm Str).dp ≤ 20 := fun i => by show 1 ≤ 20; decide
 have l1 : ∀ i : Int, (Ts.less o (.num i)).lin sc := fun i => ⟨one.1, trivial, one.2, d1 i⟩
 have l2 : (Ts.same o (qs salt 1019 1021 sc)).lin sc := ⟨one.1, b, one.2, b1⟩
 split
 ·exact l2
 ·split
  ·exact l1 _
  ·split
   ·exact ⟨⟨l1 _, l2⟩, ⟨l2, l1 _⟩⟩
   ·split
    ·exact ⟨l1 _, ⟨trivial, one.1, d1 _, one.2⟩⟩
    ·exact l1 _
theorem Bk.lin_app {ns : List Str} : ∀ {b c : Bk}, b.lin ns → c.lin ns → (b.app c).lin ns
 | .nil, _, _, h => h
 | .set x a r, c, h, g => ⟨h.1, h.2.1, Bk.lin_app h.2.2 g⟩
 | .say a r, c, h, g => ⟨h.1, Bk.lin_app h.2 g⟩
 | .when t b d r, c, h, g => ⟨h.1, h.2.1, h.2.2.1, Bk.lin_app h.2.2.2 g⟩
 | .whil t b r, c, h, g => ⟨h.1, h.2.1, Bk.lin_app h.2.2 g⟩
 | .wit x a b r, c, h, g => ⟨h.1, h.2.1, h.2.2.1, Bk.lin_app h.2.2.2 g⟩
theorem endF_lin {salt : Int} {t : Ts} {sc : List Str} (h : t.lin sc) : (endF salt t).lin sc := by
 unfold endF
 split
 ·rename_i x b
  split
  ·exact ⟨h.1, ⟨⟨h.1, trivial, fun z => nomatch z⟩, by show max 1 1 + 1 ≤ 20; decide, by show 1 + 1 ≤ 20; decide⟩, trivial⟩
  ·trivial
 ·trivial
theorem ze1 (salt : Int) (sc : List Str) : (sumF salt sc).fin sc := ⟨sum_lin salt sc, by have := (zas salt sc).1; omega, by have := (zas salt sc).2; omega⟩
theorem zfi (salt : Int) (sc : List Str) : (zah salt sc).fin sc := ⟨test_lin salt sc, by have := (zcg salt sc).1; omega, by have := (zcg salt sc).2; omega⟩
inductive j9 (names : List Str) : List Bk → List Hd → List Str → Prop where
 | nil {b : Bk} : b.lin names → j9 names [b] [] names
 | when {b : Bk} {t : Ts} {bs : List Bk} {hs : List Hd} {sc : List Str} : b.lin sc → t.fin sc → j9 names bs hs sc → j9 names (b :: bs) (.when t :: hs) sc
 | els {b b0 : Bk} {t : Ts} {bs : List Bk} {hs : List Hd} {sc : List Str} : b.lin sc → t.fin sc → b0.lin sc → j9 names bs hs sc → j9 names (b :: bs) (.els t b0 :: hs) sc
 | whil {b : Bk} {t : Ts} {bs : List Bk} {hs : List Hd} {sc : List Str} : b.lin sc → t.fin sc → j9 names bs hs sc → j9 names (b :: bs) (.whil t :: hs) sc
 | wit {b : Bk} {x : Str} {a : Sm Str} {bs : List Bk} {hs : List Hd} {sc : List Str} : b.lin (sc ++ [x]) → a.fin sc → sc.length < 500 → j9 names bs hs sc → j9 names (b :: bs) (.wit x a :: hs) (sc ++ [x])
theorem j9.top {names : List Str} {bs : List Bk} {hs : List Hd} {sc : List Str} (h : j9 names bs hs sc) : ∃ b r, bs = b :: r ∧ b.lin sc ∧ ∀ c : Bk, c.lin sc → j9 names (c :: r) hs sc := by
 cases h with
 | nil h => exact ⟨_, _, rfl, h, fun c hc => .nil hc⟩
 | when h t r => exact ⟨_, _, rfl, h, fun c hc => .when hc t r⟩
 | els h t u r => exact ⟨_, _, rfl, h, fun c hc => .els hc t u r⟩
 | whil h t r => exact ⟨_, _, rfl, h, fun c hc => .whil hc t r⟩
 | wit h t v r => exact ⟨_, _, rfl, h, fun c hc => .wit hc t v r⟩
theorem zea {names : List Str} {salt : Int} {g : Gs} (h : j9 names g.bs g.hs g.sc) : j9 names (xr salt g).bs (xr salt g).hs (xr salt g).sc := by
 obtain ⟨bs, hs, sc⟩ := g
 dsimp only at h
 cases h with
 | nil h => exact .nil h
 | when h t r => exact .els trivial t h r
 | els h t u r =>
  obtain ⟨b1, r1, rfl, l1, f⟩ := r.top
  exact f _ (Bk.lin_app l1 ⟨t, u, h, trivial⟩)
 | whil h t r =>
  obtain ⟨b1, r1, rfl, l1, f⟩ := r.top
  exact f _ (Bk.lin_app l1 ⟨t, Bk.lin_app h (endF_lin t.1), trivial⟩)
 | @wit b x a bs hs sc h t v r =>
  obtain ⟨b1, r1, rfl, l1, f⟩ := r.top
  show j9 names (b1.app (.wit x a b .nil) :: r1) hs (sc ++ [x]).dropLast
  rw [List.dropLast_concat]
  exact f _ (Bk.lin_app l1 ⟨t, v, h, trivial⟩)
theorem zf3 {names : List Str} {o : Bk} {g : Gs} (h : j9 names g.bs g.hs g.sc) (ho : o.lin g.sc) : j9 names (addF o g).bs (addF o g).hs (addF o g).sc := by
 obtain ⟨bs, hs, sc⟩ := g
 dsimp only at h ho
 obtain ⟨b1, r1, rfl, l1, f⟩ := h.top
 exact f _ (Bk.lin_app l1 ho)
theorem pick_in {near : List Str} {salt p : Int} (h : near ≠ []) : (near[(drw salt p (near.length : Int)).toNat]?).getD "" ∈ near := by
 have hp : 0 < near.length := by
  cases near with
  | nil => exact absurd rfl h
  | cons _ _ => exact Nat.succ_pos _
 have h0 := wk (n := salt) (p := p) (m := (near.length : Int)) (by omega)
 have h1 := zar (n := salt) (p := p) (m := (near.length : Int)) (by omega)
 have hlt : (drw salt p (near.length : Int)).toNat < near.length := by omega
 rw [List.getElem?_eq_getElem hlt]
 exact List.getElem_mem _
theorem stepF_lin {names : List Str} {k : Nat} {cell : Int} {g : Gs} (h : j9 names g.bs g.hs g.sc) (hs : g.sc.length < 500) : j9 names (v8 [] k cell g).bs (v8 [] k cell g).hs (v8 [] k cell g).sc := by
 unfold v8
 dsimp only
 rw [List.append_nil]
 split
 ·dsimp only
  unfold wq
  by_cases e : cell % 9 = 0
  ·rw [if_pos e, if_neg (by omega)]
   exact .whil trivial (zfi _ _) h
  ·rw [if_neg e]
   by_cases e1 : cell % 9 = 1
   ·rw [if_pos e1, if_neg (by omega)]
    exact .when trivial (zfi _ _) h
   ·rw [if_neg e1, if_pos (by omega)]
    exact .wit trivial (ze1 _ _) hs h
 ·split
  ·exact zea h
  ·split
   ·rename_i hn
    exact zf3 h ⟨pick_in hn.2, ze1 _ _, trivial⟩
   ·exact zf3 h ⟨ze1 _ _, trivial⟩
theorem zem {names : List Str} : ∀ (cs : List Int) {k : Nat} {g : Gs}, j9 names g.bs g.hs g.sc → g.Ok k → k + cs.length ≤ 400 → j9 names (zae [] k cs g).bs (zae [] k cs g).hs (zae [] k cs g).sc
 | [], _, _, h, _, _ => h
 | c :: cs, k, g, h, ok, hk => by
  have hk' : k + (cs.length + 1) ≤ 400 := hk
  have := ok.sc
  exact zem cs (stepF_lin h (by omega)) (zdq ok) (by omega)
theorem zd8 {names : List Str} : ∀ (n : Nat) {k : Nat} {g : Gs}, j9 names g.bs g.hs g.sc → g.Ok k → g.wt ≤ n → ∃ b, (wm n g).bs = [b] ∧ b.lin names
 | n, k, ⟨bs, [], sc⟩, h, ok, hw => by
  rw [zbi n _ rfl]
  cases h with
  | nil h => exact ⟨_, rfl, h⟩
 | 0, k, ⟨bs, x :: hs, sc⟩, h, ok, hw => by
  have := (za3 (salt := 1) ok (fun z => nomatch z)).2
  omega
 | n + 1, k, ⟨bs, x :: hs, sc⟩, h, ok, hw => by
  obtain ⟨o2, w2⟩ := za3 (salt := 1) ok (fun z => nomatch z)
  exact zd8 n (zea h) o2 (by omega)
theorem grown_lin {cells : List Int} {names : List Str} (hn : names.length ≤ 9) (hc : cells.length ≤ 200) : (v6 cells names []).lin names := by
 have ok0 : Gs.Ok ⟨[.nil], [], names⟩ 0 := ⟨rfl, by simp [Gs.wt], by simp [Gs.n, Gs.wt, Bk.n], by show names.length ≤ 9 + 0; omega, by simp [Gs.w]⟩
 have ok := zd7 (more := []) cells ok0
 have l := zem cells (j9.nil (names := names) (b := .nil) trivial) ok0 (by omega)
 have := ok.wt
 obtain ⟨b, e, hb⟩ := zd8 400 l ok (by omega)
 unfold v6
 rw [e]
 exact hb
inductive Sc (ns0 : List Str) : List Wi → List Str → Prop where
 | nil : Sc ns0 [] ns0
 | o {x : Od} {r : List Wi} {ns : List Str} : x.lin ns → Sc ns0 r ns → Sc ns0 (.o x :: r) ns
 | gone {x : Str} {r : List Wi} {ns : List Str} : Sc ns0 r ns → Sc ns0 (.gone :: r) (ns ++ [x])
theorem xz {ns0 : List Str} : ∀ {b : Bk} {w : List Wi} {ns : List Str}, b.lin ns → Sc ns0 w ns → Sc ns0 (wis b ++ w) ns
 | .nil, _, _, _, h => h
 | .set x a r, _, _, h, g => .o (x := .set x a) ⟨h.1, h.2.1⟩ (xz h.2.2 g)
 | .say a r, _, _, h, g => .o (x := .say a) h.1 (xz h.2 g)
 | .when t b d r, _, _, h, g => .o ⟨h.1, h.2.1, h.2.2.1⟩ (xz h.2.2.2 g)
 | .whil t b r, _, _, h, g => .o ⟨h.1, h.2.1⟩ (xz h.2.2 g)
 | .wit x a b r, _, _, h, g => .o (x := .wit x a b) ⟨h.1, h.2.1, h.2.2.1⟩ (xz h.2.2.2 g)
structure WEnd (n0 : Nat) (sl l : Nat) (f : WFin) : Prop where
 pl : f.word = true → f.pots.length = n0
 sl : f.told.length ≤ sl + l
 le : f.left ≤ l
 dr : f.word = false → f.left = 0
theorem zcm {ns0 : List Str} : ∀ (l : Nat) {r : List Wi} {ns : List Str} {ps s : List Int}, Sc ns0 r ns → ps.length = ns.length → ∃ m f, Walk m r ns ps s l f ∧ WEnd ns0.length s.length l f
 | l, [], ns, ps, s, h, hp => by
  cases h
  exact ⟨_, _, .done, fun _ => hp, Nat.le_add_right .., Nat.le_refl _, fun z => nomatch z⟩
 | l, .gone :: r, _, ps, s, h, hp => by
  cases h with
  | @gone x _ ns h =>
   rcases List.eq_nil_or_concat ps with rfl | ⟨ps', i, rfl⟩
   ·simp at hp
   ·rw [List.concat_eq_append] at hp ⊢
    obtain ⟨m, f, w, e⟩ := zcm l (ps := ps') (s := s) h (by simp only [List.length_append, List.length_cons, List.length_nil] at hp; omega)
    exact ⟨m + 1, f, .gone w, e⟩
 | 0, .o x :: r, ns, ps, s, h, hp => ⟨_, _, .dry, ⟨fun z => (by cases z), Nat.le_add_right .., Nat.le_refl _, fun _ => rfl⟩⟩
 | l + 1, .o x :: r, ns, ps, s, h, hp => by
  cases h with
  | o hx h =>
   have up : ∀ {s' : List Int} {f : WFin}, s'.length ≤ s.length + 1 → WEnd ns0.length s'.length l f → WEnd ns0.length s.length (l + 1) f :=
    fun h e => ⟨e.pl, by have := e.sl; omega, by have := e.le; omega, e.dr⟩
   cases x with
   | set x a =>
    obtain ⟨j, hj⟩ := j7 (show x ∈ ns from hx.1)
    obtain ⟨m, f, w, e⟩ := zcm l (ps := ps.set j (a.val ns ps)) (s := s) h (by rw [List.length_set]; exact hp)
    exact ⟨m + 1, f, .set hj w, up (Nat.le_succ _) e⟩
   | say a =>
    obtain ⟨m, f, w, e⟩ := zcm l (ps := ps) (s := s ++ [a.val ns ps]) h hp
    exact ⟨m + 1, f, .say w, up (by rw [List.length_append]; exact Nat.le_refl _) e⟩
   | when t b d =>
    cases hv : t.val ns ps with
    | true =>
     obtain ⟨m, f, w, e⟩ := zcm l (ps := ps) (s := s) (xz hx.2.1 h) hp
     exact ⟨m + 1, f, .when1 hv w, up (Nat.le_succ _) e⟩
    | false =>
     obtain ⟨m, f, w, e⟩ := zcm l (ps := ps) (s := s) (xz hx.2.2 h) hp
     exact ⟨m + 1, f, .when0 hv w, up (Nat.le_succ _) e⟩
   | whil t b =>
    cases hv : t.val ns ps with
    | true =>
     obtain ⟨m, f, w, e⟩ := zcm l (ps := ps) (s := s) (xz hx.2 (.o hx h)) hp
     exact ⟨m + 1, f, .whil1 hv w, up (Nat.le_succ _) e⟩
    | false =>
     obtain ⟨m, f, w, e⟩ := zcm l (ps := ps) (s := s) h hp
     exact ⟨m + 1, f, .whil0 hv w, up (Nat.le_succ _) e⟩
   | wit x a b =>
    obtain ⟨m, f, w, e⟩ := zcm l (ps := ps ++ [a.val ns ps]) (s := s) (xz hx.2.2 (.gone (x := x) h)) (by simp only [List.length_append, List.length_cons, List.length_nil]; omega)
    exact ⟨m + 1, f, .wit w, up (Nat.le_succ _) e⟩
termination_by l r => (l, r.length)
theorem Sm.cards_le (ns : List Str) : ∀ s : Sm Str, (s.cards ns).length + 1 = 2 * s.lv
 | .num _ => rfl
 | .name _ => rfl
 | .op o a b => by
  have h1 := Sm.cards_le ns a
  have h2 := Sm.cards_le ns b
  show (a.cards ns ++ b.cards ns ++ [Cd.op o]).length + 1 = 2 * (a.lv + b.lv)
  simp only [List.length_append, List.length_cons, List.length_nil]
  omega
theorem Ts.cards_le (ns : List Str) : ∀ t : Ts, (t.cards ns).length ≤ 3 * t.wn
 | .less a b => by
  have h1 := Sm.cards_le ns a
  have h2 := Sm.cards_le ns b
  show (a.cards ns ++ b.cards ns ++ [Cd.less]).length ≤ 3 * (2 * a.lv + 2 * b.lv + 1)
  simp only [List.length_append, List.length_cons, List.length_nil]
  omega
 | .same a b => by
  have h1 := Sm.cards_le ns a
  have h2 := Sm.cards_le ns b
  show (a.cards ns ++ b.cards ns ++ [Cd.same]).length ≤ 3 * (2 * a.lv + 2 * b.lv + 1)
  simp only [List.length_append, List.length_cons, List.length_nil]
  omega
 | .not t => by
  have h := Ts.cards_le ns t
  show (t.cards ns ++ [Cd.flip]).length ≤ 3 * (t.wn + 1)
  simp only [List.length_append, List.length_cons, List.length_nil]
  omega
 | .both t u => by
  have h1 := Ts.cards_le ns t
  have h2 := Ts.cards_le ns u
  show (t.cards ns ++ [Cd.fork (((u.cards ns).length : Int) + 1)] ++ u.cards ns ++ [Cd.skip 1, Cd.push 0]).length ≤ 3 * (t.wn + u.wn + 1)
  simp only [List.length_append, List.length_cons, List.length_nil]
  omega
theorem Bk.cards_le : ∀ (ns : List Str) (b : Bk), b.lin ns → (b.cards ns).length ≤ 700 * b.n
 | ns, .nil, _ => Nat.le_refl _
 | ns, .set x a r, h => by
  have h1 := Sm.cards_le ns a
  have h2 := Bk.cards_le ns r h.2.2
  have := h.2.1.2.2
  show (Cd.burn :: (a.cards ns ++ [_] ++ r.cards ns)).length ≤ 700 * (r.n + 1)
  simp only [List.length_append, List.length_cons, List.length_nil]
  omega
 | ns, .say a r, h => by
  have h1 := Sm.cards_le ns a
  have h2 := Bk.cards_le ns r h.2
  have := h.1.2.2
  show (Cd.burn :: (a.cards ns ++ [_] ++ r.cards ns)).length ≤ 700 * (r.n + 1)
  simp only [List.length_append, List.length_cons, List.length_nil]
  omega
 | ns, .when t b c r, h => by
  have h1 := Ts.cards_le ns t
  have h2 := Bk.cards_le ns b h.2.1
  have h3 := Bk.cards_le ns c h.2.2.1
  have h4 := Bk.cards_le ns r h.2.2.2
  have := h.1.2.2
  show (Cd.burn :: (vm (t.cards ns) (b.cards ns) (c.cards ns) ++ r.cards ns)).length ≤ 700 * (b.n + c.n + r.n + 1)
  simp only [vm, List.length_append, List.length_cons, List.length_nil]
  omega
 | ns, .whil t b r, h => by
  have h1 := Ts.cards_le ns t
  have h2 := Bk.cards_le ns b h.2.1
  have h4 := Bk.cards_le ns r h.2.2
  have := h.1.2.2
  show (Cd.burn :: (ko (t.cards ns) (b.cards ns) ++ r.cards ns)).length ≤ 700 * (b.n + r.n + 1)
  simp only [ko, List.length_append, List.length_cons, List.length_nil]
  omega
 | ns, .wit x a b r, h => by
  have h1 := Sm.cards_le ns a
  have h2 := Bk.cards_le (ns ++ [x]) b h.2.2.1
  have h4 := Bk.cards_le ns r h.2.2.2
  have := h.1.2.2
  show (Cd.burn :: (a.cards ns ++ b.cards (ns ++ [x]) ++ [.drop] ++ r.cards ns)).length ≤ 700 * (b.n + r.n + 1)
  simp only [List.length_append, List.length_cons, List.length_nil]
  omega
theorem Sm.lin_nm {ns : List Str} : ∀ {s : Sm Str}, s.lin ns → s.nm ns
 | .num _, _ => trivial
 | .name _, h => h
 | .op _ _ _, h => ⟨Sm.lin_nm h.1, Sm.lin_nm h.2.1⟩
theorem Ts.lin_nm {ns : List Str} : ∀ {t : Ts}, t.lin ns → t.nm ns
 | .less _ _, h => ⟨Sm.lin_nm h.1, Sm.lin_nm h.2.1⟩
 | .same _ _, h => ⟨Sm.lin_nm h.1, Sm.lin_nm h.2.1⟩
 | .not t, h => Ts.lin_nm (t := t) h
 | .both _ _, h => ⟨Ts.lin_nm h.1, Ts.lin_nm h.2⟩
structure Md (H0 H : Hp) (D : Addr) (acc : List Cd) (ws : List V) : Prop where
 S : Same H0 H
 e : H D = some (.lst ws)
 c : Cds H ws acc
theorem Md.ext {H0 H : Hp} {D : Addr} {acc cs : List Cd} {ws us : List V} (h : Md H0 H D acc ws) (h0 : H0 D = none) (hu : Cds H us cs) : Md H0 (upd H D (.lst (ws ++ us))) D (acc ++ cs) (ws ++ us) :=
 ⟨Same.at h.S h0 _, zc, (Cds.app h.c hu).mono ((zbj _).tup h.e)⟩
theorem Md.grow {H0 H H' : Hp} {D : Addr} {acc : List Cd} {ws : List V} (h : Md H0 H D acc ws) (S : Same H H') : Md H0 H' D acc ws := ⟨h.S.trans S, S _ _ h.e, h.c.mono S.tup⟩
theorem Md.len {H0 H : Hp} {D : Addr} {acc : List Cd} {ws : List V} (h : Md H0 H D acc ws) : ws.length = acc.length := h.c.len
theorem Md.one {H0 H : Hp} {D t : Addr} {acc : List Cd} {c : Cd} {ws : List V} (h : Md H0 H D acc ws) (h0 : H0 D = none) (ht : H t = none) : Md H0 (upd (upd H t (.tup c.vs)) D (.lst (ws ++ [.ref t]))) D (acc ++ [c]) (ws ++ [.ref t]) :=
 (h.grow (ze ht _)).ext h0 (Cds.one (c := c) zc)
theorem oneL {H : Hp} {t p : Addr} {vs : List V} (c : Cd) (ht : H t = none) (hp : upd H t (.tup vs) p = none) (hv : vs = c.vs) : Same H (upd (upd H t (.tup vs)) p (.lst [.ref t])) ∧ upd (upd H t (.tup vs)) p (.lst [.ref t]) p = some (.lst [.ref t]) ∧ Cds (upd (upd H t (.tup vs)) p (.lst [.ref t])) [.ref t] [c] := by
 subst hv
 have S1 := ze ht (.tup c.vs)
 have S2 := ze hp (.lst [.ref t])
 exact ⟨S1.trans S2, zc, Cds.one (S2 _ _ zc)⟩
theorem catL {H : Hp} {p : Addr} {ws1 ws2 : List V} {c1 c2 : List Cd} (hp : H p = none) (h1 : Cds H ws1 c1) (h2 : Cds H ws2 c2) : Same H (upd H p (.lst (ws1 ++ ws2))) ∧ upd H p (.lst (ws1 ++ ws2)) p = some (.lst (ws1 ++ ws2)) ∧ Cds (upd H p (.lst (ws1 ++ ws2))) (ws1 ++ ws2) (c1 ++ c2) :=
 ⟨ze hp _, zc, (Cds.app h1 h2).mono (ze hp _).tup⟩
structure Node (ns : List Str) (H : Hp) (n : Nat) (u : V) (cs : List Cd) (c : Addr) (wd : Str) (us : List V) (ths : List Th) : Prop where
 u : u = .ref c
 e : H c = some (.tup (.str wd :: us))
 p : Paired (IsTh H) us ths
 no1 : decide (V.str wd = V.str "num") = false
 no2 : decide (V.str wd = V.str "name") = false
 ok : ∀ x ∈ ths, x.dp ≤ n ∧ x.nm ns ∧ (x.cards ns).length + 1 ≤ cs.length
 few : us.length ≤ 2
 kind : (wd = "not" ∧ ∃ t, ths = [t] ∧ cs = t.cards ns ++ [.flip]) ∨ (wd = "both" ∧ ∃ t u, ths = [t, u] ∧ cs = t.cards ns ++ [.fork (((u.cards ns).length : Int) + 1)] ++ u.cards ns ++ [.skip 1, .push 0]) ∨
  (decide (V.str wd = V.str "not") = false ∧ decide (V.str wd = V.str "both") = false ∧ ∃ t u k, ths = [t, u] ∧ Cd.vs k = [.str wd] ∧ cs = t.cards ns ++ u.cards ns ++ [k])
theorem node_of {ns : List Str} {H : Hp} {n : Nat} {u : V} {s : Th} (h : IsTh H u s) (hd : s.dp ≤ n + 1) (hm : s.nm ns) :
  (∃ c i, u = .ref c ∧ H c = some (.tup [.str "num", .int i]) ∧ s.cards ns = [.push i]) ∨ (∃ c x, u = .ref c ∧ H c = some (.tup [.str "name", .str x]) ∧ x ∈ ns ∧ s.cards ns = [.load (((xq ns x).getD 0 : Nat) : Int)]) ∨
  ∃ c wd us ths, Node ns H n u (s.cards ns) c wd us ths := by
 cases s with
 | s s =>
  cases (show qy H u s from h) with
  | @num c i e => exact .inl ⟨c, i, rfl, e, rfl⟩
  | @name c x e => exact .inr (.inl ⟨c, x, rfl, e, hm, rfl⟩)
  | @op c o u v s t e h1 h2 =>
   have hd' : max s.dp t.dp + 1 ≤ n + 1 := hd
   have hm' : s.nm ns ∧ t.nm ns := hm
   refine .inr (.inr ⟨c, o.w, [u, v], [.s s, .s t], rfl, e, .cons h1 (.cons h2 .nil), by cases o <;> decide +kernel, by cases o <;> decide +kernel, fun x hx => ?_, Nat.le_refl _, .inr (.inr ⟨by cases o <;> decide +kernel, by cases o <;> decide +kernel, _, _, .op o, rfl, rfl, rfl⟩)⟩)
   have el : (Th.cards ns (.s (.op o s t))).length = (s.cards ns).length + (t.cards ns).length + 1 := by
    show (s.cards ns ++ t.cards ns ++ [_]).length = _
    simp only [List.length_append, List.length_cons, List.length_nil]
   rw [el]
   rcases List.mem_cons.mp hx with rfl | hx
   ·exact ⟨by show s.dp ≤ n; omega, hm'.1, by show (s.cards ns).length + 1 ≤ _; omega⟩
   ·have := List.mem_singleton.mp hx
    subst this
    exact ⟨by show t.dp ≤ n; omega, hm'.2, by show (t.cards ns).length + 1 ≤ _; omega⟩
 | t t =>
  cases (show qu H u t from h) with
  | @less c u v s t e h1 h2 =>
   have hd' : max s.dp t.dp + 1 ≤ n + 1 := hd
   have hm' : s.nm ns ∧ t.nm ns := hm
   refine .inr (.inr ⟨c, "less", [u, v], [.s s, .s t], rfl, e, .cons h1 (.cons h2 .nil), by decide +kernel, by decide +kernel, fun x hx => ?_, Nat.le_refl _, .inr (.inr ⟨by decide +kernel, by decide +kernel, _, _, .less, rfl, rfl, rfl⟩)⟩)
   have el : (Th.cards ns (.t (.less s t))).length = (s.cards ns).length + (t.cards ns).length + 1 := by
    show (s.cards ns ++ t.cards ns ++ [_]).length = _
    simp only [List.length_append, List.length_cons, List.length_nil]
   rw [el]
   rcases List.mem_cons.mp hx with rfl | hx
   ·exact ⟨by show s.dp ≤ n; omega, hm'.1, by show (s.cards ns).length + 1 ≤ _; omega⟩
   ·have := List.mem_singleton.mp hx
    subst this
    exact ⟨by show t.dp ≤ n; omega, hm'.2, by show (t.cards ns).length + 1 ≤ _; omega⟩
  | @same c u v s t e h1 h2 =>
   have hd' : max s.dp t.dp + 1 ≤ n + 1 := hd
   have hm' : s.nm ns ∧ t.nm ns := hm
   refine .inr (.inr ⟨c, "same", [u, v], [.s s, .s t], rfl, e, .cons h1 (.cons h2 .nil), by decide +kernel, by decide +kernel, fun x hx => ?_, Nat.le_refl _, .inr (.inr ⟨by decide +kernel, by decide +kernel, _, _, .same, rfl, rfl, rfl⟩)⟩)
   have el : (Th.cards ns (.t (.same s t))).length = (s.cards ns).length + (t.cards ns).length + 1 := by
    show (s.cards ns ++ t.cards ns ++ [_]).length = _
    simp only [List.length_append, List.length_cons, List.length_nil]
   rw [el]
   rcases List.mem_cons.mp hx with rfl | hx
   ·exact ⟨by show s.dp ≤ n; omega, hm'.1, by show (s.cards ns).length + 1 ≤ _; omega⟩
   ·have := List.mem_singleton.mp hx
    subst this
    exact ⟨by show t.dp ≤ n; omega, hm'.2, by show (t.cards ns).length + 1 ≤ _; omega⟩
  | @not c u t e h1 =>
   have hd' : t.dp + 1 ≤ n + 1 := hd
   refine .inr (.inr ⟨c, "not", [u], [.t t], rfl, e, .cons h1 .nil, by decide +kernel, by decide +kernel, fun x hx => ?_, Nat.le_succ 1, .inl ⟨rfl, _, rfl, rfl⟩⟩)
   have := List.mem_singleton.mp hx
   subst this
   refine ⟨by show t.dp ≤ n; omega, hm, ?_⟩
   show (t.cards ns).length + 1 ≤ (t.cards ns ++ [_]).length
   simp only [List.length_append, List.length_cons, List.length_nil]
   omega
  | @both c u v s t e h1 h2 =>
   have hd' : max s.dp t.dp + 1 ≤ n + 1 := hd
   have hm' : s.nm ns ∧ t.nm ns := hm
   refine .inr (.inr ⟨c, "both", [u, v], [.t s, .t t], rfl, e, .cons h1 (.cons h2 .nil), by decide +kernel, by decide +kernel, fun x hx => ?_, Nat.le_refl _, .inr (.inl ⟨rfl, _, _, rfl, rfl⟩)⟩)
   have el : (Th.cards ns (.t (.both s t))).length = (s.cards ns).length + (t.cards ns).length + 3 := by
    show (s.cards ns ++ [_] ++ t.cards ns ++ [_, _]).length = _
    simp only [List.length_append, List.length_cons, List.length_nil]
    omega
   rw [el]
   rcases List.mem_cons.mp hx with rfl | hx
   ·exact ⟨by show s.dp ≤ n; omega, hm'.1, by show (s.cards ns).length + 1 ≤ _; omega⟩
   ·have := List.mem_singleton.mp hx
    subst this
    exact ⟨by show t.dp ≤ n; omega, hm'.2, by show (t.cards ns).length + 1 ≤ _; omega⟩
noncomputable def RowC (D : Addr) (H : Hp) (v : V) (cs : List Cd) : Prop := ∃ p ws, v = .ref p ∧ p ≠ D ∧ H p = some (.lst ws) ∧ Cds H ws cs
theorem RowC.mono {D : Addr} {H H' : Hp} (B : But D H H') (L : j8 H H') {v : V} {cs : List Cd} (h : RowC D H v cs) : RowC D H' v cs := by
 obtain ⟨p, ws, e, n, h1, h2⟩ := h
 exact ⟨p, ws, e, n, B _ _ n h1, h2.mono L⟩
theorem inV_str {x : Str} : ∀ {ns : List Str}, x ∈ ns → inV (.str x) (ns.map V.str) = true
 | y :: ns, h => by
  rw [List.map_cons]
  show (eqV (.str y) (.str x) || inV (.str x) (ns.map V.str)) = true
  rcases List.mem_cons.mp h with rfl | h
  ·have : eqV (.str x) (.str x) = true := by simp [eqV]
   rw [this]; rfl
  ·rw [inV_str h, Bool.or_true]
theorem zeo : ∀ ns : List Str, (ns.map V.str).all zcw = true
 | [] => rfl
 | _ :: r => by rw [List.map_cons]; exact (zeo r)
end J
namespace W12
open PySem L2 J
section
variable {P : Program} {w : World} {K : W.Frag} {mg : Str → Option Value} {base : Heap}
noncomputable def spPlace (K : W.Frag) : Sp := fun vs H Q _ => ∃ (a : Addr) (ns : List Str) (x : Str) (i : Nat), vs = [.ref a, .str x] ∧ SqL K H a (ns.map V.str) ∧ ns.length ≤ 1000 ∧ xq ns x = some i ∧ Q (.int i) H
theorem zaj (T : Txt K mg) : FnOk P w K mg base CX0 1 T.f_place_of T.fd_place_of ["names", "name"] (spPlace K) := by
 refine T.place_of.F.ok zc7 (fun vs H Q E h => ?_) (fun cdv A outer s H vs Q E hr h => ?_)
 ·obtain ⟨a, ns, x, i, rfl, _⟩ := h; rfl
 obtain ⟨a, ns, x, i, rfl, hS, hn, hi, q⟩ := h
 refine ⟨_, (zf (zao PassesOwn.never rfl (pi_rangeD rfl T.b_range (za (zy v0 (qk qa rfl T.b_len PySem.boot_len (za (pv 0) zb)) zd) (za (zbs wz zd) (za (zbs wz zd) zb)))) (vj (i := 2) zc7.nd rfl (Or.inl rfl)) (zg (z0 (zj qi (zn qp (pv 0) (pv 2) (fun _ _ => rfl)) (pv 1) (zp _)) (zg (zr (pv 2))) zv)))
  (zg zaw)), ?_⟩
 try dsimp only[kx,kxb]
 have hl : (ns.map V.str).length = ns.length := List.length_map _
 refine ⟨_, rfl, a, _, rfl, .inl hS, _, _, rfl, rfl, _, rfl, _, rfl, _, _, rfl, ⟨by rw [hl]; omega, by rw [hl]; omega, by omega, by omega⟩, ?_⟩
 have hcnt : (((ns.map V.str).length : Int) - 1 - -1).toNat = ns.length := by rw [hl]; omega
 rw [hcnt]
 refine for_rangeD (fun k σ H' => ∃ o, σ = [some (.ref a), some (.str x), o] ∧ H' = H ∧ ∀ j : Nat, ns.length ≤ j + k → ns[j]? ≠ some x) ⟨none, rfl, rfl, fun j hj => ?_⟩ ?_ ?_
 ·rw [List.getElem?_eq_none (by omega)]; simp
 ·rintro k σ H' hk ⟨o, rfl, rfl, hno⟩
  have hlt : ns.length - 1 - k < ns.length := by omega
  have e : (((ns.map V.str).length : Int) - 1) - (k : Int) = ((ns.length - 1 - k : Nat) : Int) := by rw [hl]; omega
  have hy : ns[ns.length - 1 - k]? = some ns[ns.length - 1 - k] := List.getElem?_eq_getElem hlt
  have hv : atI (ns.map V.str) ((((ns.map V.str).length : Int) - 1) - (k : Int)) = some (.str ns[ns.length - 1 - k]) := by
   rw [e]; exact zu (by rw [List.getElem?_map, hy]; rfl)
  refine ⟨_, rfl, _, rfl, _, _, _, _, rfl, rfl, hS, hv, _, rfl, rfl, _, rfl, ?_⟩
  refine ite2 (fun c => ?_) (fun c => ?_)
  ·have c' : V.str ns[ns.length - 1 - k] = V.str x := of_decide_eq_true c
   injection c' with c'
   refine ⟨_, rfl, ?_⟩
   have hii : i = ns.length - 1 - k := lastIx_uniq hi (by rw [hy, c']) fun j hj => hno j (by omega)
   show Q (.int _) _
   rw [e, ← hii]
   exact q
  ·have c' : ¬ V.str ns[ns.length - 1 - k] = V.str x := of_decide_eq_false (Bool.eq_false_iff.mpr c)
   refine ⟨_, rfl, rfl, fun j hj => ?_⟩
   by_cases hjj : j = ns.length - 1 - k
   ·subst hjj
    rw [hy]
    intro z
    exact c' (by rw [Option.some.inj z])
   ·exact hno j (by omega)
 ·rintro σ H' ⟨o, rfl, rfl, hno⟩
  exact absurd (zad hi) (hno i (by omega))
noncomputable def zdi (K : W.Frag) (n : Nat) : Sp := fun vs H Q _ => ∃ (u : V) (a b : Addr) (ns : List Str) (ps : List Int) (s : Sm Str), vs = [u, .ref a, .ref b] ∧ qy H u s ∧ s.dp ≤ n ∧ SqL K H a (ns.map V.str) ∧ SqL K H b (ps.map V.int) ∧ ps.length = ns.length ∧ ns.length ≤ 1000 ∧
 s.lin ns ∧ Q (.int (s.val ns ps)) H
theorem zd0 (T : Txt K mg) : ∀ n : Nat, FnOk P w K mg base CX0 (n + 2) T.f_worth T.fd_worth ["part", "names", "values"] (zdi K n)
 | 0 => by
  have no : ∀ vs H Q E, ¬ zdi K 0 vs H Q E := fun vs H Q E h => by
   obtain ⟨u, a, b, ns, ps, s, _, _, h1, _⟩ := h
   cases s <;> simp [Sm.dp] at h1
  exact ⟨fun vs H Q E h => absurd h (no vs H Q E), fun A outer s H args us vs Q E _ _ _ _ h => absurd h (no vs H Q E)⟩
 | n + 1 => by
  have G_worth := zd0 T n
  have G_place_of := (zaj (P := P) (w := w) (base := base) T).mono (show 1 ≤ n + 2 by omega)
  have G_reckoned := (zc9 (P := P) (w := w) (base := base) T).mono (show 1 ≤ n + 2 by omega)
  refine T.worth.F.ok zfo (fun vs H Q E h => ?_) (fun cdv A outer s H vs Q E hr h => ?_)
  ·obtain ⟨u, a, b, ns, ps, s, rfl, _⟩ := h; rfl
  obtain ⟨u, a, b, ns, ps, s, rfl, hu, hd, hA, hB, hlen, hn, hg, q⟩ := h
  refine ⟨_, (zf (zx (i := 3) zfo.nd rfl (Or.inl rfl) (zn zm (pv 0) zd (fun _ _ => rfl)))
  (zf (z0 (zj qi (pv 3) zi (zp _)) (zg (zr (zn zm (pv 0) zd (fun _ _ => rfl)))) zv)
  (zf (z0 (zj qi (pv 3) zi (zp _)) (zg (zr (zn qp (pv 2) (zk G_place_of hr rfl T.place_of.m T.place_of.F.kp T.place_of.b .nil zq (za (pv 1) (za (zn zm (pv 0) zd (fun _ _ => rfl)) zb))) (fun _ _ => rfl)))) zv)
  (zg (zr (zk G_reckoned hr rfl T.reckoned.m T.reckoned.F.kp T.reckoned.b .nil zq (za (pv 3) (za (zk G_worth hr rfl T.worth.m T.worth.F.kp T.worth.b .nil zq (za (zn zm (pv 0) zd (fun _ _ => rfl)) (za (pv 1) (za (pv 2) zb)))) (za (zk G_worth hr rfl T.worth.m T.worth.F.kp T.worth.b .nil zq (za (zn zm (pv 0) zd (fun _ _ => rfl)) (za (pv 1) (za (pv 2) zb)))) zb))))))))), ?_⟩
  try dsimp only[kx,kxb]
  cases hu with
  | num e =>
   refine ⟨_, rfl, _, _, _, _, rfl, rfl, SqT.of e, rfl, ?_⟩
   refine ⟨_, rfl, rfl, _, rfl, qj (by decide +kernel) ?_⟩
   exact ⟨_, rfl, _, _, _, _, rfl, rfl, SqT.of e, rfl, q⟩
  | @name c x e =>
   refine ⟨_, rfl, _, _, _, _, rfl, rfl, SqT.of e, rfl, ?_⟩
   refine xi rfl (by decide +kernel) ?_ rfl
   refine ⟨_, rfl, rfl, _, rfl, qj (by decide +kernel) ?_⟩
   obtain ⟨i, hi⟩ := j7 (show x ∈ ns from hg)
   have hlt := v5 hi
   have hv : (ps.map V.int)[i]? = some (V.int (ps.getD i 0)) := by
    rw [List.getElem?_map, List.getD_eq_getElem?_getD, List.getElem?_eq_getElem (by omega)]; rfl
   refine ⟨_, rfl, _, rfl, _, rfl, _, _, _, _, rfl, rfl, SqT.of e, rfl, ?_⟩
   refine ⟨a, ns, x, i, rfl, hA, hn, hi, ?_⟩
   refine ⟨_, _, _, _, rfl, rfl, hB, zu hv, ?_⟩
   have : Sm.val ns ps (.name x) = ps.getD i 0 := by unfold Sm.val; rw [hi]
   rw [this] at q
   exact q
  | @op c o u v s t e h1 h2 =>
   have hd1 : s.dp ≤ n ∧ t.dp ≤ n := by
    have : max s.dp t.dp + 1 ≤ n + 1 := hd
    omega
   obtain ⟨g1, g2, g3⟩ := zgc (ps := ps) hg
   refine ⟨_, rfl, _, _, _, _, rfl, rfl, SqT.of e, rfl, ?_⟩
   refine ⟨_, rfl, rfl, _, rfl, zo (by cases o <;> decide +kernel) ?_⟩
   refine ⟨_, rfl, rfl, _, rfl, zo (by cases o <;> decide +kernel) ?_⟩
   refine ⟨_, rfl, _, rfl, _, _, _, _, rfl, rfl, SqT.of e, rfl, _, rfl, _, rfl, ?_⟩
   refine ⟨u, a, b, ns, ps, s, rfl, h1, hd1.1, hA, hB, hlen, hn, g1, ?_⟩
   refine ⟨_, rfl, _, _, _, _, rfl, rfl, SqT.of e, rfl, _, rfl, _, rfl, ?_⟩
   refine ⟨v, a, b, ns, ps, t, rfl, h2, hd1.2, hA, hB, hlen, hn, g2, ?_⟩
   exact ⟨o, _, _, rfl, g3, q⟩
noncomputable def spLast (K : W.Frag) : Sp := fun vs H Q _ => ∃ (a : Addr) (ns : List Str) (x : Str) (i : Nat), vs = [.ref a, .str x] ∧ SqL K H a (ns.map V.str) ∧ ns.length ≤ 1000 ∧ xq ns x = some i ∧ Q (.int i) H
noncomputable def PLast (H : Hp) (a : Addr) (ns : List Str) (x : Str) (k : Nat) (σ : St) (H' : Hp) : Prop :=
 ∃ (p : Int) (o : Option V), σ = [some (.ref a), some (.str x), some (.int p), o] ∧ H' = H ∧ ∀ j : Nat, j < k → ns[j]? = some x → (∀ m : Nat, j < m → m < k → ns[m]? ≠ some x) → p = j
theorem zbt (T : Txt K mg) : FnOk P w K mg base CX0 1 T.f_law_last T.fd_law_last ["_law_names", "_law_name"] (spLast K) := by
 refine T.law_last.F.ok zai (fun vs H Q E h => ?_) (fun cdv A outer s H vs Q E hr h => ?_)
 ·obtain ⟨a, ns, x, i, rfl, _⟩ := h; rfl
 obtain ⟨a, ns, x, i, rfl, hS, hn, hi, q⟩ := h
 refine ⟨_, (zf (zx (i := 2) zai.nd rfl (Or.inl rfl) (zbs wz zd))
  (zf (zao PassesOwn.never rfl (wx rfl T.b_range (za (qk qa rfl T.b_len PySem.boot_len (za (pv 0) zb)) zb)) (vj (i := 3) zai.nd rfl (Or.inl rfl)) (zg (z0 (zj qi (zn qp (pv 0) (pv 3) (fun _ _ => rfl)) (pv 1) (zp _)) (zg (zx (i := 2) zai.nd rfl (Or.inl rfl) (pv 3))) zv)))
  (zg (zr (pv 2))))), ?_⟩
 try dsimp only[kx,kxb]
 have hl : (ns.map V.str).length = ns.length := List.length_map _
 refine ⟨_, rfl, ?_⟩
 refine ⟨_, rfl, _, _, rfl, .inl hS, _, rfl, by omega, by rw [hl]; omega, ?_⟩
 have hcnt : (((ns.map V.str).length : Nat) : Int).toNat = ns.length := by rw [hl]; omega
 rw [hcnt]
 refine za0 (PLast H a ns x) ⟨-1, none, rfl, rfl, fun j hj => absurd hj (Nat.not_lt_zero _)⟩ ?_ ?_
 ·rintro k σ H' hk ⟨p, o, rfl, rfl, hno⟩
  have hy : ns[k]? = some ns[k] := List.getElem?_eq_getElem hk
  have hv : atI (ns.map V.str) (0 + (k : Int)) = some (.str ns[k]) := by
   rw [Int.zero_add]; exact zu (by rw [List.getElem?_map, hy]; rfl)
  refine ⟨_, rfl, _, rfl, _, _, _, _, rfl, rfl, hS, hv, _, rfl, rfl, _, rfl, ?_⟩
  refine ite2 (fun c => ?_) (fun c => ?_)
  ·have c' : V.str ns[k] = V.str x := of_decide_eq_true c
   injection c' with c'
   refine ⟨_, rfl, _, _, rfl, rfl, fun j hj hjx hjm => ?_⟩
   by_cases hjk : j = k
   ·omega
   ·exact absurd (by rw [hy, c']) (hjm k (by omega) (by omega))
  ·have c' : ¬ V.str ns[k] = V.str x := of_decide_eq_false (Bool.eq_false_iff.mpr c)
   refine ⟨_, _, rfl, rfl, fun j hj hjx hjm => ?_⟩
   by_cases hjk : j = k
   ·subst hjk
    rw [hy] at hjx
    exact absurd (congrArg V.str (Option.some.inj hjx)) c'
   ·exact hno j (by omega) hjx fun m h1 h2 => hjm m h1 (by omega)
 ·rintro σ H' ⟨p, o, rfl, rfl, hno⟩
  have e := hno i (v5 hi) (zad hi) fun m h1 _ => zci hi m h1
  subst e
  exact ⟨_, rfl, q⟩
theorem zbd (T : Txt K mg) : ∀ n : Nat, FnOk P w K mg base CX0 (n + 2) T.f_law_value T.fd_law_value ["_law_part", "_law_names", "_law_pots"] (zdi K n)
 | 0 => by
  have no : ∀ vs H Q E, ¬ zdi K 0 vs H Q E := fun vs H Q E h => by
   obtain ⟨u, a, b, ns, ps, s, _, _, h1, _⟩ := h
   cases s <;> simp [Sm.dp] at h1
  exact ⟨fun vs H Q E h => absurd h (no vs H Q E), fun A outer s H args us vs Q E _ _ _ _ h => absurd h (no vs H Q E)⟩
 | n + 1 => by
  have G_law_value := zbd T n
  have G_law_last := (zbt (P := P) (w := w) (base := base) T).mono (show 1 ≤ n + 2 by omega)
  refine T.law_value.F.ok za7 (fun vs H Q E h => ?_) (fun cdv A outer s H vs Q E hr h => ?_)
  ·obtain ⟨u, a, b, ns, ps, s, rfl, _⟩ := h; rfl
  obtain ⟨u, a, b, ns, ps, s, rfl, hu, hd, hA, hB, hlen, hn, hg, q⟩ := h
  refine ⟨_, (zf (z0 (zj qi (zn zm (pv 0) zd (fun _ _ => rfl)) zi (zp _)) (zg (zr (zn zm (pv 0) zd (fun _ _ => rfl)))) zv)
  (zf (z0 (zj qi (zn zm (pv 0) zd (fun _ _ => rfl)) zi (zp _)) (zg (zr (zn qp (pv 2) (zk G_law_last hr rfl T.law_last.m T.law_last.F.kp T.law_last.b .nil zq (za (pv 1) (za (zn zm (pv 0) zd (fun _ _ => rfl)) zb))) (fun _ _ => rfl)))) zv)
  (zf (zx (i := 3) za7.nd rfl (Or.inl rfl) (zk G_law_value hr rfl T.law_value.m T.law_value.F.kp T.law_value.b .nil zq (za (zn zm (pv 0) zd (fun _ _ => rfl)) (za (pv 1) (za (pv 2) zb)))))
  (zf (zx (i := 4) za7.nd rfl (Or.inl rfl) (zk G_law_value hr rfl T.law_value.m T.law_value.F.kp T.law_value.b .nil zq (za (zn zm (pv 0) zd (fun _ _ => rfl)) (za (pv 1) (za (pv 2) zb)))))
  (zf (z0 (zj qi (zn zm (pv 0) zd (fun _ _ => rfl)) zi (zp _)) (zg (zr (zy jg (pv 3) (pv 4)))) zv)
  (zf (z0 (zj qi (zn zm (pv 0) zd (fun _ _ => rfl)) zi (zp _)) (zg (zr (zy v0 (pv 3) (pv 4)))) zv)
  (zg (zr (zy vk (pv 3) (pv 4)))))))))), ?_⟩
  try dsimp only[kx,kxb]
  cases hu with
  | num e =>
   refine ⟨_, rfl, _, _, _, _, rfl, rfl, SqT.of e, at0, rfl, _, rfl, qj (by decide +kernel) ?_⟩
   exact ⟨_, rfl, _, _, _, _, rfl, rfl, SqT.of e, rfl, q⟩
  | @name c x e =>
   refine ⟨_, rfl, _, _, _, _, rfl, rfl, SqT.of e, at0, rfl, _, rfl, zo (by decide +kernel) ?_⟩
   refine ⟨_, rfl, _, _, _, _, rfl, rfl, SqT.of e, at0, rfl, _, rfl, qj (by decide +kernel) ?_⟩
   obtain ⟨i, hi⟩ := j7 (show x ∈ ns from hg)
   have hlt := v5 hi
   have hv : (ps.map V.int)[i]? = some (V.int (ps.getD i 0)) := by
    rw [List.getElem?_map, List.getD_eq_getElem?_getD, List.getElem?_eq_getElem (by omega)]; rfl
   refine ⟨_, rfl, _, rfl, _, rfl, _, _, _, _, rfl, rfl, SqT.of e, rfl, ?_⟩
   refine ⟨a, ns, x, i, rfl, hA, hn, hi, ?_⟩
   refine ⟨_, _, _, _, rfl, rfl, hB, zu hv, ?_⟩
   have : Sm.val ns ps (.name x) = ps.getD i 0 := by unfold Sm.val; rw [hi]
   rw [this] at q
   exact q
  | @op c o u v s t e h1 h2 =>
   have hd1 : s.dp ≤ n ∧ t.dp ≤ n := by
    have : max s.dp t.dp + 1 ≤ n + 1 := hd
    omega
   obtain ⟨g1, g2, g3⟩ := zgc (ps := ps) hg
   refine ⟨_, rfl, _, _, _, _, rfl, rfl, SqT.of e, at0, rfl, _, rfl, zo (by cases o <;> decide +kernel) ?_⟩
   refine ⟨_, rfl, _, _, _, _, rfl, rfl, SqT.of e, at0, rfl, _, rfl, zo (by cases o <;> decide +kernel) ?_⟩
   refine ⟨_, rfl, _, _, _, _, rfl, rfl, SqT.of e, rfl, _, rfl, _, rfl, ?_⟩
   refine ⟨u, a, b, ns, ps, s, rfl, h1, hd1.1, hA, hB, hlen, hn, g1, ?_⟩
   refine ⟨_, rfl, _, _, _, _, rfl, rfl, SqT.of e, rfl, _, rfl, _, rfl, ?_⟩
   refine ⟨v, a, b, ns, ps, t, rfl, h2, hd1.2, hA, hB, hlen, hn, g2, ?_⟩
   cases o
   ·refine ⟨_, rfl, _, _, _, _, rfl, rfl, SqT.of e, at0, rfl, _, rfl, qj (by decide +kernel) ?_⟩
    exact ⟨_, rfl, _, rfl, _, _, rfl, rfl, q⟩
   ·refine ⟨_, rfl, _, _, _, _, rfl, rfl, SqT.of e, at0, rfl, _, rfl, zo (by decide +kernel) ?_⟩
    refine ⟨_, rfl, _, _, _, _, rfl, rfl, SqT.of e, at0, rfl, _, rfl, qj (by decide +kernel) ?_⟩
    exact ⟨_, rfl, _, rfl, _, _, rfl, rfl, q⟩
   ·refine ⟨_, rfl, _, _, _, _, rfl, rfl, SqT.of e, at0, rfl, _, rfl, zo (by decide +kernel) ?_⟩
    refine ⟨_, rfl, _, _, _, _, rfl, rfl, SqT.of e, at0, rfl, _, rfl, zo (by decide +kernel) ?_⟩
    exact ⟨_, rfl, _, rfl, _, _, rfl, rfl, g3 rfl, q⟩
end
open PySem L2 J
section
variable {P : Program} {w : World} {K : W.Frag} {mg : Str → Option Value} {base : Heap}
noncomputable def zdj (K : W.Frag) (n : Nat) : Sp := fun vs H Q _ => ∃ (u : V) (a b : Addr) (ns : List Str) (ps : List Int) (t : Ts), vs = [u, .ref a, .ref b] ∧ qu H u t ∧ t.dp ≤ n ∧ SqL K H a (ns.map V.str) ∧ SqL K H b (ps.map V.int) ∧ ps.length = ns.length ∧ ns.length ≤ 1000 ∧
 t.lin ns ∧ Q (.bl (t.val ns ps)) H
theorem zcx (i j : Int) : decide (V.int i = V.int j) = decide (i = j) := by
 by_cases z : i = j
 ·rw [z]; simp
 ·have z' : ¬ V.int i = V.int j := fun x => z (V.int.inj x)
  rw [decide_eq_false z, decide_eq_false z']
theorem zfr (T : Txt K mg) : ∀ n : Nat, FnOk P w K mg base CX0 (n + 2) T.f_holds T.fd_holds ["test", "names", "values"] (zdj K n)
 | 0 => by
  have no : ∀ vs H Q E, ¬ zdj K 0 vs H Q E := fun vs H Q E h => by
   obtain ⟨u, a, b, ns, ps, t, _, _, h1, _⟩ := h
   cases t <;> simp [Ts.dp] at h1
  exact ⟨fun vs H Q E h => absurd h (no vs H Q E), fun A outer s H args us vs Q E _ _ _ _ h => absurd h (no vs H Q E)⟩
 | n + 1 => by
  have G_holds := zfr T n
  have G_worth := zd0 (P := P) (w := w) (base := base) T n
  refine T.holds.F.ok zcr (fun vs H Q E h => ?_) (fun cdv A outer s H vs Q E hr h => ?_)
  ·obtain ⟨u, a, b, ns, ps, s, rfl, _⟩ := h; rfl
  obtain ⟨u, a, b, ns, ps, t, rfl, hu, hd, hA, hB, hlen, hn, hg, q⟩ := h
  refine ⟨_, (zf (zx (i := 3) zcr.nd rfl (Or.inl rfl) (zn zm (pv 0) zd (fun _ _ => rfl)))
  (zf (z0 (zj qi (pv 3) zi (zp _)) (zg (zr (zga (zk G_holds hr rfl T.holds.m T.holds.F.kp T.holds.b .nil zq (za (zn zm (pv 0) zd (fun _ _ => rfl)) (za (pv 1) (za (pv 2) zb))))))) zv)
  (zf (z0 (zj qi (pv 3) zi (zp _)) (zg (zr (ze5 (zk G_holds hr rfl T.holds.m T.holds.F.kp T.holds.b .nil zq (za (zn zm (pv 0) zd (fun _ _ => rfl)) (za (pv 1) (za (pv 2) zb)))) (ze3 (zk G_holds hr rfl T.holds.m T.holds.F.kp T.holds.b .nil zq (za (zn zm (pv 0) zd (fun _ _ => rfl)) (za (pv 1) (za (pv 2) zb)))))))) zv)
  (zf (zx (i := 4) zcr.nd rfl (Or.inl rfl) (zk G_worth hr rfl T.worth.m T.worth.F.kp T.worth.b .nil zq (za (zn zm (pv 0) zd (fun _ _ => rfl)) (za (pv 1) (za (pv 2) zb)))))
  (zf (zx (i := 5) zcr.nd rfl (Or.inl rfl) (zk G_worth hr rfl T.worth.m T.worth.F.kp T.worth.b .nil zq (za (zn zm (pv 0) zd (fun _ _ => rfl)) (za (pv 1) (za (pv 2) zb)))))
  (zf (z0 (zj qi (pv 3) zi (zp _)) (zg (zr (wu zbm (pv 4) (pv 5) (zp _)))) zv)
  (zg (zr (wu qi (pv 4) (pv 5) (zp _)))))))))), ?_⟩
  try dsimp only[kx,kxb]
  cases hu with
  | @less c u v s t e h1 h2 =>
   have hd1 : max s.dp t.dp + 1 ≤ n + 1 := hd
   refine ⟨_, rfl, _, _, _, _, rfl, rfl, SqT.of e, rfl, ?_⟩
   refine xi rfl (by decide +kernel) ?_ rfl
   refine xi rfl (by decide +kernel) ?_ rfl
   refine ⟨_, rfl, _, _, _, _, rfl, rfl, SqT.of e, rfl, _, rfl, _, rfl, ?_⟩
   refine ⟨u, a, b, ns, ps, s, rfl, h1, by omega, hA, hB, hlen, hn, hg.1, ?_⟩
   refine ⟨_, rfl, _, _, _, _, rfl, rfl, SqT.of e, rfl, _, rfl, _, rfl, ?_⟩
   refine ⟨v, a, b, ns, ps, t, rfl, h2, by omega, hA, hB, hlen, hn, hg.2.1, ?_⟩
   refine ⟨_, rfl, rfl, _, rfl, qj (by decide +kernel) ?_⟩
   exact ⟨_, rfl, _, rfl, _, _, rfl, rfl, q⟩
  | @same c u v s t e h1 h2 =>
   have hd1 : max s.dp t.dp + 1 ≤ n + 1 := hd
   refine ⟨_, rfl, _, _, _, _, rfl, rfl, SqT.of e, rfl, ?_⟩
   refine xi rfl (by decide +kernel) ?_ rfl
   refine xi rfl (by decide +kernel) ?_ rfl
   refine ⟨_, rfl, _, _, _, _, rfl, rfl, SqT.of e, rfl, _, rfl, _, rfl, ?_⟩
   refine ⟨u, a, b, ns, ps, s, rfl, h1, by omega, hA, hB, hlen, hn, hg.1, ?_⟩
   refine ⟨_, rfl, _, _, _, _, rfl, rfl, SqT.of e, rfl, _, rfl, _, rfl, ?_⟩
   refine ⟨v, a, b, ns, ps, t, rfl, h2, by omega, hA, hB, hlen, hn, hg.2.1, ?_⟩
   refine xi rfl (by decide +kernel) ?_ rfl
   refine ⟨_, rfl, _, rfl, rfl, ?_⟩
   show Q (.bl (decide (V.int (s.val ns ps) = V.int (t.val ns ps)))) H
   rw [zcx]
   exact q
  | @not c u t e h1 =>
   have hd' : t.dp + 1 ≤ n + 1 := hd
   refine ⟨_, rfl, _, _, _, _, rfl, rfl, SqT.of e, rfl, ?_⟩
   refine ⟨_, rfl, rfl, _, rfl, qj (by decide +kernel) ?_⟩
   refine ⟨_, rfl, _, _, _, _, rfl, rfl, SqT.of e, rfl, _, rfl, _, rfl, ?_⟩
   exact ⟨u, a, b, ns, ps, t, rfl, h1, by omega, hA, hB, hlen, hn, hg, _, rfl, q⟩
  | @both c u v s t e h1 h2 =>
   have hd' : max s.dp t.dp + 1 ≤ n + 1 := hd
   refine ⟨_, rfl, _, _, _, _, rfl, rfl, SqT.of e, rfl, ?_⟩
   refine xi rfl (by decide +kernel) ?_ rfl
   refine ⟨_, rfl, rfl, _, rfl, qj (by decide +kernel) ?_⟩
   refine ⟨_, rfl, _, _, _, _, rfl, rfl, SqT.of e, rfl, _, rfl, _, rfl, ?_⟩
   refine ⟨u, a, b, ns, ps, s, rfl, h1, by omega, hA, hB, hlen, hn, hg.1, _, rfl, ?_⟩
   have q' : Q (.bl (s.val ns ps && t.val ns ps)) H := q
   refine ite2 (fun c => ?_) (fun c => ?_)
   ·refine ⟨_, rfl, _, _, _, _, rfl, rfl, SqT.of e, rfl, _, rfl, _, rfl, ?_⟩
    refine ⟨v, a, b, ns, ps, t, rfl, h2, by omega, hA, hB, hlen, hn, hg.2, ?_⟩
    rw [c, Bool.true_and] at q'
    exact q'
   ·rw [Bool.eq_false_iff.mpr c, Bool.false_and] at q'
    exact q'
theorem zda (T : Txt K mg) : ∀ n : Nat, FnOk P w K mg base CX0 (n + 2) T.f_law_true T.fd_law_true ["_law_test", "_law_names", "_law_pots"] (zdj K n)
 | 0 => by
  have no : ∀ vs H Q E, ¬ zdj K 0 vs H Q E := fun vs H Q E h => by
   obtain ⟨u, a, b, ns, ps, t, _, _, h1, _⟩ := h
   cases t <;> simp [Ts.dp] at h1
  exact ⟨fun vs H Q E h => absurd h (no vs H Q E), fun A outer s H args us vs Q E _ _ _ _ h => absurd h (no vs H Q E)⟩
 | n + 1 => by
  have G_law_true := zda T n
  have G_law_value := zbd (P := P) (w := w) (base := base) T n
  refine T.law_true.F.ok zbo (fun vs H Q E h => ?_) (fun cdv A outer s H vs Q E hr h => ?_)
  ·obtain ⟨u, a, b, ns, ps, s, rfl, _⟩ := h; rfl
  obtain ⟨u, a, b, ns, ps, t, rfl, hu, hd, hA, hB, hlen, hn, hg, q⟩ := h
  refine ⟨_, (zf (z0 (zj qi (zn zm (pv 0) zd (fun _ _ => rfl)) zi (zp _)) (zg (zr (zga (zk G_law_true hr rfl T.law_true.m T.law_true.F.kp T.law_true.b .nil zq (za (zn zm (pv 0) zd (fun _ _ => rfl)) (za (pv 1) (za (pv 2) zb))))))) zv)
  (zf (z0 (zj qi (zn zm (pv 0) zd (fun _ _ => rfl)) zi (zp _)) (zg (zr (ze5 (zk G_law_true hr rfl T.law_true.m T.law_true.F.kp T.law_true.b .nil zq (za (zn zm (pv 0) zd (fun _ _ => rfl)) (za (pv 1) (za (pv 2) zb)))) (ze3 (zk G_law_true hr rfl T.law_true.m T.law_true.F.kp T.law_true.b .nil zq (za (zn zm (pv 0) zd (fun _ _ => rfl)) (za (pv 1) (za (pv 2) zb)))))))) zv)
  (zf (zx (i := 3) zbo.nd rfl (Or.inl rfl) (zk G_law_value hr rfl T.law_value.m T.law_value.F.kp T.law_value.b .nil zq (za (zn zm (pv 0) zd (fun _ _ => rfl)) (za (pv 1) (za (pv 2) zb)))))
  (zf (zx (i := 4) zbo.nd rfl (Or.inl rfl) (zk G_law_value hr rfl T.law_value.m T.law_value.F.kp T.law_value.b .nil zq (za (zn zm (pv 0) zd (fun _ _ => rfl)) (za (pv 1) (za (pv 2) zb)))))
  (zf (z0 (zj qi (zn zm (pv 0) zd (fun _ _ => rfl)) zi (zp _)) (zg (zr (wu zbm (pv 3) (pv 4) (zp _)))) zv)
  (zg (zr (wu qi (pv 3) (pv 4) (zp _))))))))), ?_⟩
  try dsimp only[kx,kxb]
  cases hu with
  | @less c u v s t e h1 h2 =>
   have hd1 : max s.dp t.dp + 1 ≤ n + 1 := hd
   refine ⟨_, rfl, _, _, _, _, rfl, rfl, SqT.of e, at0, rfl, _, rfl, zo (by decide +kernel) ?_⟩
   refine ⟨_, rfl, _, _, _, _, rfl, rfl, SqT.of e, at0, rfl, _, rfl, zo (by decide +kernel) ?_⟩
   refine ⟨_, rfl, _, _, _, _, rfl, rfl, SqT.of e, rfl, _, rfl, _, rfl, ?_⟩
   refine ⟨u, a, b, ns, ps, s, rfl, h1, by omega, hA, hB, hlen, hn, hg.1, ?_⟩
   refine ⟨_, rfl, _, _, _, _, rfl, rfl, SqT.of e, rfl, _, rfl, _, rfl, ?_⟩
   refine ⟨v, a, b, ns, ps, t, rfl, h2, by omega, hA, hB, hlen, hn, hg.2.1, ?_⟩
   refine ⟨_, rfl, _, _, _, _, rfl, rfl, SqT.of e, at0, rfl, _, rfl, qj (by decide +kernel) ?_⟩
   exact ⟨_, rfl, _, rfl, _, _, rfl, rfl, q⟩
  | @same c u v s t e h1 h2 =>
   have hd1 : max s.dp t.dp + 1 ≤ n + 1 := hd
   refine ⟨_, rfl, _, _, _, _, rfl, rfl, SqT.of e, at0, rfl, _, rfl, zo (by decide +kernel) ?_⟩
   refine ⟨_, rfl, _, _, _, _, rfl, rfl, SqT.of e, at0, rfl, _, rfl, zo (by decide +kernel) ?_⟩
   refine ⟨_, rfl, _, _, _, _, rfl, rfl, SqT.of e, rfl, _, rfl, _, rfl, ?_⟩
   refine ⟨u, a, b, ns, ps, s, rfl, h1, by omega, hA, hB, hlen, hn, hg.1, ?_⟩
   refine ⟨_, rfl, _, _, _, _, rfl, rfl, SqT.of e, rfl, _, rfl, _, rfl, ?_⟩
   refine ⟨v, a, b, ns, ps, t, rfl, h2, by omega, hA, hB, hlen, hn, hg.2.1, ?_⟩
   refine ⟨_, rfl, _, _, _, _, rfl, rfl, SqT.of e, at0, rfl, _, rfl, zo (by decide +kernel) ?_⟩
   refine ⟨_, rfl, _, rfl, rfl, ?_⟩
   show Q (.bl (decide (V.int (s.val ns ps) = V.int (t.val ns ps)))) H
   rw [zcx]
   exact q
  | @not c u t e h1 =>
   have hd' : t.dp + 1 ≤ n + 1 := hd
   refine ⟨_, rfl, _, _, _, _, rfl, rfl, SqT.of e, at0, rfl, _, rfl, qj (by decide +kernel) ?_⟩
   refine ⟨_, rfl, _, _, _, _, rfl, rfl, SqT.of e, rfl, _, rfl, _, rfl, ?_⟩
   exact ⟨u, a, b, ns, ps, t, rfl, h1, by omega, hA, hB, hlen, hn, hg, _, rfl, q⟩
  | @both c u v s t e h1 h2 =>
   have hd' : max s.dp t.dp + 1 ≤ n + 1 := hd
   refine ⟨_, rfl, _, _, _, _, rfl, rfl, SqT.of e, at0, rfl, _, rfl, zo (by decide +kernel) ?_⟩
   refine ⟨_, rfl, _, _, _, _, rfl, rfl, SqT.of e, at0, rfl, _, rfl, qj (by decide +kernel) ?_⟩
   refine ⟨_, rfl, _, _, _, _, rfl, rfl, SqT.of e, rfl, _, rfl, _, rfl, ?_⟩
   refine ⟨u, a, b, ns, ps, s, rfl, h1, by omega, hA, hB, hlen, hn, hg.1, _, rfl, ?_⟩
   have q' : Q (.bl (s.val ns ps && t.val ns ps)) H := q
   refine ite2 (fun c => ?_) (fun c => ?_)
   ·refine ⟨_, rfl, _, _, _, _, rfl, rfl, SqT.of e, rfl, _, rfl, _, rfl, ?_⟩
    refine ⟨v, a, b, ns, ps, t, rfl, h2, by omega, hA, hB, hlen, hn, hg.2, ?_⟩
    rw [c, Bool.true_and] at q'
    exact q'
   ·rw [Bool.eq_false_iff.mpr c, Bool.false_and] at q'
    exact q'
end
open PySem L2 J
section
variable {P : Program} {w : World} {K : W.Frag} {mg : Str → Option Value} {base : Heap}
noncomputable def spCards (K : W.Frag) (n : Nat) : Sp := fun vs H Q _ => ∃ (u : V) (a : Addr) (ns : List Str) (s : Sm Str), vs = [u, .ref a] ∧ qy H u s ∧ s.dp ≤ n ∧ (s.cards ns).length ≤ 100000 ∧ SqL K H a (ns.map V.str) ∧ ns.length ≤ 1000 ∧ s.nm ns ∧
 ∀ p ws H', Same H H' → H p = none → H' p = some (.lst ws) → Cds H' ws (s.cards ns) → Q (.ref p) H'
theorem zbc (T : Txt K mg) : ∀ n : Nat, FnOk P w K mg base CX0 (n + 2) T.f_sum_cards T.fd_sum_cards ["part", "names"] (spCards K n)
 | 0 => by
  have no : ∀ vs H Q E, ¬ spCards K 0 vs H Q E := fun vs H Q E h => by
   obtain ⟨u, a, ns, s, _, _, h1, _⟩ := h
   cases s <;> simp [Sm.dp] at h1
  exact ⟨fun vs H Q E h => absurd h (no vs H Q E), fun A outer s H args us vs Q E _ _ _ _ h => absurd h (no vs H Q E)⟩
 | n + 1 => by
  have G_sum_cards := zbc T n
  have G_place_of := (zaj (P := P) (w := w) (base := base) T).mono (show 1 ≤ n + 2 by omega)
  refine T.sum_cards.F.ok zcq (fun vs H Q E h => ?_) (fun cdv A outer s H vs Q E hr h => ?_)
  ·obtain ⟨u, a, ns, s, rfl, _⟩ := h; rfl
  obtain ⟨u, a, ns, s, rfl, hu, hd, hc, hA, hn, hg, q⟩ := h
  have one : (1 : Nat) ≤ sizeLine := by decide
  have two : (2 : Nat) ≤ sizeLine := by decide
  refine ⟨_, (zf (zx (i := 2) zcq.nd rfl (Or.inl rfl) (zn zm (pv 0) zd (fun _ _ => rfl)))
  (zf (z0 (zj qi (pv 2) zi (zp _)) (zg (zr (ql (za (qb (za zi (za (zn zm (pv 0) zd (fun _ _ => rfl)) zb))) zb)))) zv)
  (zf (z0 (zj qi (pv 2) zi (zp _)) (zg (zr (ql (za (qb (za zi (za (zk G_place_of hr rfl T.place_of.m T.place_of.F.kp T.place_of.b .nil zq (za (pv 1) (za (zn zm (pv 0) zd (fun _ _ => rfl)) zb))) zb))) zb)))) zv)
  (zg (zr (zy qr (zy qr (zk G_sum_cards hr rfl T.sum_cards.m T.sum_cards.F.kp T.sum_cards.b .nil zq (za (zn zm (pv 0) zd (fun _ _ => rfl)) (za (pv 1) zb))) (zk G_sum_cards hr rfl T.sum_cards.m T.sum_cards.F.kp T.sum_cards.b .nil zq (za (zn zm (pv 0) zd (fun _ _ => rfl)) (za (pv 1) zb)))) (ql (za (qb (za (pv 2) zb)) zb)))))))), ?_⟩
  try dsimp only[kx,kxb]
  cases hu with
  | @num c i e =>
   refine ⟨_, rfl, _, _, _, _, rfl, rfl, SqT.of e, rfl, ?_⟩
   refine ⟨_, rfl, rfl, _, rfl, qj (by decide +kernel) ?_⟩
   refine ⟨_, rfl, _, _, _, _, rfl, rfl, SqT.of e, rfl, two, fun t ht => ⟨one, fun p hp => ?_⟩⟩
   have S1 : Same H (upd H t (.tup [.str "push", .int i])) := ze ht _
   have S2 : Same (upd H t (.tup [.str "push", .int i])) (upd (upd H t (.tup [.str "push", .int i])) p (.lst [.ref t])) := ze hp _
   exact q p _ _ (S1.trans S2) (S1.free hp) zc (Cds.one (c := .push i) (S2 _ _ zc))
  | @name c x e =>
   obtain ⟨i, hi⟩ := j7 (show x ∈ ns from hg)
   refine ⟨_, rfl, _, _, _, _, rfl, rfl, SqT.of e, rfl, ?_⟩
   refine xi rfl (by decide +kernel) ?_ rfl
   refine ⟨_, rfl, rfl, _, rfl, qj (by decide +kernel) ?_⟩
   refine ⟨_, rfl, _, rfl, _, _, _, _, rfl, rfl, SqT.of e, rfl, ?_⟩
   refine ⟨a, ns, x, i, rfl, hA, hn, hi, two, fun t ht => ⟨one, fun p hp => ?_⟩⟩
   have S1 : Same H (upd H t (.tup [.str "load", .int i])) := ze ht _
   have S2 : Same (upd H t (.tup [.str "load", .int i])) (upd (upd H t (.tup [.str "load", .int i])) p (.lst [.ref t])) := ze hp _
   refine q p _ _ (S1.trans S2) (S1.free hp) zc ?_
   show Cds _ _ [.load (((xq ns x).getD 0 : Nat) : Int)]
   rw [hi]
   exact Cds.one (c := .load i) (S2 _ _ zc)
  | @op c o u v s t e h1 h2 =>
   have hd1 : s.dp ≤ n ∧ t.dp ≤ n := by
    have : max s.dp t.dp + 1 ≤ n + 1 := hd
    omega
   have hc' : (s.cards ns ++ t.cards ns ++ [Cd.op o]).length ≤ 100000 := hc
   simp only [List.length_append, List.length_cons, List.length_nil] at hc'
   refine ⟨_, rfl, _, _, _, _, rfl, rfl, SqT.of e, rfl, ?_⟩
   refine ⟨_, rfl, rfl, _, rfl, zo (by cases o <;> decide +kernel) ?_⟩
   refine ⟨_, rfl, rfl, _, rfl, zo (by cases o <;> decide +kernel) ?_⟩
   refine ⟨_, rfl, _, _, _, _, rfl, rfl, SqT.of e, rfl, _, rfl, ?_⟩
   refine ⟨u, a, ns, s, rfl, h1, hd1.1, by omega, hA, hn, hg.1, fun p1 ws1 H1 S1 f1 e1 c1 => ?_⟩
   refine ⟨_, rfl, _, _, _, _, rfl, rfl, SqT.of (S1 _ _ e), rfl, _, rfl, ?_⟩
   refine ⟨v, a, ns, t, rfl, h2.mono S1.tup, hd1.2, by omega, S1.seq hA, hn, hg.2, fun p2 ws2 H2 S2 f2 e2 c2 => ?_⟩
   have l1 := c1.len
   have l2 := c2.len
   refine ⟨p1, p2, ws1, ws2, rfl, rfl, S2 _ _ e1, e2, by rw [sizeLine_eq]; omega, fun p3 hp3 => ?_⟩
   have S3 : Same H2 (upd H2 p3 (.lst (ws1 ++ ws2))) := ze hp3 _
   have e3 : upd H2 p3 (.lst (ws1 ++ ws2)) p3 = some (.lst (ws1 ++ ws2)) := zc
   have c3 : Cds (upd H2 p3 (.lst (ws1 ++ ws2))) (ws1 ++ ws2) (s.cards ns ++ t.cards ns) := (Cds.app (c1.mono S2.tup) c2).mono S3.tup
   have SS := S1.trans (S2.trans S3)
   generalize upd H2 p3 (.lst (ws1 ++ ws2)) = H3 at S3 e3 c3 SS
   refine ⟨_, rfl, one, fun t1 ht1 => ⟨one, fun p4 hp4 => ?_⟩⟩
   have S4 : Same H3 (upd H3 t1 (.tup [.str o.w])) := ze ht1 _
   have S5 : Same (upd H3 t1 (.tup [.str o.w])) (upd (upd H3 t1 (.tup [.str o.w])) p4 (.lst [.ref t1])) := ze hp4 _
   have S45 := S4.trans S5
   have e4 : upd (upd H3 t1 (.tup [.str o.w])) p4 (.lst [.ref t1]) p4 = some (.lst [.ref t1]) := zc
   have c4 : Cds (upd (upd H3 t1 (.tup [.str o.w])) p4 (.lst [.ref t1])) [.ref t1] [Cd.op o] := Cds.one (S5 _ _ zc)
   generalize upd (upd H3 t1 (.tup [.str o.w])) p4 (.lst [.ref t1]) = H5 at S45 e4 c4
   refine ⟨p3, p4, ws1 ++ ws2, [.ref t1], rfl, rfl, S45 _ _ e3, e4, by rw [sizeLine_eq, List.length_append]; show _ + 1 ≤ _; omega, fun p5 hp5 => ?_⟩
   have S6 : Same H5 (upd H5 p5 (.lst (ws1 ++ ws2 ++ [.ref t1]))) := ze hp5 _
   exact q p5 _ _ (SS.trans (S45.trans S6)) ((SS.trans S45).free hp5) zc ((Cds.app (c3.mono S45.tup) c4).mono S6.tup)
noncomputable def spBothC : Sp := fun vs H Q _ => ∃ (p1 p2 : Addr) (ws1 ws2 : List V) (c1 c2 : List Cd), vs = [.ref p1, .ref p2] ∧ H p1 = some (.lst ws1) ∧ H p2 = some (.lst ws2) ∧ Cds H ws1 c1 ∧ Cds H ws2 c2 ∧ c1.length + c2.length ≤ 200000 ∧
 ∀ p ws H', Same H H' → H p = none → H' p = some (.lst ws) → Cds H' ws (c1 ++ [.fork ((c2.length : Int) + 1)] ++ c2 ++ [.skip 1, .push 0]) → Q (.ref p) H'
theorem ok_both_cards (T : Txt K mg) : FnOk P w K mg base CX0 1 T.f_both_cards T.fd_both_cards ["first", "second"] spBothC := by
 refine T.both_cards.F.ok sc_both_cards (fun vs H Q E h => ?_) (fun cdv A outer s H vs Q E hr h => ?_)
 ·obtain ⟨p1, p2, ws1, ws2, c1, c2, rfl, _⟩ := h; rfl
 obtain ⟨p1, p2, ws1, ws2, cs1, cs2, rfl, e1', e2', c1, c2, hl, q⟩ := h
 have one : (1 : Nat) ≤ sizeLine := by decide
 have two : (2 : Nat) ≤ sizeLine := by decide
 refine ⟨_, (zg (zr (zy qr (zy qr (zy qr (pv 0) (ql (za (qb (za zi (za (zy jg (qk qa rfl T.b_len PySem.boot_len (za (pv 1) zb)) zd) zb))) zb))) (pv 1)) (ql (za (qb (za zi (za zd zb))) (za (qb (za zi (za zd zb))) zb)))))), ?_⟩
 try dsimp only[kx,kxb]
 have l1 := c1.len
 have l2 := c2.len
 refine ⟨_, rfl, _, rfl, _, _, rfl, .inl (SqL.of e2'), _, _, rfl, rfl, two, fun t1 ht1 => ⟨one, fun p4 hp4 => ?_⟩⟩
 have eL : ((ws2.length : Nat) : Int) + 1 = (cs2.length : Int) + 1 := by rw [l2]
 have S4 : Same H (upd H t1 (.tup [.str "fork", .int ((ws2.length : Int) + 1)])) := ze ht1 _
 have S5 : Same (upd H t1 (.tup [.str "fork", .int ((ws2.length : Int) + 1)])) (upd (upd H t1 (.tup [.str "fork", .int ((ws2.length : Int) + 1)])) p4 (.lst [.ref t1])) := ze hp4 _
 have S45 := S4.trans S5
 have e4 : upd (upd H t1 (.tup [.str "fork", .int ((ws2.length : Int) + 1)])) p4 (.lst [.ref t1]) p4 = some (.lst [.ref t1]) := zc
 have c4 : Cds (upd (upd H t1 (.tup [.str "fork", .int ((ws2.length : Int) + 1)])) p4 (.lst [.ref t1])) [.ref t1] [Cd.fork ((cs2.length : Int) + 1)] := by
  rw [← eL]
  exact Cds.one (S5 _ _ zc)
 generalize upd (upd H t1 (.tup [.str "fork", .int ((ws2.length : Int) + 1)])) p4 (.lst [.ref t1]) = H5 at S45 e4 c4
 refine ⟨p1, p4, ws1, [.ref t1], rfl, rfl, S45 _ _ e1', e4, by rw [sizeLine_eq]; show _ + 1 ≤ _; omega, fun p5 hp5 => ?_⟩
 have S6 : Same H5 (upd H5 p5 (.lst (ws1 ++ [.ref t1]))) := ze hp5 _
 have e6 : upd H5 p5 (.lst (ws1 ++ [.ref t1])) p5 = some (.lst (ws1 ++ [.ref t1])) := zc
 have SS := S45.trans S6
 have c6 := (Cds.app (c1.mono S45.tup) c4).mono S6.tup
 generalize upd H5 p5 (.lst (ws1 ++ [.ref t1])) = H6 at e6 SS c6
 refine ⟨_, rfl, ?_⟩
 refine ⟨p5, p2, _, ws2, rfl, rfl, e6, SS _ _ e2', by rw [sizeLine_eq, List.length_append]; show _ + 1 + _ ≤ _; omega, fun p6 hp6 => ?_⟩
 have S7 : Same H6 (upd H6 p6 (.lst (ws1 ++ [.ref t1] ++ ws2))) := ze hp6 _
 have e7 : upd H6 p6 (.lst (ws1 ++ [.ref t1] ++ ws2)) p6 = some (.lst (ws1 ++ [.ref t1] ++ ws2)) := zc
 have c7 := (Cds.app c6 (c2.mono SS.tup)).mono S7.tup
 have SS7 := SS.trans S7
 generalize upd H6 p6 (.lst (ws1 ++ [.ref t1] ++ ws2)) = H7 at e7 c7 SS7
 refine ⟨two, fun ta hta => ⟨two, fun tb htb => ⟨two, fun p8 hp8 => ?_⟩⟩⟩
 have S8 : Same H7 (upd H7 ta (.tup [.str "skip", .int 1])) := ze hta _
 have S9 : Same (upd H7 ta (.tup [.str "skip", .int 1])) (upd (upd H7 ta (.tup [.str "skip", .int 1])) tb (.tup [.str "push", .int 0])) := ze htb _
 have S10 : Same (upd (upd H7 ta (.tup [.str "skip", .int 1])) tb (.tup [.str "push", .int 0])) (upd (upd (upd H7 ta (.tup [.str "skip", .int 1])) tb (.tup [.str "push", .int 0])) p8 (.lst [.ref ta, .ref tb])) := ze hp8 _
 have S810 := S8.trans (S9.trans S10)
 have e10 : upd (upd (upd H7 ta (.tup [.str "skip", .int 1])) tb (.tup [.str "push", .int 0])) p8 (.lst [.ref ta, .ref tb]) p8 = some (.lst [.ref ta, .ref tb]) := zc
 have c10 : Cds (upd (upd (upd H7 ta (.tup [.str "skip", .int 1])) tb (.tup [.str "push", .int 0])) p8 (.lst [.ref ta, .ref tb])) [.ref ta, .ref tb] [Cd.skip 1, Cd.push 0] :=
  .cons ⟨ta, rfl, S10 _ _ (S9 _ _ zc)⟩ (.cons ⟨tb, rfl, S10 _ _ zc⟩ .nil)
 generalize upd (upd (upd H7 ta (.tup [.str "skip", .int 1])) tb (.tup [.str "push", .int 0])) p8 (.lst [.ref ta, .ref tb]) = H10 at S810 e10 c10
 refine ⟨p6, p8, _, [.ref ta, .ref tb], rfl, rfl, S810 _ _ e7, e10, by rw [sizeLine_eq, List.length_append, List.length_append]; show _ + 1 + _ + 2 ≤ _; omega, fun p11 hp11 => ?_⟩
 have S11 : Same H10 (upd H10 p11 (.lst (ws1 ++ [.ref t1] ++ ws2 ++ [.ref ta, .ref tb]))) := ze hp11 _
 exact q p11 _ _ (SS7.trans (S810.trans S11)) ((SS7.trans S810).free hp11) zc ((Cds.app (c7.mono S810.tup) c10).mono S11.tup)
noncomputable def zfk (K : W.Frag) (n : Nat) : Sp := fun vs H Q _ => ∃ (u : V) (a : Addr) (ns : List Str) (s : Ts), vs = [u, .ref a] ∧ qu H u s ∧ s.dp ≤ n ∧ (s.cards ns).length ≤ 100000 ∧ SqL K H a (ns.map V.str) ∧ ns.length ≤ 1000 ∧ s.nm ns ∧
 ∀ p ws H', Same H H' → H p = none → H' p = some (.lst ws) → Cds H' ws (s.cards ns) → Q (.ref p) H'
theorem zca (T : Txt K mg) : ∀ n : Nat, FnOk P w K mg base CX0 (n + 2) T.f_test_cards T.fd_test_cards ["test", "names"] (zfk K n)
 | 0 => by
  have no : ∀ vs H Q E, ¬ zfk K 0 vs H Q E := fun vs H Q E h => by
   obtain ⟨u, a, ns, s, _, _, h1, _⟩ := h
   cases s <;> simp [Ts.dp] at h1
  exact ⟨fun vs H Q E h => absurd h (no vs H Q E), fun A outer s H args us vs Q E _ _ _ _ h => absurd h (no vs H Q E)⟩
 | n + 1 => by
  have G_test_cards := zca T n
  have G_sum_cards := zbc (P := P) (w := w) (base := base) T n
  have G_both_cards := (ok_both_cards (P := P) (w := w) (base := base) T).mono (show 1 ≤ n + 2 by omega)
  refine T.test_cards.F.ok zb8 (fun vs H Q E h => ?_) (fun cdv A outer s H vs Q E hr h => ?_)
  ·obtain ⟨u, a, ns, s, rfl, _⟩ := h; rfl
  obtain ⟨u, a, ns, s, rfl, hu, hd, hc, hA, hn, hg, q⟩ := h
  have one : (1 : Nat) ≤ sizeLine := by decide
  have two : (2 : Nat) ≤ sizeLine := by decide
  refine ⟨_, (zf (zx (i := 2) zb8.nd rfl (Or.inl rfl) (zn zm (pv 0) zd (fun _ _ => rfl)))
  (zf (z0 (zj qi (pv 2) zi (zp _)) (zg (zr (zy qr (zk G_test_cards hr rfl T.test_cards.m T.test_cards.F.kp T.test_cards.b .nil zq (za (zn zm (pv 0) zd (fun _ _ => rfl)) (za (pv 1) zb))) (ql (za (qb (za zi zb)) zb))))) zv)
  (zf (z0 (zj qi (pv 2) zi (zp _)) (zg (zr (zk G_both_cards hr rfl T.both_cards.m T.both_cards.F.kp T.both_cards.b .nil zq (za (zk G_test_cards hr rfl T.test_cards.m T.test_cards.F.kp T.test_cards.b .nil zq (za (zn zm (pv 0) zd (fun _ _ => rfl)) (za (pv 1) zb))) (za (zk G_test_cards hr rfl T.test_cards.m T.test_cards.F.kp T.test_cards.b .nil zq (za (zn zm (pv 0) zd (fun _ _ => rfl)) (za (pv 1) zb))) zb))))) zv)
  (zg (zr (zy qr (zy qr (zk G_sum_cards hr rfl T.sum_cards.m T.sum_cards.F.kp T.sum_cards.b .nil zq (za (zn zm (pv 0) zd (fun _ _ => rfl)) (za (pv 1) zb))) (zk G_sum_cards hr rfl T.sum_cards.m T.sum_cards.F.kp T.sum_cards.b .nil zq (za (zn zm (pv 0) zd (fun _ _ => rfl)) (za (pv 1) zb)))) (ql (za (qb (za (pv 2) zb)) zb)))))))), ?_⟩
  try dsimp only[kx,kxb]
  cases hu with
  | @less c u v s t e h1 h2 =>
   have hd1 : s.dp ≤ n ∧ t.dp ≤ n := by
    have : max s.dp t.dp + 1 ≤ n + 1 := hd
    omega
   have hc' : (s.cards ns ++ t.cards ns ++ [Cd.less]).length ≤ 100000 := hc
   simp only [List.length_append, List.length_cons, List.length_nil] at hc'
   refine ⟨_, rfl, _, _, _, _, rfl, rfl, SqT.of e, rfl, ?_⟩
   refine xi rfl (by decide +kernel) ?_ rfl
   refine xi rfl (by decide +kernel) ?_ rfl
   refine ⟨_, rfl, _, _, _, _, rfl, rfl, SqT.of e, rfl, _, rfl, ?_⟩
   refine ⟨u, a, ns, s, rfl, h1, hd1.1, by omega, hA, hn, hg.1, fun p1 ws1 H1 S1 f1 e1 c1 => ?_⟩
   refine ⟨_, rfl, _, _, _, _, rfl, rfl, SqT.of (S1 _ _ e), rfl, _, rfl, ?_⟩
   refine ⟨v, a, ns, t, rfl, h2.mono S1.tup, hd1.2, by omega, S1.seq hA, hn, hg.2, fun p2 ws2 H2 S2 f2 e2 c2 => ?_⟩
   have l1 := c1.len
   have l2 := c2.len
   refine ⟨p1, p2, ws1, ws2, rfl, rfl, S2 _ _ e1, e2, by rw [sizeLine_eq]; omega, fun p3 hp3 => ?_⟩
   have S3 : Same H2 (upd H2 p3 (.lst (ws1 ++ ws2))) := ze hp3 _
   have e3 : upd H2 p3 (.lst (ws1 ++ ws2)) p3 = some (.lst (ws1 ++ ws2)) := zc
   have c3 : Cds (upd H2 p3 (.lst (ws1 ++ ws2))) (ws1 ++ ws2) (s.cards ns ++ t.cards ns) := (Cds.app (c1.mono S2.tup) c2).mono S3.tup
   have SS := S1.trans (S2.trans S3)
   generalize upd H2 p3 (.lst (ws1 ++ ws2)) = H3 at S3 e3 c3 SS
   refine ⟨_, rfl, one, fun t1 ht1 => ⟨one, fun p4 hp4 => ?_⟩⟩
   have S4 : Same H3 (upd H3 t1 (.tup [.str "less"])) := ze ht1 _
   have S5 : Same (upd H3 t1 (.tup [.str "less"])) (upd (upd H3 t1 (.tup [.str "less"])) p4 (.lst [.ref t1])) := ze hp4 _
   have S45 := S4.trans S5
   have e4 : upd (upd H3 t1 (.tup [.str "less"])) p4 (.lst [.ref t1]) p4 = some (.lst [.ref t1]) := zc
   have c4 : Cds (upd (upd H3 t1 (.tup [.str "less"])) p4 (.lst [.ref t1])) [.ref t1] [Cd.less] := Cds.one (S5 _ _ zc)
   generalize upd (upd H3 t1 (.tup [.str "less"])) p4 (.lst [.ref t1]) = H5 at S45 e4 c4
   refine ⟨p3, p4, ws1 ++ ws2, [.ref t1], rfl, rfl, S45 _ _ e3, e4, by rw [sizeLine_eq, List.length_append]; show _ + 1 ≤ _; omega, fun p5 hp5 => ?_⟩
   have S6 : Same H5 (upd H5 p5 (.lst (ws1 ++ ws2 ++ [.ref t1]))) := ze hp5 _
   exact q p5 _ _ (SS.trans (S45.trans S6)) ((SS.trans S45).free hp5) zc ((Cds.app (c3.mono S45.tup) c4).mono S6.tup)
  | @same c u v s t e h1 h2 =>
   have hd1 : s.dp ≤ n ∧ t.dp ≤ n := by
    have : max s.dp t.dp + 1 ≤ n + 1 := hd
    omega
   have hc' : (s.cards ns ++ t.cards ns ++ [Cd.same]).length ≤ 100000 := hc
   simp only [List.length_append, List.length_cons, List.length_nil] at hc'
   refine ⟨_, rfl, _, _, _, _, rfl, rfl, SqT.of e, rfl, ?_⟩
   refine xi rfl (by decide +kernel) ?_ rfl
   refine xi rfl (by decide +kernel) ?_ rfl
   refine ⟨_, rfl, _, _, _, _, rfl, rfl, SqT.of e, rfl, _, rfl, ?_⟩
   refine ⟨u, a, ns, s, rfl, h1, hd1.1, by omega, hA, hn, hg.1, fun p1 ws1 H1 S1 f1 e1 c1 => ?_⟩
   refine ⟨_, rfl, _, _, _, _, rfl, rfl, SqT.of (S1 _ _ e), rfl, _, rfl, ?_⟩
   refine ⟨v, a, ns, t, rfl, h2.mono S1.tup, hd1.2, by omega, S1.seq hA, hn, hg.2, fun p2 ws2 H2 S2 f2 e2 c2 => ?_⟩
   have l1 := c1.len
   have l2 := c2.len
   refine ⟨p1, p2, ws1, ws2, rfl, rfl, S2 _ _ e1, e2, by rw [sizeLine_eq]; omega, fun p3 hp3 => ?_⟩
   have S3 : Same H2 (upd H2 p3 (.lst (ws1 ++ ws2))) := ze hp3 _
   have e3 : upd H2 p3 (.lst (ws1 ++ ws2)) p3 = some (.lst (ws1 ++ ws2)) := zc
   have c3 : Cds (upd H2 p3 (.lst (ws1 ++ ws2))) (ws1 ++ ws2) (s.cards ns ++ t.cards ns) := (Cds.app (c1.mono S2.tup) c2).mono S3.tup
   have SS := S1.trans (S2.trans S3)
   generalize upd H2 p3 (.lst (ws1 ++ ws2)) = H3 at S3 e3 c3 SS
   refine ⟨_, rfl, one, fun t1 ht1 => ⟨one, fun p4 hp4 => ?_⟩⟩
   have S4 : Same H3 (upd H3 t1 (.tup [.str "same"])) := ze ht1 _
   have S5 : Same (upd H3 t1 (.tup [.str "same"])) (upd (upd H3 t1 (.tup [.str "same"])) p4 (.lst [.ref t1])) := ze hp4 _
   have S45 := S4.trans S5
   have e4 : upd (upd H3 t1 (.tup [.str "same"])) p4 (.lst [.ref t1]) p4 = some (.lst [.ref t1]) := zc
   have c4 : Cds (upd (upd H3 t1 (.tup [.str "same"])) p4 (.lst [.ref t1])) [.ref t1] [Cd.same] := Cds.one (S5 _ _ zc)
   generalize upd (upd H3 t1 (.tup [.str "same"])) p4 (.lst [.ref t1]) = H5 at S45 e4 c4
   refine ⟨p3, p4, ws1 ++ ws2, [.ref t1], rfl, rfl, S45 _ _ e3, e4, by rw [sizeLine_eq, List.length_append]; show _ + 1 ≤ _; omega, fun p5 hp5 => ?_⟩
   have S6 : Same H5 (upd H5 p5 (.lst (ws1 ++ ws2 ++ [.ref t1]))) := ze hp5 _
   exact q p5 _ _ (SS.trans (S45.trans S6)) ((SS.trans S45).free hp5) zc ((Cds.app (c3.mono S45.tup) c4).mono S6.tup)
  | @not c u t e h1 =>
   have hd1 : t.dp + 1 ≤ n + 1 := hd
   have hc' : (t.cards ns ++ [Cd.flip]).length ≤ 100000 := hc
   simp only [List.length_append, List.length_cons, List.length_nil] at hc'
   refine ⟨_, rfl, _, _, _, _, rfl, rfl, SqT.of e, rfl, ?_⟩
   refine ⟨_, rfl, rfl, _, rfl, qj (by decide +kernel) ?_⟩
   refine ⟨_, rfl, _, _, _, _, rfl, rfl, SqT.of e, rfl, _, rfl, ?_⟩
   refine ⟨u, a, ns, t, rfl, h1, by omega, by omega, hA, hn, hg, fun p1 ws1 H1 S1 f1 e1 c1 => ?_⟩
   have l1 := c1.len
   refine ⟨one, fun t1 ht1 => ⟨one, fun p4 hp4 => ?_⟩⟩
   have S4 : Same H1 (upd H1 t1 (.tup [.str "flip"])) := ze ht1 _
   have S5 : Same (upd H1 t1 (.tup [.str "flip"])) (upd (upd H1 t1 (.tup [.str "flip"])) p4 (.lst [.ref t1])) := ze hp4 _
   have S45 := S4.trans S5
   have e4 : upd (upd H1 t1 (.tup [.str "flip"])) p4 (.lst [.ref t1]) p4 = some (.lst [.ref t1]) := zc
   have c4 : Cds (upd (upd H1 t1 (.tup [.str "flip"])) p4 (.lst [.ref t1])) [.ref t1] [Cd.flip] := Cds.one (S5 _ _ zc)
   generalize upd (upd H1 t1 (.tup [.str "flip"])) p4 (.lst [.ref t1]) = H5 at S45 e4 c4
   refine ⟨p1, p4, ws1, [.ref t1], rfl, rfl, S45 _ _ e1, e4, by rw [sizeLine_eq]; show _ + 1 ≤ _; omega, fun p5 hp5 => ?_⟩
   have S6 : Same H5 (upd H5 p5 (.lst (ws1 ++ [.ref t1]))) := ze hp5 _
   exact q p5 _ _ (S1.trans (S45.trans S6)) ((S1.trans S45).free hp5) zc ((Cds.app (c1.mono S45.tup) c4).mono S6.tup)
  | @both c u v s t e h1 h2 =>
   have hd1 : max s.dp t.dp + 1 ≤ n + 1 := hd
   have hc' : (s.cards ns ++ [Cd.fork (((t.cards ns).length : Int) + 1)] ++ t.cards ns ++ [Cd.skip 1, Cd.push 0]).length ≤ 100000 := hc
   simp only [List.length_append, List.length_cons, List.length_nil] at hc'
   refine ⟨_, rfl, _, _, _, _, rfl, rfl, SqT.of e, rfl, ?_⟩
   refine xi rfl (by decide +kernel) ?_ rfl
   refine ⟨_, rfl, rfl, _, rfl, qj (by decide +kernel) ?_⟩
   refine ⟨_, rfl, _, _, _, _, rfl, rfl, SqT.of e, rfl, _, rfl, ?_⟩
   refine ⟨u, a, ns, s, rfl, h1, by omega, by omega, hA, hn, hg.1, fun p1 ws1 H1 S1 f1 e1 c1 => ?_⟩
   refine ⟨_, rfl, _, _, _, _, rfl, rfl, SqT.of (S1 _ _ e), rfl, _, rfl, ?_⟩
   refine ⟨v, a, ns, t, rfl, h2.mono S1.tup, by omega, by omega, S1.seq hA, hn, hg.2, fun p2 ws2 H2 S2 f2 e2 c2 => ?_⟩
   refine ⟨p1, p2, ws1, ws2, _, _, rfl, S2 _ _ e1, e2, c1.mono S2.tup, c2, by omega, fun p3 ws3 H3 S3 f3 e3 c3 => ?_⟩
   exact q p3 _ _ (S1.trans (S2.trans S3)) ((S1.trans S2).free f3) e3 c3
end
open PySem L2 J
section
variable {P : Program} {w : World} {K : W.Frag} {mg : Str → Option Value} {base : Heap}
theorem mxh3 {a b c n : Nat} (h : max (max (a + 1) (b + 1)) c ≤ n + 1) : a ≤ n ∧ b ≤ n ∧ c ≤ n + 1 := by omega
theorem mxh2 {a c n : Nat} (h : max (a + 1) c ≤ n + 1) : a ≤ n ∧ c ≤ n + 1 := by omega
noncomputable def spWhenC : Sp := fun vs H Q _ => ∃ (p0 p1 p2 : Addr) (ws0 ws1 ws2 : List V) (c0 c1 c2 : List Cd), vs = [.ref p0, .ref p1, .ref p2] ∧ H p0 = some (.lst ws0) ∧ H p1 = some (.lst ws1) ∧ H p2 = some (.lst ws2) ∧ Cds H ws0 c0 ∧ Cds H ws1 c1 ∧ Cds H ws2 c2 ∧ c0.length + c1.length + c2.length ≤ 2000000 ∧
 ∀ p ws H', Same H H' → H p = none → H' p = some (.lst ws) → Cds H' ws (vm c0 c1 c2) → Q (.ref p) H'
noncomputable def spWhilC : Sp := fun vs H Q _ => ∃ (p0 p1 : Addr) (ws0 ws1 : List V) (c0 c1 : List Cd), vs = [.ref p0, .ref p1] ∧ H p0 = some (.lst ws0) ∧ H p1 = some (.lst ws1) ∧ Cds H ws0 c0 ∧ Cds H ws1 c1 ∧ c0.length + c1.length ≤ 2000000 ∧
 ∀ p ws H', Same H H' → H p = none → H' p = some (.lst ws) → Cds H' ws (ko c0 c1) → Q (.ref p) H'
theorem ok_when_cards (T : Txt K mg) : FnOk P w K mg base CX0 1 T.f_when_cards T.fd_when_cards ["test", "first", "second"] spWhenC := by
 refine T.when_cards.F.ok sc_when_cards (fun vs H Q E h => ?_) (fun cdv A outer s H vs Q E hr h => ?_)
 ·obtain ⟨p0, p1, p2, ws0, ws1, ws2, c0, c1, c2, rfl, _⟩ := h; rfl
 obtain ⟨p0, p1, p2, ws0, ws1, ws2, cs0, cs1, cs2, rfl, e0, e1, e2, c0, c1, c2, hl, q⟩ := h
 have one : (1 : Nat) ≤ sizeLine := by decide
 have two : (2 : Nat) ≤ sizeLine := by decide
 refine ⟨_, (zg (zr (zy qr (zy qr (zy qr (zy qr (pv 0) (ql (za (qb (za zi (za (zy jg (qk qa rfl T.b_len PySem.boot_len (za (pv 1) zb)) zd) zb))) zb))) (pv 1)) (ql (za (qb (za zi (za (qk qa rfl T.b_len PySem.boot_len (za (pv 2) zb)) zb))) zb))) (pv 2)))), ?_⟩
 try dsimp only[kx,kxb]
 have l0 := c0.len
 have l1 := c1.len
 have l2 := c2.len
 refine ⟨_, rfl, _, rfl, _, _, rfl, .inl (SqL.of e1), _, _, rfl, rfl, two, fun t1 ht1 => ⟨one, fun p4 hp4 => ?_⟩⟩
 obtain ⟨S1, f1, d1⟩ := oneL (.fork ((cs1.length : Int) + 1)) ht1 hp4 (by rw [← l1]; rfl)
 refine ⟨p0, p4, ws0, [.ref t1], rfl, rfl, S1 _ _ e0, f1, by rw [sizeLine_eq]; show _ + 1 ≤ _; omega, fun p5 hp5 => ?_⟩
 obtain ⟨S2, f2, d2⟩ := catL hp5 (c0.mono S1.tup) d1
 have S12 := S1.trans S2
 refine ⟨_, rfl, ?_⟩
 refine ⟨p5, p1, _, ws1, rfl, rfl, f2, S12 _ _ e1, by rw [sizeLine_eq, List.length_append]; show _ + 1 + _ ≤ _; omega, fun p6 hp6 => ?_⟩
 obtain ⟨S3, f3, d3⟩ := catL hp6 d2 (c1.mono S12.tup)
 have S13 := S12.trans S3
 refine ⟨_, rfl, _, _, rfl, .inl (SqL.of (S13 _ _ e2)), two, fun t2 ht2 => ⟨one, fun p7 hp7 => ?_⟩⟩
 obtain ⟨S4, f4, d4⟩ := oneL (.skip (cs2.length : Int)) ht2 hp7 (by rw [← l2]; rfl)
 refine ⟨p6, p7, _, [.ref t2], rfl, rfl, S4 _ _ f3, f4, by rw [sizeLine_eq, List.length_append, List.length_append]; show _ + 1 + _ + 1 ≤ _; omega, fun p8 hp8 => ?_⟩
 obtain ⟨S5, f5, d5⟩ := catL hp8 (d3.mono S4.tup) d4
 have S15 := S13.trans (S4.trans S5)
 refine ⟨_, rfl, ?_⟩
 refine ⟨p8, p2, _, ws2, rfl, rfl, f5, S15 _ _ e2, by rw [sizeLine_eq, List.length_append, List.length_append, List.length_append]; show _ + 1 + _ + 1 + _ ≤ _; omega, fun p9 hp9 => ?_⟩
 obtain ⟨S6, f6, d6⟩ := catL hp9 d5 (c2.mono S15.tup)
 exact q p9 _ _ (S15.trans S6) (S15.free hp9) f6 d6
theorem ok_while_cards (T : Txt K mg) : FnOk P w K mg base CX0 1 T.f_while_cards T.fd_while_cards ["test", "inner"] spWhilC := by
 refine T.while_cards.F.ok sc_while_cards (fun vs H Q E h => ?_) (fun cdv A outer s H vs Q E hr h => ?_)
 ·obtain ⟨p0, p1, ws0, ws1, c0, c1, rfl, _⟩ := h; rfl
 obtain ⟨p0, p1, ws0, ws1, cs0, cs1, rfl, e0, e1, c0, c1, hl, q⟩ := h
 have one : (1 : Nat) ≤ sizeLine := by decide
 have two : (2 : Nat) ≤ sizeLine := by decide
 refine ⟨_, (zg (zr (zy qr (zy qr (zy qr (pv 0) (ql (za (qb (za zi (za (zy jg (qk qa rfl T.b_len PySem.boot_len (za (pv 1) zb)) zd) zb))) zb))) (pv 1)) (ql (za (qb (za zi (za (zy jg (zy jg (qk qa rfl T.b_len PySem.boot_len (za (pv 0) zb)) zd) (qk qa rfl T.b_len PySem.boot_len (za (pv 1) zb))) zb))) zb))))), ?_⟩
 try dsimp only[kx,kxb]
 have l0 := c0.len
 have l1 := c1.len
 refine ⟨_, rfl, _, rfl, _, _, rfl, .inl (SqL.of e1), _, _, rfl, rfl, two, fun t1 ht1 => ⟨one, fun p4 hp4 => ?_⟩⟩
 obtain ⟨S1, f1, d1⟩ := oneL (.fork ((cs1.length : Int) + 1)) ht1 hp4 (by rw [← l1]; rfl)
 refine ⟨p0, p4, ws0, [.ref t1], rfl, rfl, S1 _ _ e0, f1, by rw [sizeLine_eq]; show _ + 1 ≤ _; omega, fun p5 hp5 => ?_⟩
 obtain ⟨S2, f2, d2⟩ := catL hp5 (c0.mono S1.tup) d1
 have S12 := S1.trans S2
 refine ⟨_, rfl, ?_⟩
 refine ⟨p5, p1, _, ws1, rfl, rfl, f2, S12 _ _ e1, by rw [sizeLine_eq, List.length_append]; show _ + 1 + _ ≤ _; omega, fun p6 hp6 => ?_⟩
 obtain ⟨S3, f3, d3⟩ := catL hp6 d2 (c1.mono S12.tup)
 have S13 := S12.trans S3
 refine ⟨_, rfl, _, _, rfl, .inl (SqL.of (S13 _ _ e0)), _, _, rfl, rfl, _, rfl, _, _, rfl, .inl (SqL.of (S13 _ _ e1)), _, _, rfl, rfl, two, fun t2 ht2 => ⟨one, fun p7 hp7 => ?_⟩⟩
 obtain ⟨S4, f4, d4⟩ := oneL (.back ((cs0.length : Int) + 1 + (cs1.length : Int))) ht2 hp7 (by rw [← l0, ← l1]; rfl)
 refine ⟨p6, p7, _, [.ref t2], rfl, rfl, S4 _ _ f3, f4, by rw [sizeLine_eq, List.length_append, List.length_append]; show _ + 1 + _ + 1 ≤ _; omega, fun p8 hp8 => ?_⟩
 obtain ⟨S5, f5, d5⟩ := catL hp8 (d3.mono S4.tup) d4
 have S15 := S13.trans (S4.trans S5)
 exact q p8 _ _ S15 ((S13.trans S4).free hp8) f5 d5
noncomputable def zfm (K : W.Frag) (n : Nat) : Sp := fun vs H Q _ => ∃ (lb a : Addr) (us : List V) (ns : List Str) (b : Bk), vs = [.ref lb, .ref a] ∧ H lb = some (.lst us) ∧ IsBk H noM us b ∧ b.dp ≤ n ∧ b.lin ns ∧ (b.cards ns).length ≤ 1000000 ∧ H a = some (.lst (ns.map V.str)) ∧ ns.length ≤ 500 ∧
 ∀ p ws H', Same H H' → H p = none → H' p = some (.lst ws) → Cds H' ws (b.cards ns) → Q (.ref p) H'
noncomputable def PBlockC (H : Hp) (lb a D : Addr) (us : List V) (ns : List Str) (b : Bk) (n i : Nat) (σ : St) (H' : Hp) : Prop :=
 ∃ o3 o4 o5 bi acc ws, σ = [some (.ref lb), some (.ref a), some (.ref D), o3, o4, o5] ∧ Md H H' D acc ws ∧ IsBk H noM (us.drop i) bi ∧ bi.dp ≤ n ∧ bi.lin ns ∧ b.cards ns = acc ++ bi.cards ns
theorem zbu (T : Txt K mg) : ∀ n : Nat, FnOk P w K mg base CX0 (n + 24) T.f_block_cards T.fd_block_cards ["block", "names"] (zfm K n)
 | 0 => by
  have no : ∀ vs H Q E, ¬ zfm K 0 vs H Q E := fun vs H Q E h => by
   obtain ⟨lb, a, us, ns, b, _, _, _, h1, _⟩ := h
   have := b.dp_pos
   omega
  exact ⟨fun vs H Q E h => absurd h (no vs H Q E), fun A outer s H args us vs Q E _ _ _ _ h => absurd h (no vs H Q E)⟩
 | n + 1 => by
  have G_block_cards := zbu T n
  have G_sum_cards := (zbc (P := P) (w := w) (base := base) T 20).mono (show 22 ≤ n + 24 by omega)
  have G_test_cards := (zca (P := P) (w := w) (base := base) T 20).mono (show 22 ≤ n + 24 by omega)
  have G_place_of := (zaj (P := P) (w := w) (base := base) T).mono (show 1 ≤ n + 24 by omega)
  have G_when_cards := (ok_when_cards (P := P) (w := w) (base := base) T).mono (show 1 ≤ n + 24 by omega)
  have G_while_cards := (ok_while_cards (P := P) (w := w) (base := base) T).mono (show 1 ≤ n + 24 by omega)
  refine T.block_cards.F.ok j5 (fun vs H Q E h => ?_) (fun cdv A outer s H vs Q E hr h => ?_)
  ·obtain ⟨lb, a, us, ns, b, rfl, _⟩ := h; rfl
  obtain ⟨lb, a, us, ns, b, rfl, hb, hB, hd, hl, hcl, hA, hn, q⟩ := h
  refine ⟨_, (zf (zx (i := 2) j5.nd rfl (Or.inl rfl) (ql zb))
  (zf (zao PassesOwn.never rfl (zdl (pv 0)) (vj (i := 3) j5.nd rfl (Or.inl rfl)) (zf (zx (i := 4) j5.nd rfl (Or.inl rfl) (zn zm (pv 3) zd (fun _ _ => rfl)))
  (zf (qc (qx F.plainAttrs_list F.slot_list_append F.type_list_append qo (pv 2) (za (qb (za zi zb)) zb)))
  (zg (z0 (zj qi (pv 4) zi (zp _)) (zf (qc (qx F.plainAttrs_list F.slot_list_extend F.type_list_extend qz (pv 2) (za (zk G_sum_cards hr rfl T.sum_cards.m T.sum_cards.F.kp T.sum_cards.b .nil zq (za (zn zm (pv 3) zd (fun _ _ => rfl)) (za (pv 1) zb))) zb)))
  (zg (qc (qx F.plainAttrs_list F.slot_list_append F.type_list_append qo (pv 2) (za (qb (za zi (za (zk G_place_of hr rfl T.place_of.m T.place_of.F.kp T.place_of.b .nil zq (za (pv 1) (za (zn zm (pv 3) zd (fun _ _ => rfl)) zb))) zb))) zb))))) (zg (z0 (zj qi (pv 4) zi (zp _)) (zf (qc (qx F.plainAttrs_list F.slot_list_extend F.type_list_extend qz (pv 2) (za (zk G_sum_cards hr rfl T.sum_cards.m T.sum_cards.F.kp T.sum_cards.b .nil zq (za (zn zm (pv 3) zd (fun _ _ => rfl)) (za (pv 1) zb))) zb)))
  (zg (qc (qx F.plainAttrs_list F.slot_list_append F.type_list_append qo (pv 2) (za (qb (za zi zb)) zb))))) (zg (z0 (zj qi (pv 4) zi (zp _)) (zf (zx (i := 5) j5.nd rfl (Or.inl rfl) (zk G_test_cards hr rfl T.test_cards.m T.test_cards.F.kp T.test_cards.b .nil zq (za (zn zm (pv 3) zd (fun _ _ => rfl)) (za (pv 1) zb))))
  (zg (qc (qx F.plainAttrs_list F.slot_list_extend F.type_list_extend qz (pv 2) (za (zk G_when_cards hr rfl T.when_cards.m T.when_cards.F.kp T.when_cards.b .nil zq (za (pv 5) (za (zk G_block_cards hr rfl T.block_cards.m T.block_cards.F.kp T.block_cards.b .nil zq (za (zn zm (pv 3) zd (fun _ _ => rfl)) (za (pv 1) zb))) (za (zk G_block_cards hr rfl T.block_cards.m T.block_cards.F.kp T.block_cards.b .nil zq (za (zn zm (pv 3) zd (fun _ _ => rfl)) (za (pv 1) zb))) zb)))) zb))))) (zg (z0 (zj qi (pv 4) zi (zp _)) (zg (qc (qx F.plainAttrs_list F.slot_list_extend F.type_list_extend qz (pv 2) (za (zk G_while_cards hr rfl T.while_cards.m T.while_cards.F.kp T.while_cards.b .nil zq (za (zk G_test_cards hr rfl T.test_cards.m T.test_cards.F.kp T.test_cards.b .nil zq (za (zn zm (pv 3) zd (fun _ _ => rfl)) (za (pv 1) zb))) (za (zk G_block_cards hr rfl T.block_cards.m T.block_cards.F.kp T.block_cards.b .nil zq (za (zn zm (pv 3) zd (fun _ _ => rfl)) (za (pv 1) zb))) zb))) zb)))) (zf (qc (qx F.plainAttrs_list F.slot_list_extend F.type_list_extend qz (pv 2) (za (zk G_sum_cards hr rfl T.sum_cards.m T.sum_cards.F.kp T.sum_cards.b .nil zq (za (zn zm (pv 3) zd (fun _ _ => rfl)) (za (pv 1) zb))) zb)))
  (zf (qc (qx F.plainAttrs_list F.slot_list_extend F.type_list_extend qz (pv 2) (za (zk G_block_cards hr rfl T.block_cards.m T.block_cards.F.kp T.block_cards.b .nil zq (za (zn zm (pv 3) zd (fun _ _ => rfl)) (za (zy qr (pv 1) (ql (za (zn zm (pv 3) zd (fun _ _ => rfl)) zb))) zb))) zb)))
  (zg (qc (qx F.plainAttrs_list F.slot_list_append F.type_list_append qo (pv 2) (za (qb (za zi zb)) zb)))))))))))))))))
  (zg (zr (pv 2))))), ?_⟩
  try dsimp only[kx,kxb]
  have one : (1 : Nat) ≤ sizeLine := by decide
  have two : (2 : Nat) ≤ sizeLine := by decide
  refine ⟨Nat.zero_le _, fun D hD => ?_⟩
  have hM0 : Md H (upd H D (.lst [])) D [] [] := ⟨ze hD _, zc, .nil⟩
  generalize upd H D (.lst []) = H1 at hM0
  refine ⟨_, rfl, lb, rfl, ⟨_, SqL.of (hM0.S _ _ hb)⟩, ?_⟩
  refine zd6 (xs := us) (PBlockC H lb a D us ns b (n + 1)) ⟨none, none, none, b, [], [], rfl, hM0, hB, hd, hl, rfl⟩ (fun i σ H' _ z => by obtain ⟨_, _, _, _, _, _, _, M, _⟩ := z; exact SqL.of (M.S _ _ hb)) ?_ ?_
  ·rintro i x σ H' hx ⟨o3, o4, o5, bi, acc, ws, rfl, hM, hBi, hdi, hli, hacc⟩
   have hil := (List.getElem?_eq_some_iff.mp hx).1
   have hdrop : us.drop i = x :: us.drop (i + 1) := by
    have := List.drop_eq_getElem_cons hil
    rw [(List.getElem?_eq_some_iff.mp hx).2] at this
    exact this
   rw [hdrop] at hBi
   have hal : acc.length + (bi.cards ns).length ≤ 1000000 := by rw [hacc, List.length_append] at hcl; omega
   have hwl := hM.len
   cases hBi with
   | @set c x u s vs r e hs hr2 =>
    obtain ⟨hxl, hsf, hrl⟩ := hli
    have hcl2 := hal
    simp only [Bk.cards, List.length_append, List.length_cons, List.length_nil] at hcl2
    refine ⟨_, rfl, _, _, _, _, rfl, rfl, SqT.of (hM.S _ _ e), at0, ?_⟩
    refine ⟨_, rfl, .inl ⟨rfl, _, SqL.of hM.e⟩, one, fun t1 ht1 => ?_⟩
    have hM1 : Md H (upd (upd H' t1 (.tup [V.str "burn"])) D (.lst (ws ++ [.ref t1]))) D (acc ++ [.burn]) (ws ++ [.ref t1]) := hM.one (c := .burn) hD ht1
    have S1 := ze ht1 (.tup (Cd.burn).vs)
    refine ⟨_, _, _, rfl, rfl, S1 _ _ hM.e, by rw [sizeLine_eq]; omega, ?_⟩
    generalize upd (upd H' t1 (.tup [V.str "burn"])) D (.lst (ws ++ [.ref t1])) = H1 at hM1
    refine ⟨_, rfl, rfl, _, rfl, qj (by decide +kernel) ?_⟩
    have hsl := Sm.cards_le ns s
    have hlv := hsf.2.2
    refine ⟨_, rfl, .inl ⟨rfl, _, SqL.of hM1.e⟩, _, rfl, _, _, _, _, rfl, rfl, SqT.of (hM1.S _ _ e), zu (j := 2) rfl, _, rfl, ?_⟩
    refine ⟨u, a, ns, s, rfl, hs.mono hM1.S.tup, hsf.2.1, by omega, SqL.of (hM1.S _ _ hA), by omega, Sm.lin_nm hsf.1, fun p2 ws2 H2 S2 f2 e2 c2 => ?_⟩
    have w2 := c2.len
    have wl1 := hM1.len
    simp only [List.length_append, List.length_cons, List.length_nil] at wl1
    refine ⟨D, p2, _, _, rfl, rfl, S2 _ _ hM1.e, .inl e2, by rw [sizeLine_eq]; simp only [List.length_append, List.length_cons, List.length_nil]; omega, ?_⟩
    have hM2 := (hM1.grow S2).ext hD c2
    generalize upd H2 D (.lst (ws ++ [.ref t1] ++ ws2)) = H3 at hM2
    obtain ⟨j, hj⟩ := j7 hxl
    refine ⟨_, rfl, .inl ⟨rfl, _, SqL.of hM2.e⟩, _, rfl, _, rfl, _, _, _, _, rfl, rfl, SqT.of (hM2.S _ _ e), zu (j := 1) rfl, ?_⟩
    refine ⟨a, ns, x, j, rfl, SqL.of (hM2.S _ _ hA), by omega, hj, two, fun t3 ht3 => ?_⟩
    have hM3 := hM2.one (c := .store (j : Int)) hD ht3
    have S3 := ze ht3 (.tup (Cd.store (j : Int)).vs)
    refine ⟨_, _, _, rfl, rfl, S3 _ _ hM2.e, by rw [sizeLine_eq]; simp only [List.length_append, List.length_cons, List.length_nil]; omega, ?_⟩
    refine ⟨_, _, _, r, _, _, rfl, hM3, hr2, hdi, hrl, ?_⟩
    have ei : ixC ns x = (j : Int) := by unfold ixC; rw [hj]; rfl
    rw [hacc, ← ei]
    simp only [Bk.cards, List.append_assoc, List.cons_append, List.nil_append]
   | @say c u s vs r e hs hr2 =>
    obtain ⟨hsf, hrl⟩ := hli
    have hcl2 := hal
    simp only [Bk.cards, List.length_append, List.length_cons, List.length_nil] at hcl2
    refine ⟨_, rfl, _, _, _, _, rfl, rfl, SqT.of (hM.S _ _ e), at0, ?_⟩
    refine ⟨_, rfl, .inl ⟨rfl, _, SqL.of hM.e⟩, one, fun t1 ht1 => ?_⟩
    have hM1 : Md H (upd (upd H' t1 (.tup [V.str "burn"])) D (.lst (ws ++ [.ref t1]))) D (acc ++ [.burn]) (ws ++ [.ref t1]) := hM.one (c := .burn) hD ht1
    have S1 := ze ht1 (.tup (Cd.burn).vs)
    refine ⟨_, _, _, rfl, rfl, S1 _ _ hM.e, by rw [sizeLine_eq]; omega, ?_⟩
    generalize upd (upd H' t1 (.tup [V.str "burn"])) D (.lst (ws ++ [.ref t1])) = H1 at hM1
    refine ⟨_, rfl, rfl, _, rfl, zo (by decide +kernel) ?_⟩
    refine ⟨_, rfl, rfl, _, rfl, qj (by decide +kernel) ?_⟩
    have hsl := Sm.cards_le ns s
    have hlv := hsf.2.2
    refine ⟨_, rfl, .inl ⟨rfl, _, SqL.of hM1.e⟩, _, rfl, _, _, _, _, rfl, rfl, SqT.of (hM1.S _ _ e), zu (j := 1) rfl, _, rfl, ?_⟩
    refine ⟨u, a, ns, s, rfl, hs.mono hM1.S.tup, hsf.2.1, by omega, SqL.of (hM1.S _ _ hA), by omega, Sm.lin_nm hsf.1, fun p2 ws2 H2 S2 f2 e2 c2 => ?_⟩
    have w2 := c2.len
    have wl1 := hM1.len
    simp only [List.length_append, List.length_cons, List.length_nil] at wl1
    refine ⟨D, p2, _, _, rfl, rfl, S2 _ _ hM1.e, .inl e2, by rw [sizeLine_eq]; simp only [List.length_append, List.length_cons, List.length_nil]; omega, ?_⟩
    have hM2 := (hM1.grow S2).ext hD c2
    generalize upd H2 D (.lst (ws ++ [.ref t1] ++ ws2)) = H3 at hM2
    refine ⟨_, rfl, .inl ⟨rfl, _, SqL.of hM2.e⟩, one, fun t3 ht3 => ?_⟩
    have hM3 := hM2.one (c := .say) hD ht3
    have S3 := ze ht3 (.tup (Cd.say).vs)
    refine ⟨_, _, _, rfl, rfl, S3 _ _ hM2.e, by rw [sizeLine_eq]; simp only [List.length_append, List.length_cons, List.length_nil]; omega, ?_⟩
    refine ⟨_, _, _, r, _, _, rfl, hM3, hr2, hdi, hrl, ?_⟩
    rw [hacc]
    simp only [Bk.cards, List.append_assoc, List.cons_append, List.nil_append]
   | @when c p1 q1 u t vb vc vs b1 c1 r e ht n1 e1 h1 n2 e2 h2 hr2 =>
    obtain ⟨htf, hb1, hc1, hrl⟩ := hli
    have hcl2 := hal
    simp only [Bk.cards, vm, List.length_append, List.length_cons, List.length_nil] at hcl2
    have htl := Ts.cards_le ns t
    have hwn := htf.2.2
    obtain ⟨hdd1, hdd2, hdd3⟩ := mxh3 hdi
    refine ⟨_, rfl, _, _, _, _, rfl, rfl, SqT.of (hM.S _ _ e), at0, ?_⟩
    refine ⟨_, rfl, .inl ⟨rfl, _, SqL.of hM.e⟩, one, fun t1 ht1 => ?_⟩
    have hM1 : Md H (upd (upd H' t1 (.tup [V.str "burn"])) D (.lst (ws ++ [.ref t1]))) D (acc ++ [.burn]) (ws ++ [.ref t1]) := hM.one (c := .burn) hD ht1
    have S1 := ze ht1 (.tup (Cd.burn).vs)
    refine ⟨_, _, _, rfl, rfl, S1 _ _ hM.e, by rw [sizeLine_eq]; omega, ?_⟩
    generalize upd (upd H' t1 (.tup [V.str "burn"])) D (.lst (ws ++ [.ref t1])) = H1 at hM1
    refine ⟨_, rfl, rfl, _, rfl, zo (by decide +kernel) ?_⟩
    refine ⟨_, rfl, rfl, _, rfl, zo (by decide +kernel) ?_⟩
    refine ⟨_, rfl, rfl, _, rfl, qj (by decide +kernel) ?_⟩
    refine ⟨_, rfl, _, _, _, _, rfl, rfl, SqT.of (hM1.S _ _ e), zu (j := 1) rfl, _, rfl, ?_⟩
    refine ⟨u, a, ns, t, rfl, ht.mono hM1.S.tup, htf.2.1, by omega, SqL.of (hM1.S _ _ hA), by omega, Ts.lin_nm htf.1, fun p2 ws2 H2 S2 f2 e2' c2 => ?_⟩
    have hM2 := hM1.grow S2
    refine ⟨_, rfl, .inl ⟨rfl, _, SqL.of hM2.e⟩, _, rfl, _, rfl, _, _, _, _, rfl, rfl, SqT.of (hM2.S _ _ e), zu (j := 2) rfl, _, rfl, ?_⟩
    refine ⟨p1, a, vb, ns, b1, rfl, hM2.S _ _ e1, h1.same hM2.S, by omega, hb1, by omega, hM2.S _ _ hA, hn, fun p3 ws3 H3 S3 f3 e3 c3 => ?_⟩
    have hM3 := hM2.grow S3
    refine ⟨_, rfl, _, _, _, _, rfl, rfl, SqT.of (hM3.S _ _ e), zu (j := 3) rfl, _, rfl, ?_⟩
    refine ⟨q1, a, vc, ns, c1, rfl, hM3.S _ _ e2, h2.same hM3.S, by omega, hc1, by omega, hM3.S _ _ hA, hn, fun p4 ws4 H4 S4 f4 e4 c4 => ?_⟩
    have hM4 := hM3.grow S4
    refine ⟨p2, p3, p4, ws2, ws3, ws4, _, _, _, rfl, S4 _ _ (S3 _ _ e2'), S4 _ _ e3, e4, (c2.mono S3.tup).mono S4.tup, c3.mono S4.tup, c4, by omega, fun p5 ws5 H5 S5 f5 e5 c5 => ?_⟩
    have hM5 := hM4.grow S5
    have w5 := c5.len
    have wl1 := hM5.len
    simp only [vm, List.length_append, List.length_cons, List.length_nil] at wl1 w5
    refine ⟨D, p5, _, _, rfl, rfl, hM5.e, .inl e5, by rw [sizeLine_eq]; simp only [List.length_append, List.length_cons, List.length_nil]; omega, ?_⟩
    refine ⟨_, _, _, r, _, _, rfl, hM5.ext hD c5, hr2, by omega, hrl, ?_⟩
    rw [hacc]
    simp only [Bk.cards, List.append_assoc, List.cons_append, List.nil_append]
   | @whil c p1 u t vb vs b1 r e ht n1 e1 h1 hr2 =>
    obtain ⟨htf, hb1, hrl⟩ := hli
    have hcl2 := hal
    simp only [Bk.cards, ko, List.length_append, List.length_cons, List.length_nil] at hcl2
    have htl := Ts.cards_le ns t
    have hwn := htf.2.2
    obtain ⟨hdd1, hdd3⟩ := mxh2 hdi
    refine ⟨_, rfl, _, _, _, _, rfl, rfl, SqT.of (hM.S _ _ e), at0, ?_⟩
    refine ⟨_, rfl, .inl ⟨rfl, _, SqL.of hM.e⟩, one, fun t1 ht1 => ?_⟩
    have hM1 : Md H (upd (upd H' t1 (.tup [V.str "burn"])) D (.lst (ws ++ [.ref t1]))) D (acc ++ [.burn]) (ws ++ [.ref t1]) := hM.one (c := .burn) hD ht1
    have S1 := ze ht1 (.tup (Cd.burn).vs)
    refine ⟨_, _, _, rfl, rfl, S1 _ _ hM.e, by rw [sizeLine_eq]; omega, ?_⟩
    generalize upd (upd H' t1 (.tup [V.str "burn"])) D (.lst (ws ++ [.ref t1])) = H1 at hM1
    refine ⟨_, rfl, rfl, _, rfl, zo (by decide +kernel) ?_⟩
    refine ⟨_, rfl, rfl, _, rfl, zo (by decide +kernel) ?_⟩
    refine ⟨_, rfl, rfl, _, rfl, zo (by decide +kernel) ?_⟩
    refine ⟨_, rfl, rfl, _, rfl, qj (by decide +kernel) ?_⟩
    refine ⟨_, rfl, .inl ⟨rfl, _, SqL.of hM1.e⟩, _, rfl, _, _, _, _, rfl, rfl, SqT.of (hM1.S _ _ e), zu (j := 1) rfl, _, rfl, ?_⟩
    refine ⟨u, a, ns, t, rfl, ht.mono hM1.S.tup, htf.2.1, by omega, SqL.of (hM1.S _ _ hA), by omega, Ts.lin_nm htf.1, fun p2 ws2 H2 S2 f2 e2' c2 => ?_⟩
    have hM2 := hM1.grow S2
    refine ⟨_, rfl, _, _, _, _, rfl, rfl, SqT.of (hM2.S _ _ e), zu (j := 2) rfl, _, rfl, ?_⟩
    refine ⟨p1, a, vb, ns, b1, rfl, hM2.S _ _ e1, h1.same hM2.S, by omega, hb1, by omega, hM2.S _ _ hA, hn, fun p3 ws3 H3 S3 f3 e3 c3 => ?_⟩
    have hM3 := hM2.grow S3
    refine ⟨p2, p3, ws2, ws3, _, _, rfl, S3 _ _ e2', e3, c2.mono S3.tup, c3, by omega, fun p5 ws5 H5 S5 f5 e5 c5 => ?_⟩
    have hM5 := hM3.grow S5
    have w5 := c5.len
    have wl1 := hM5.len
    simp only [ko, List.length_append, List.length_cons, List.length_nil] at wl1 w5
    refine ⟨D, p5, _, _, rfl, rfl, hM5.e, .inl e5, by rw [sizeLine_eq]; simp only [List.length_append, List.length_cons, List.length_nil]; omega, ?_⟩
    refine ⟨_, _, _, r, _, _, rfl, hM5.ext hD c5, hr2, by omega, hrl, ?_⟩
    rw [hacc]
    simp only [Bk.cards, List.append_assoc, List.cons_append, List.nil_append]
   | @wit c p1 x u s vb vs b1 r e hs n1 e1 h1 hr2 =>
    obtain ⟨hsf, hnl, hb1, hrl⟩ := hli
    have hcl2 := hal
    simp only [Bk.cards, List.length_append, List.length_cons, List.length_nil] at hcl2
    obtain ⟨hdd1, hdd3⟩ := mxh2 hdi
    refine ⟨_, rfl, _, _, _, _, rfl, rfl, SqT.of (hM.S _ _ e), at0, ?_⟩
    refine ⟨_, rfl, .inl ⟨rfl, _, SqL.of hM.e⟩, one, fun t1 ht1 => ?_⟩
    have hM1 : Md H (upd (upd H' t1 (.tup [V.str "burn"])) D (.lst (ws ++ [.ref t1]))) D (acc ++ [.burn]) (ws ++ [.ref t1]) := hM.one (c := .burn) hD ht1
    have S1 := ze ht1 (.tup (Cd.burn).vs)
    refine ⟨_, _, _, rfl, rfl, S1 _ _ hM.e, by rw [sizeLine_eq]; omega, ?_⟩
    generalize upd (upd H' t1 (.tup [V.str "burn"])) D (.lst (ws ++ [.ref t1])) = H1 at hM1
    refine ⟨_, rfl, rfl, _, rfl, zo (by decide +kernel) ?_⟩
    refine ⟨_, rfl, rfl, _, rfl, zo (by decide +kernel) ?_⟩
    refine ⟨_, rfl, rfl, _, rfl, zo (by decide +kernel) ?_⟩
    refine ⟨_, rfl, rfl, _, rfl, zo (by decide +kernel) ?_⟩
    have hsl := Sm.cards_le ns s
    have hlv := hsf.2.2
    refine ⟨_, rfl, .inl ⟨rfl, _, SqL.of hM1.e⟩, _, rfl, _, _, _, _, rfl, rfl, SqT.of (hM1.S _ _ e), zu (j := 2) rfl, _, rfl, ?_⟩
    refine ⟨u, a, ns, s, rfl, hs.mono hM1.S.tup, hsf.2.1, by omega, SqL.of (hM1.S _ _ hA), by omega, Sm.lin_nm hsf.1, fun p2 ws2 H2 S2 f2 e2 c2 => ?_⟩
    have w2 := c2.len
    have wl1 := hM1.len
    simp only [List.length_append, List.length_cons, List.length_nil] at wl1
    refine ⟨D, p2, _, _, rfl, rfl, S2 _ _ hM1.e, .inl e2, by rw [sizeLine_eq]; simp only [List.length_append, List.length_cons, List.length_nil]; omega, ?_⟩
    have hM2 := (hM1.grow S2).ext hD c2
    generalize upd H2 D (.lst (ws ++ [.ref t1] ++ ws2)) = H3 at hM2
    refine ⟨_, rfl, .inl ⟨rfl, _, SqL.of hM2.e⟩, _, rfl, _, _, _, _, rfl, rfl, SqT.of (hM2.S _ _ e), zu (j := 3) rfl, _, rfl, ?_⟩
    refine ⟨_, rfl, _, _, _, _, rfl, rfl, SqT.of (hM2.S _ _ e), zu (j := 1) rfl, one, fun p4 hp4 => ?_⟩
    have S4 := ze hp4 (.lst [V.str x])
    have hM4 := hM2.grow S4
    have e4 : upd H3 p4 (.lst [V.str x]) p4 = some (.lst [V.str x]) := zc
    generalize upd H3 p4 (.lst [V.str x]) = H4 at S4 hM4 e4
    refine ⟨a, p4, _, _, rfl, rfl, hM4.S _ _ hA, e4, by rw [sizeLine_eq, List.length_map]; show _ + 1 ≤ _; omega, fun p5 hp5 => ?_⟩
    have S5 := ze hp5 (.lst (ns.map V.str ++ [V.str x]))
    have hM5 := hM4.grow S5
    have e5 : upd H4 p5 (.lst (ns.map V.str ++ [V.str x])) p5 = some (.lst ((ns ++ [x]).map V.str)) := by rw [zc, List.map_append]; rfl
    generalize upd H4 p5 (.lst (ns.map V.str ++ [V.str x])) = H5 at S5 hM5 e5
    refine ⟨p1, p5, vb, ns ++ [x], b1, rfl, hM5.S _ _ e1, h1.same hM5.S, by omega, hb1, by omega, e5, by rw [List.length_append]; show _ + 1 ≤ 500; omega, fun p6 ws6 H6 S6 f6 e6 c6 => ?_⟩
    have hM6 := hM5.grow S6
    have w6 := c6.len
    refine ⟨D, p6, _, _, rfl, rfl, hM6.e, .inl e6, by rw [sizeLine_eq]; simp only [List.length_append, List.length_cons, List.length_nil]; omega, ?_⟩
    have hM7 := hM6.ext hD c6
    generalize upd H6 D (.lst (ws ++ [.ref t1] ++ ws2 ++ ws6)) = H7 at hM7
    refine ⟨_, rfl, .inl ⟨rfl, _, SqL.of hM7.e⟩, one, fun t8 ht8 => ?_⟩
    have hM8 := hM7.one (c := .drop) hD ht8
    have S8 := ze ht8 (.tup (Cd.drop).vs)
    refine ⟨_, _, _, rfl, rfl, S8 _ _ hM7.e, by rw [sizeLine_eq]; simp only [List.length_append, List.length_cons, List.length_nil]; omega, ?_⟩
    refine ⟨_, _, _, r, _, _, rfl, hM8, hr2, by omega, hrl, ?_⟩
    rw [hacc]
    simp only [Bk.cards, List.append_assoc, List.cons_append, List.nil_append]
  ·rintro σ H' ⟨o3, o4, o5, bi, acc, ws, rfl, hM, hBi, hdi, hli, hacc⟩
   rw [List.drop_length] at hBi
   cases hBi
   rw [show b.cards ns = acc from hacc.trans (List.append_nil _)] at q
   exact ⟨_, rfl, q D ws H' hM.S hD hM.e hM.c⟩
noncomputable def spCardsOf (K : W.Frag) (n : Nat) : Sp := fun vs H Q _ => ∃ (r lb a : Addr) (us : List V) (ns : List Str) (b : Bk), vs = [.ref r] ∧ H r = some (.tup [.ref a, .ref lb]) ∧ H lb = some (.lst us) ∧ IsBk H noM us b ∧ b.dp ≤ n ∧ b.lin ns ∧ (b.cards ns).length ≤ 1000000 ∧ H a = some (.lst (ns.map V.str)) ∧ ns.length ≤ 500 ∧
 ∀ p ws H', Same H H' → H p = none → H' p = some (.lst ws) → Cds H' ws (b.cards ns) → Q (.ref p) H'
theorem ok_cards_of (T : Txt K mg) (n : Nat) : FnOk P w K mg base CX0 (n + 25) T.f_cards_of T.fd_cards_of ["program"] (spCardsOf K n) := by
 have G_block_cards := zbu (P := P) (w := w) (base := base) T n
 refine T.cards_of.F.ok sc_cards_of (fun vs H Q E h => ?_) (fun cdv A outer s H vs Q E hr h => ?_)
 ·obtain ⟨r, lb, a, us, ns, b, rfl, _⟩ := h; rfl
 obtain ⟨r, lb, a, us, ns, b, rfl, er, hb, hB, hd, hl, hcl, hA, hn, q⟩ := h
 refine ⟨_, (zg (zr (zk G_block_cards hr rfl T.block_cards.m T.block_cards.F.kp T.block_cards.b .nil zq (za (zn zm (pv 0) zd (fun _ _ => rfl)) (za (zn zm (pv 0) zd (fun _ _ => rfl)) zb))))), ?_⟩
 try dsimp only[kx,kxb]
 refine ⟨_, rfl, _, _, _, _, rfl, rfl, SqT.of er, zu (j := 1) rfl, _, rfl, _, _, _, _, rfl, rfl, SqT.of er, at0, ?_⟩
 exact ⟨lb, a, us, ns, b, rfl, hb, hB, hd, hl, hcl, hA, hn, q⟩
end
open PySem L2 J
section
variable {P : Program} {w : World} {K : W.Frag} {mg : Str → Option Value} {base : Heap}
theorem mxn3 {a b c n : Nat} (h : max (max (a + 1) (b + 1)) c ≤ n + 1) : a ≤ n ∧ b ≤ n ∧ c ≤ n + 1 := by omega
theorem mxn2 {a c n : Nat} (h : max (a + 1) c ≤ n + 1) : a ≤ n ∧ c ≤ n + 1 := by omega
noncomputable def spUsed (n : Nat) : Sp := fun vs H Q _ => ∃ (u : V) (ns : List Str) (s : Th), vs = [u] ∧ IsTh H u s ∧ s.dp ≤ n ∧ (s.cards ns).length ≤ 100000 ∧ s.nm ns ∧
 ∀ p xs H', Same H H' → H p = none → H' p = some (.lst (List.map V.str xs)) → (∀ x ∈ xs, x ∈ ns) → xs.length ≤ (s.cards ns).length → Q (.ref p) H'
noncomputable def PNames (H : Hp) (c D t : Addr) (ns : List Str) (ths : List Th) (i : Nat) (σ : St) (H' : Hp) : Prop :=
 ∃ o2 xs, σ = [some (.ref c), some (.ref D), o2] ∧ Same H H' ∧ H' D = some (.lst (List.map V.str xs)) ∧ (∀ x ∈ xs, x ∈ ns) ∧ xs.length ≤ (((ths.take i).map fun t => (t.cards ns).length).sum)
theorem zcb (T : Txt K mg) : ∀ n : Nat, FnOk P w K mg base CX0 (n + 1) T.f_names_used T.fd_names_used ["part"] (spUsed n)
 | 0 => by
  have no : ∀ vs H Q E, ¬ spUsed 0 vs H Q E := fun vs H Q E h => by
   obtain ⟨u, ns, s, _, _, h1, _⟩ := h
   cases s with
   | s s => cases s <;> simp [Th.dp, Sm.dp] at h1
   | t t => cases t <;> simp [Th.dp, Ts.dp] at h1
  exact ⟨fun vs H Q E h => absurd h (no vs H Q E), fun A outer s H args us vs Q E _ _ _ _ h => absurd h (no vs H Q E)⟩
 | n + 1 => by
  have G_names_used := zcb T n
  refine T.names_used.F.ok zan (fun vs H Q E h => ?_) (fun cdv A outer s H vs Q E hr h => ?_)
  ·obtain ⟨u, ns, s, rfl, _⟩ := h; rfl
  obtain ⟨u, ns, s, rfl, hu, hd, hc, hg, q⟩ := h
  have one : (1 : Nat) ≤ sizeLine := by decide
  refine ⟨_, (zf (z0 (zj qi (zn zm (pv 0) zd (fun _ _ => rfl)) zi (zp _)) (zg (zr (ql zb))) zv)
  (zf (z0 (zj qi (zn zm (pv 0) zd (fun _ _ => rfl)) zi (zp _)) (zg (zr (ql (za (zn zm (pv 0) zd (fun _ _ => rfl)) zb)))) zv)
  (zf (zx (i := 1) zan.nd rfl (Or.inl rfl) (ql zb))
  (zf (zao PassesOwn.never rfl (pi_tup (kj sl_tup (pv 0) (kh zd) zba)) (vj (i := 2) zan.nd rfl (Or.inl rfl)) (zg (qc (qx F.plainAttrs_list F.slot_list_extend F.type_list_extend qz (pv 1) (za (zk G_names_used hr rfl T.names_used.m T.names_used.F.kp T.names_used.b .nil zq (za (pv 2) zb)) zb)))))
  (zg (zr (pv 1))))))), ?_⟩
  try dsimp only[kx,kxb]
  rcases node_of hu hd hg with ⟨c, i, rfl, e, ec⟩ | ⟨c, x, rfl, e, hx, ec⟩ | ⟨c, wd, us, ths, N⟩
  ·refine ⟨_, rfl, _, _, _, _, rfl, rfl, SqT.of e, at0, rfl, _, rfl, qj (by decide +kernel) ?_⟩
   refine ⟨Nat.zero_le _, fun p hp => ?_⟩
   exact q p [] _ (ze hp _) hp zc (fun x hx => nomatch hx) (Nat.zero_le _)
  ·refine ⟨_, rfl, _, _, _, _, rfl, rfl, SqT.of e, at0, rfl, _, rfl, zo (by decide +kernel) ?_⟩
   refine ⟨_, rfl, _, _, _, _, rfl, rfl, SqT.of e, at0, rfl, _, rfl, qj (by decide +kernel) ?_⟩
   refine ⟨_, rfl, _, _, _, _, rfl, rfl, SqT.of e, zu (j := 1) rfl, one, fun p hp => ?_⟩
   exact q p [x] _ (ze hp _) hp zc (fun y hy => by rw [List.mem_singleton.mp hy]; exact hx) (by rw [ec]; exact Nat.le_refl _)
  ·obtain ⟨rfl, e, hP, no1, no2, hok, few, kind⟩ := N
   refine ⟨_, rfl, _, _, _, _, rfl, rfl, SqT.of e, at0, rfl, _, rfl, zo no1 ?_⟩
   refine ⟨_, rfl, _, _, _, _, rfl, rfl, SqT.of e, at0, rfl, _, rfl, zo no2 ?_⟩
   refine ⟨Nat.zero_le _, fun D hD => ?_⟩
   have S0 := ze hD (.lst [])
   have eD : upd H D (.lst []) D = some (.lst (List.map V.str [])) := zc
   generalize upd H D (.lst []) = H0 at S0 eD
   refine ⟨_, rfl, _, rfl, _, _, rfl, SqT.of (S0 _ _ e), (by rw [List.length_cons]; exact zel _), fun p hpn => ?_⟩
   have S1 := S0.trans (ze hpn (.tup (cutV (.str wd :: us) (some 1) none)))
   have eD1 := ze hpn (.tup (cutV (.str wd :: us) (some 1) none)) _ _ eD
   have e1 : upd H0 p (.tup (cutV (.str wd :: us) (some 1) none)) p = some (.tup us) := by rw [zc, zep]
   generalize upd H0 p (.tup (cutV (.str wd :: us) (some 1) none)) = H1 at S1 e1 eD1
   have ul := plen hP
   have hsum : ((ths.map fun t => (t.cards ns).length).sum) ≤ (s.cards ns).length := by
    rcases kind with ⟨_, t, rfl, ec⟩ | ⟨_, t, t2, rfl, ec⟩ | ⟨_, _, t, t2, k, rfl, _, ec⟩ <;> rw [ec] <;> simp only [List.map_cons, List.map_nil, List.sum_cons, List.sum_nil, List.length_append, List.length_cons, List.length_nil] <;> omega
   refine ⟨p, rfl, ⟨_, SqT.of e1⟩, ?_⟩
   refine for_tup (xs := us) (fun i σ H' => Same H1 H' ∨ True → Same H H' ∧ H' p = some (.tup us) ∧ PNames H c D p ns ths i σ H') (fun _ => ⟨S1, e1, none, [], rfl, S1, eD1, (by simp), Nat.zero_le _⟩) (fun i σ H' _ z => SqT.of (z (.inr trivial)).2.1) ?_ ?_
   ·intro i x σ H' hx z
    obtain ⟨_, e1', o2, xs, rfl, S, hD', hin, hlen⟩ := z (.inr trivial)
    obtain ⟨t, ht, hxt⟩ := pget hP hx
    have htm : t ∈ ths := List.mem_of_getElem? ht
    obtain ⟨d1, d2, d3⟩ := hok t htm
    have et : ((ths.take (i + 1)).map fun t => (t.cards ns).length).sum = ((ths.take i).map fun t => (t.cards ns).length).sum + (t.cards ns).length := by
     rw [List.take_add_one, ht]
     simp
    have hle : ((ths.take (i + 1)).map fun t => (t.cards ns).length).sum ≤ (ths.map fun t => (t.cards ns).length).sum := by
     have := List.take_append_drop (i + 1) ths
     conv => rhs; rw [← this, List.map_append, List.sum_append]
     omega
    refine ⟨_, rfl, .inl ⟨rfl, _, SqL.of hD'⟩, _, rfl, ?_⟩
    refine ⟨x, ns, t, rfl, hxt.mono S.tup, d1, by omega, d2, fun p2 xs2 H2 S2 f2 e2 hin2 hl2 => ?_⟩
    refine ⟨D, p2, _, _, rfl, rfl, S2 _ _ hD', .inl e2, by rw [sizeLine_eq, List.length_map, List.length_map]; omega, fun _ => ?_⟩
    have npD : p ≠ D := fun z => by rw [z, hD'] at e1'; cases e1'
    refine ⟨Same.at (S.trans S2) hD _, by rw [zl npD]; exact S2 _ _ e1', _, xs ++ xs2, rfl, Same.at (S.trans S2) hD _, by rw [zc, List.map_append], fun y hy => ?_, ?_⟩
    ·rcases List.mem_append.mp hy with hy | hy
     ·exact hin y hy
     ·exact hin2 y hy
    ·rw [List.length_append, et]; omega
   ·intro σ H' z
    obtain ⟨_, e1', o2, xs, rfl, S, hD', hin, hlen⟩ := z (.inr trivial)
    have hle : ((ths.take us.length).map fun t => (t.cards ns).length).sum ≤ (ths.map fun t => (t.cards ns).length).sum := by
     rw [List.take_of_length_le (by omega)]; exact Nat.le_refl _
    exact ⟨_, rfl, q D xs H' S hD hD' hin (by omega)⟩
noncomputable def HdN (ns : List Str) (H : Hp) (c : Addr) : Prop :=
 (∃ x u s, H c = some (.tup [.str "set", .str x, u]) ∧ x ∈ ns ∧ qy H u s ∧ s.fin ns) ∨ (∃ x u s r, H c = some (.tup [.str "with", .str x, u, r]) ∧ qy H u s ∧ s.fin ns) ∨
 ∃ wd u th r, H c = some (.tup (.str wd :: u :: r)) ∧ decide (V.str wd = V.str "set") = false ∧ decide (V.str wd = V.str "with") = false ∧ IsTh H u th ∧ th.dp ≤ 20 ∧ th.nm ns ∧ (th.cards ns).length ≤ 10000
noncomputable def spHeadN : Sp := fun vs H Q _ => ∃ (c : Addr) (ns : List Str), vs = [.ref c] ∧ HdN ns H c ∧
 ∀ p xs H', Same H H' → H p = none → H' p = some (.lst (List.map V.str xs)) → (∀ x ∈ xs, x ∈ ns) → xs.length ≤ 10001 → Q (.ref p) H'
theorem ok_names_at_head (T : Txt K mg) : FnOk P w K mg base CX0 22 T.f_names_at_head T.fd_names_at_head ["order"] spHeadN := by
 have G_names_used := zcb (P := P) (w := w) (base := base) T 20
 refine T.names_at_head.F.ok zat (fun vs H Q E h => ?_) (fun cdv A outer s H vs Q E hr h => ?_)
 ·obtain ⟨c, ns, rfl, _⟩ := h; rfl
 obtain ⟨c, ns, rfl, hc, q⟩ := h
 have one : (1 : Nat) ≤ sizeLine := by decide
 refine ⟨_, (zf (zx (i := 1) zat.nd rfl (Or.inl rfl) (zn zm (pv 0) zd (fun _ _ => rfl)))
  (zf (z0 (zj qi (pv 1) zi (zp _)) (zg (zr (zy qr (ql (za (zn zm (pv 0) zd (fun _ _ => rfl)) zb)) (zk G_names_used hr rfl T.names_used.m T.names_used.F.kp T.names_used.b .nil zq (za (zn zm (pv 0) zd (fun _ _ => rfl)) zb))))) zv)
  (zf (z0 (zj qi (pv 1) zi (zp _)) (zg (zr (zk G_names_used hr rfl T.names_used.m T.names_used.F.kp T.names_used.b .nil zq (za (zn zm (pv 0) zd (fun _ _ => rfl)) zb)))) zv)
  (zg (zr (zk G_names_used hr rfl T.names_used.m T.names_used.F.kp T.names_used.b .nil zq (za (zn zm (pv 0) zd (fun _ _ => rfl)) zb))))))), ?_⟩
 try dsimp only[kx,kxb]
 rcases hc with ⟨x, u, s, e, hx, hs, hf⟩ | ⟨x, u, s, r, e, hs, hf⟩ | ⟨wd, u, th, r, e, no1, no2, ht, hd, hm, hl⟩
 ·have hsl := Sm.cards_le ns s
  have hlv := hf.2.2
  refine ⟨_, rfl, _, _, _, _, rfl, rfl, SqT.of e, at0, ?_⟩
  refine ⟨_, rfl, rfl, _, rfl, qj (by decide +kernel) ?_⟩
  refine ⟨_, rfl, _, _, _, _, rfl, rfl, SqT.of e, zu (j := 1) rfl, one, fun p1 hp1 => ?_⟩
  have S1 := ze hp1 (.lst [V.str x])
  have e1 : upd H p1 (.lst [V.str x]) p1 = some (.lst [V.str x]) := zc
  generalize upd H p1 (.lst [V.str x]) = H1 at S1 e1
  refine ⟨_, rfl, _, _, _, _, rfl, rfl, SqT.of (S1 _ _ e), zu (j := 2) rfl, ?_⟩
  refine ⟨u, ns, .s s, rfl, (hs.mono S1.tup : qy H1 u s), hf.2.1, (by show (s.cards ns).length ≤ 100000; omega), Sm.lin_nm hf.1, fun p2 xs2 H2 S2 f2 e2 hin2 hl2 => ?_⟩
  have hl2' : xs2.length ≤ (s.cards ns).length := hl2
  refine ⟨p1, p2, _, _, rfl, rfl, S2 _ _ e1, e2, by rw [sizeLine_eq, List.length_map]; show 1 + _ ≤ _; omega, fun p3 hp3 => ?_⟩
  refine q p3 (x :: xs2) _ (S1.trans (S2.trans (ze hp3 _))) ((S1.trans S2).free hp3) zc (fun y hy => ?_) (by rw [List.length_cons]; omega)
  rcases List.mem_cons.mp hy with rfl | hy
  ·exact hx
  ·exact hin2 y hy
 ·have hsl := Sm.cards_le ns s
  have hlv := hf.2.2
  refine ⟨_, rfl, _, _, _, _, rfl, rfl, SqT.of e, at0, ?_⟩
  refine ⟨_, rfl, rfl, _, rfl, zo (by decide +kernel) ?_⟩
  refine ⟨_, rfl, rfl, _, rfl, qj (by decide +kernel) ?_⟩
  refine ⟨_, rfl, _, _, _, _, rfl, rfl, SqT.of e, zu (j := 2) rfl, ?_⟩
  refine ⟨u, ns, .s s, rfl, hs, hf.2.1, (by show (s.cards ns).length ≤ 100000; omega), Sm.lin_nm hf.1, fun p2 xs2 H2 S2 f2 e2 hin2 hl2 => ?_⟩
  have hl2' : xs2.length ≤ (s.cards ns).length := hl2
  exact q p2 xs2 H2 S2 f2 e2 hin2 (by omega)
 ·refine ⟨_, rfl, _, _, _, _, rfl, rfl, SqT.of e, at0, ?_⟩
  refine ⟨_, rfl, rfl, _, rfl, zo no1 ?_⟩
  refine ⟨_, rfl, rfl, _, rfl, zo no2 ?_⟩
  refine ⟨_, rfl, _, _, _, _, rfl, rfl, SqT.of e, zu (j := 1) rfl, ?_⟩
  refine ⟨u, ns, th, rfl, ht, hd, by omega, hm, fun p2 xs2 H2 S2 f2 e2 hin2 hl2 => ?_⟩
  exact q p2 xs2 H2 S2 f2 e2 hin2 (by omega)
theorem vh {H' : Hp} {R : V → Hp → Prop} {lb a D c : Addr} {o4 : Option V} {ns : List Str} (hA : H' a = some (.lst (ns.map V.str))) (hc : HdN ns H' c) (q : ∀ p H'', Same H' H'' → H' p = none → H'' p = some (.lst []) → R (.ref p) H'') :
  tComp (iList K (tCall spHeadN [] E0 (zeh (tVar 3) tNil))) [1] (tTest (tOp (rIn K true) (tVar 0) (tVar 1))) (tVar 0) [some (.ref lb), some (.ref a), some (.ref D), some (.ref c), o4] H' R := by
 refine ⟨_, rfl, c, ns, rfl, hc, fun p xs H1 S1 f1 e1 hin hl => ⟨p, rfl, ⟨_, SqL.of e1⟩, fun D2 hD2 => ?_⟩⟩
 refine comp_list (K := K) (xs := xs.map V.str) (fun i H2 => Same H1 H2 ∧ H2 D2 = some (.lst [])) ⟨ze hD2 _, zc⟩ (fun i H2 z => SqL.of (z.1 _ _ e1)) ?_ ?_
 ·rintro i x H2 hx ⟨S2, e2⟩
  rw [List.getElem?_map] at hx
  cases hp : xs[i]? with
  | none => rw [hp] at hx; cases hx
  | some y =>
   rw [hp] at hx
   cases hx
   have hy := hin y (List.mem_of_getElem? hp)
   have hi : (if true = true then !inV (.str y) (ns.map V.str) else inV (.str y) (ns.map V.str)) = false := by rw [inV_str hy]; rfl
   refine ⟨_, rfl, _, rfl, a, ns.map V.str, rfl, .inl (SqL.of (S2 _ _ (S1 _ _ hA))), rfl, zeo ns, _, rfl, ?_⟩
   rw [hi]
   exact ⟨S2, e2⟩
 ·rintro H2 ⟨S2, e2⟩
  exact q D2 H2 (S1.trans S2) (S1.free hD2) e2
noncomputable def zej (K : W.Frag) (n : Nat) : Sp := fun vs H Q _ => ∃ (lb a : Addr) (us : List V) (ns : List Str) (b : Bk), vs = [.ref lb, .ref a] ∧ H lb = some (.lst us) ∧ IsBk H noM us b ∧ b.dp ≤ n ∧ b.lin ns ∧ H a = some (.lst (ns.map V.str)) ∧ ns.length ≤ 500 ∧
 ∀ p H', Same H H' → H p = none → H' p = some (.lst []) → Q (.ref p) H'
noncomputable def PStrange (H : Hp) (lb a D : Addr) (us : List V) (ns : List Str) (n i : Nat) (σ : St) (H' : Hp) : Prop :=
 ∃ o3 o4 bi, σ = [some (.ref lb), some (.ref a), some (.ref D), o3, o4] ∧ Same H H' ∧ H' D = some (.lst []) ∧ IsBk H noM (us.drop i) bi ∧ bi.dp ≤ n ∧ bi.lin ns
theorem zab (T : Txt K mg) : ∀ n : Nat, FnOk P w K mg base CX0 (n + 24) T.f_block_strangers T.fd_block_strangers ["block", "names"] (zej K n)
 | 0 => by
  have no : ∀ vs H Q E, ¬ zej K 0 vs H Q E := fun vs H Q E h => by
   obtain ⟨lb, a, us, ns, b, _, _, _, h1, _⟩ := h
   have := b.dp_pos
   omega
  exact ⟨fun vs H Q E h => absurd h (no vs H Q E), fun A outer s H args us vs Q E _ _ _ _ h => absurd h (no vs H Q E)⟩
 | n + 1 => by
  have G_block_strangers := zab T n
  have G_names_at_head := (ok_names_at_head (P := P) (w := w) (base := base) T).mono (show 22 ≤ n + 24 by omega)
  refine T.block_strangers.F.ok jq (fun vs H Q E h => ?_) (fun cdv A outer s H vs Q E hr h => ?_)
  ·obtain ⟨lb, a, us, ns, b, rfl, _⟩ := h; rfl
  obtain ⟨lb, a, us, ns, b, rfl, hb, hB, hd, hl, hA, hn, q⟩ := h
  refine ⟨_, (zf (zx (i := 2) jq.nd rfl (Or.inl rfl) (ql zb))
  (zf (zao PassesOwn.never rfl (zdl (pv 0)) (vj (i := 3) jq.nd rfl (Or.inl rfl)) (zf (zx (i := 4) jq.nd rfl (Or.inl rfl) (zn zm (pv 3) zd (fun _ _ => rfl)))
  (zf (qc (qx F.plainAttrs_list F.slot_list_extend F.type_list_extend qz (pv 2) (za (pe_comp rfl (js := [1]) (ys := ["names"]) (zdl (zk G_names_at_head hr rfl T.names_at_head.m T.names_at_head.F.kp T.names_at_head.b .nil zq (za (pv 3) zb))) (by rfl) (by rfl) (by decide +kernel) (fun _ _ _ _ => pts_one (zj (op_notIn_seqK K) (pv 0) (pv 1) (by with_unfolding_all rfl))) (fun _ _ _ _ => (pv 0))) zb)))
  (zg (z0 (zj qi (pv 4) zi (zp _)) (zf (qc (qx F.plainAttrs_list F.slot_list_extend F.type_list_extend qz (pv 2) (za (zk G_block_strangers hr rfl T.block_strangers.m T.block_strangers.F.kp T.block_strangers.b .nil zq (za (zn zm (pv 3) zd (fun _ _ => rfl)) (za (pv 1) zb))) zb)))
  (zg (qc (qx F.plainAttrs_list F.slot_list_extend F.type_list_extend qz (pv 2) (za (zk G_block_strangers hr rfl T.block_strangers.m T.block_strangers.F.kp T.block_strangers.b .nil zq (za (zn zm (pv 3) zd (fun _ _ => rfl)) (za (pv 1) zb))) zb))))) (zg (z0 (zj qi (pv 4) zi (zp _)) (zg (qc (qx F.plainAttrs_list F.slot_list_extend F.type_list_extend qz (pv 2) (za (zk G_block_strangers hr rfl T.block_strangers.m T.block_strangers.F.kp T.block_strangers.b .nil zq (za (zn zm (pv 3) zd (fun _ _ => rfl)) (za (pv 1) zb))) zb)))) (zg (z0 (zj qi (pv 4) zi (zp _)) (zg (qc (qx F.plainAttrs_list F.slot_list_extend F.type_list_extend qz (pv 2) (za (zk G_block_strangers hr rfl T.block_strangers.m T.block_strangers.F.kp T.block_strangers.b .nil zq (za (zn zm (pv 3) zd (fun _ _ => rfl)) (za (zy qr (pv 1) (ql (za (zn zm (pv 3) zd (fun _ _ => rfl)) zb))) zb))) zb)))) zv)))))))))
  (zg (zr (pv 2))))), ?_⟩
  try dsimp only[kx,kxb]
  have one : (1 : Nat) ≤ sizeLine := by decide
  refine ⟨Nat.zero_le _, fun D hD => ?_⟩
  have S0 := ze hD (.lst [])
  have eD : upd H D (.lst []) D = some (.lst []) := zc
  generalize upd H D (.lst []) = H1 at S0 eD
  refine ⟨_, rfl, lb, rfl, ⟨_, SqL.of (S0 _ _ hb)⟩, ?_⟩
  refine zd6 (xs := us) (PStrange H lb a D us ns (n + 1)) ⟨none, none, b, rfl, S0, eD, hB, hd, hl⟩ (fun i σ H' _ z => by obtain ⟨_, _, _, _, S, _⟩ := z; exact SqL.of (S _ _ hb)) ?_ ?_
  ·rintro i x σ H' hx ⟨o3, o4, bi, rfl, S, hD', hBi, hdi, hli⟩
   have hil := (List.getElem?_eq_some_iff.mp hx).1
   have hdrop : us.drop i = x :: us.drop (i + 1) := by
    have := List.drop_eq_getElem_cons hil
    rw [(List.getElem?_eq_some_iff.mp hx).2] at this
    exact this
   rw [hdrop] at hBi
   cases hBi with
   | @set c x u s vs r e hs hr2 =>
    obtain ⟨hxl, hsf, hrl⟩ := hli
    refine ⟨_, rfl, _, _, _, _, rfl, rfl, SqT.of (S _ _ e), at0, ?_⟩
    refine ⟨_, rfl, .inl ⟨rfl, _, SqL.of hD'⟩, vh (S _ _ hA) (.inl ⟨x, u, s, S _ _ e, hxl, hs.mono S.tup, hsf⟩) fun p2 H2 S2 f2 e2 => ?_⟩
    refine ⟨D, p2, _, _, rfl, rfl, S2 _ _ hD', .inl e2, Nat.zero_le _, ?_⟩
    have S3 : Same H (upd H2 D (.lst ([] ++ []))) := Same.at (S.trans S2) hD _
    have eD3 : upd H2 D (.lst ([] ++ [])) D = some (.lst []) := zc
    generalize upd H2 D (.lst ([] ++ [])) = H3 at S3 eD3
    refine ⟨_, rfl, rfl, _, rfl, zo (by decide +kernel) ?_⟩
    refine ⟨_, rfl, rfl, _, rfl, zo (by decide +kernel) ?_⟩
    refine ⟨_, rfl, rfl, _, rfl, zo (by decide +kernel) ?_⟩
    exact ⟨_, _, r, rfl, S3, eD3, hr2, hdi, hrl⟩
   | @say c u s vs r e hs hr2 =>
    obtain ⟨hsf, hrl⟩ := hli
    have hsl := Sm.cards_le ns s
    have hlv := hsf.2.2
    refine ⟨_, rfl, _, _, _, _, rfl, rfl, SqT.of (S _ _ e), at0, ?_⟩
    refine ⟨_, rfl, .inl ⟨rfl, _, SqL.of hD'⟩, vh (S _ _ hA) (.inr (.inr ⟨_, u, .s s, _, S _ _ e, by decide +kernel, by decide +kernel, (hs.mono S.tup : qy H' u s), hsf.2.1, Sm.lin_nm hsf.1, (by show (s.cards ns).length ≤ 10000; omega)⟩)) fun p2 H2 S2 f2 e2 => ?_⟩
    refine ⟨D, p2, _, _, rfl, rfl, S2 _ _ hD', .inl e2, Nat.zero_le _, ?_⟩
    have S3 : Same H (upd H2 D (.lst ([] ++ []))) := Same.at (S.trans S2) hD _
    have eD3 : upd H2 D (.lst ([] ++ [])) D = some (.lst []) := zc
    generalize upd H2 D (.lst ([] ++ [])) = H3 at S3 eD3
    refine ⟨_, rfl, rfl, _, rfl, zo (by decide +kernel) ?_⟩
    refine ⟨_, rfl, rfl, _, rfl, zo (by decide +kernel) ?_⟩
    refine ⟨_, rfl, rfl, _, rfl, zo (by decide +kernel) ?_⟩
    exact ⟨_, _, r, rfl, S3, eD3, hr2, hdi, hrl⟩
   | @when c p1 q1 u t vb vc vs b1 c1 r e ht n1 e1 h1 n2 e2' h2 hr2 =>
    obtain ⟨htf, hb1, hc1, hrl⟩ := hli
    have htl := Ts.cards_le ns t
    have hwn := htf.2.2
    obtain ⟨hdd1, hdd2, hdd3⟩ := mxn3 hdi
    refine ⟨_, rfl, _, _, _, _, rfl, rfl, SqT.of (S _ _ e), at0, ?_⟩
    refine ⟨_, rfl, .inl ⟨rfl, _, SqL.of hD'⟩, vh (S _ _ hA) (.inr (.inr ⟨_, u, .t t, _, S _ _ e, by decide +kernel, by decide +kernel, (ht.mono S.tup : qu H' u t), htf.2.1, Ts.lin_nm htf.1, (by show (t.cards ns).length ≤ 10000; omega)⟩)) fun p2 H2 S2 f2 e2 => ?_⟩
    refine ⟨D, p2, _, _, rfl, rfl, S2 _ _ hD', .inl e2, Nat.zero_le _, ?_⟩
    have S3 : Same H (upd H2 D (.lst ([] ++ []))) := Same.at (S.trans S2) hD _
    have eD3 : upd H2 D (.lst ([] ++ [])) D = some (.lst []) := zc
    generalize upd H2 D (.lst ([] ++ [])) = H3 at S3 eD3
    refine ⟨_, rfl, rfl, _, rfl, qj (by decide +kernel) ?_⟩
    refine ⟨_, rfl, .inl ⟨rfl, _, SqL.of eD3⟩, _, rfl, _, _, _, _, rfl, rfl, SqT.of (S3 _ _ e), zu (j := 2) rfl, _, rfl, ?_⟩
    refine ⟨p1, a, vb, ns, b1, rfl, S3 _ _ e1, h1.same S3, by omega, hb1, S3 _ _ hA, hn, fun p3 H4 S3' f3 e3' => ?_⟩
    refine ⟨D, p3, _, _, rfl, rfl, S3' _ _ eD3, .inl e3', Nat.zero_le _, ?_⟩
    have S4 : Same H (upd H4 D (.lst ([] ++ []))) := Same.at (S3.trans S3') hD _
    have eD4 : upd H4 D (.lst ([] ++ [])) D = some (.lst []) := zc
    generalize upd H4 D (.lst ([] ++ [])) = G4 at S4 eD4
    refine ⟨_, rfl, .inl ⟨rfl, _, SqL.of eD4⟩, _, rfl, _, _, _, _, rfl, rfl, SqT.of (S4 _ _ e), zu (j := 3) rfl, _, rfl, ?_⟩
    refine ⟨q1, a, vc, ns, c1, rfl, S4 _ _ e2', h2.same S4, by omega, hc1, S4 _ _ hA, hn, fun p4 H5 S4' f4 e4' => ?_⟩
    refine ⟨D, p4, _, _, rfl, rfl, S4' _ _ eD4, .inl e4', Nat.zero_le _, ?_⟩
    have S5 : Same H (upd H5 D (.lst ([] ++ []))) := Same.at (S4.trans S4') hD _
    have eD5 : upd H5 D (.lst ([] ++ [])) D = some (.lst []) := zc
    generalize upd H5 D (.lst ([] ++ [])) = G5 at S5 eD5
    exact ⟨_, _, r, rfl, S5, eD5, hr2, by omega, hrl⟩
   | @whil c p1 u t vb vs b1 r e ht n1 e1 h1 hr2 =>
    obtain ⟨htf, hb1, hrl⟩ := hli
    have htl := Ts.cards_le ns t
    have hwn := htf.2.2
    obtain ⟨hdd1, hdd3⟩ := mxn2 hdi
    refine ⟨_, rfl, _, _, _, _, rfl, rfl, SqT.of (S _ _ e), at0, ?_⟩
    refine ⟨_, rfl, .inl ⟨rfl, _, SqL.of hD'⟩, vh (S _ _ hA) (.inr (.inr ⟨_, u, .t t, _, S _ _ e, by decide +kernel, by decide +kernel, (ht.mono S.tup : qu H' u t), htf.2.1, Ts.lin_nm htf.1, (by show (t.cards ns).length ≤ 10000; omega)⟩)) fun p2 H2 S2 f2 e2 => ?_⟩
    refine ⟨D, p2, _, _, rfl, rfl, S2 _ _ hD', .inl e2, Nat.zero_le _, ?_⟩
    have S3 : Same H (upd H2 D (.lst ([] ++ []))) := Same.at (S.trans S2) hD _
    have eD3 : upd H2 D (.lst ([] ++ [])) D = some (.lst []) := zc
    generalize upd H2 D (.lst ([] ++ [])) = H3 at S3 eD3
    refine ⟨_, rfl, rfl, _, rfl, zo (by decide +kernel) ?_⟩
    refine ⟨_, rfl, rfl, _, rfl, qj (by decide +kernel) ?_⟩
    refine ⟨_, rfl, .inl ⟨rfl, _, SqL.of eD3⟩, _, rfl, _, _, _, _, rfl, rfl, SqT.of (S3 _ _ e), zu (j := 2) rfl, _, rfl, ?_⟩
    refine ⟨p1, a, vb, ns, b1, rfl, S3 _ _ e1, h1.same S3, by omega, hb1, S3 _ _ hA, hn, fun p3 H4 S3' f3 e3' => ?_⟩
    refine ⟨D, p3, _, _, rfl, rfl, S3' _ _ eD3, .inl e3', Nat.zero_le _, ?_⟩
    have S4 : Same H (upd H4 D (.lst ([] ++ []))) := Same.at (S3.trans S3') hD _
    have eD4 : upd H4 D (.lst ([] ++ [])) D = some (.lst []) := zc
    generalize upd H4 D (.lst ([] ++ [])) = G4 at S4 eD4
    exact ⟨_, _, r, rfl, S4, eD4, hr2, by omega, hrl⟩
   | @wit c p1 x u s vb vs b1 r e hs n1 e1 h1 hr2 =>
    obtain ⟨hsf, hnl, hb1, hrl⟩ := hli
    obtain ⟨hdd1, hdd3⟩ := mxn2 hdi
    refine ⟨_, rfl, _, _, _, _, rfl, rfl, SqT.of (S _ _ e), at0, ?_⟩
    refine ⟨_, rfl, .inl ⟨rfl, _, SqL.of hD'⟩, vh (S _ _ hA) (.inr (.inl ⟨x, u, s, _, S _ _ e, hs.mono S.tup, hsf⟩)) fun p2 H2 S2 f2 e2 => ?_⟩
    refine ⟨D, p2, _, _, rfl, rfl, S2 _ _ hD', .inl e2, Nat.zero_le _, ?_⟩
    have S3 : Same H (upd H2 D (.lst ([] ++ []))) := Same.at (S.trans S2) hD _
    have eD3 : upd H2 D (.lst ([] ++ [])) D = some (.lst []) := zc
    generalize upd H2 D (.lst ([] ++ [])) = H3 at S3 eD3
    refine ⟨_, rfl, rfl, _, rfl, zo (by decide +kernel) ?_⟩
    refine ⟨_, rfl, rfl, _, rfl, zo (by decide +kernel) ?_⟩
    refine ⟨_, rfl, rfl, _, rfl, qj (by decide +kernel) ?_⟩
    refine ⟨_, rfl, .inl ⟨rfl, _, SqL.of eD3⟩, _, rfl, _, _, _, _, rfl, rfl, SqT.of (S3 _ _ e), zu (j := 3) rfl, _, rfl, ?_⟩
    refine ⟨_, rfl, _, _, _, _, rfl, rfl, SqT.of (S3 _ _ e), zu (j := 1) rfl, one, fun p4 hp4 => ?_⟩
    have S4 := S3.trans (ze hp4 (.lst [V.str x]))
    have eD4 := ze hp4 (.lst [V.str x]) _ _ eD3
    have e4 : upd H3 p4 (.lst [V.str x]) p4 = some (.lst [V.str x]) := zc
    generalize upd H3 p4 (.lst [V.str x]) = H4 at S4 eD4 e4
    refine ⟨a, p4, _, _, rfl, rfl, S4 _ _ hA, e4, by rw [sizeLine_eq, List.length_map]; show _ + 1 ≤ _; omega, fun p5 hp5 => ?_⟩
    have S5 := S4.trans (ze hp5 (.lst (ns.map V.str ++ [V.str x])))
    have eD5 := ze hp5 (.lst (ns.map V.str ++ [V.str x])) _ _ eD4
    have e5 : upd H4 p5 (.lst (ns.map V.str ++ [V.str x])) p5 = some (.lst ((ns ++ [x]).map V.str)) := by rw [zc, List.map_append]; rfl
    generalize upd H4 p5 (.lst (ns.map V.str ++ [V.str x])) = H5 at S5 eD5 e5
    refine ⟨p1, p5, vb, ns ++ [x], b1, rfl, S5 _ _ e1, h1.same S5, by omega, hb1, e5, by rw [List.length_append]; show _ + 1 ≤ 500; omega, fun p6 H6 S6 f6 e6 => ?_⟩
    refine ⟨D, p6, _, _, rfl, rfl, S6 _ _ eD5, .inl e6, Nat.zero_le _, ?_⟩
    exact ⟨_, _, r, rfl, Same.at (S5.trans S6) hD _, zc, hr2, by omega, hrl⟩
  ·rintro σ H' ⟨o3, o4, bi, rfl, S, hD', hBi, hdi, hli⟩
   exact ⟨_, rfl, q D H' S hD hD'⟩
noncomputable def spStrangers (K : W.Frag) (n : Nat) : Sp := fun vs H Q _ => ∃ (r lb a : Addr) (us : List V) (ns : List Str) (b : Bk), vs = [.ref r] ∧ H r = some (.tup [.ref a, .ref lb]) ∧ H lb = some (.lst us) ∧ IsBk H noM us b ∧ b.dp ≤ n ∧ b.lin ns ∧ H a = some (.lst (ns.map V.str)) ∧ ns.length ≤ 500 ∧
 ∀ p H', Same H H' → H p = none → H' p = some (.lst []) → Q (.ref p) H'
theorem ok_strangers (T : Txt K mg) (n : Nat) : FnOk P w K mg base CX0 (n + 25) T.f_strangers T.fd_strangers ["program"] (spStrangers K n) := by
 have G_block_strangers := zab (P := P) (w := w) (base := base) T n
 refine T.strangers.F.ok sc_strangers (fun vs H Q E h => ?_) (fun cdv A outer s H vs Q E hr h => ?_)
 ·obtain ⟨r, lb, a, us, ns, b, rfl, _⟩ := h; rfl
 obtain ⟨r, lb, a, us, ns, b, rfl, er, hb, hB, hd, hl, hA, hn, q⟩ := h
 refine ⟨_, (zg (zr (zk G_block_strangers hr rfl T.block_strangers.m T.block_strangers.F.kp T.block_strangers.b .nil zq (za (zn zm (pv 0) zd (fun _ _ => rfl)) (za (zn zm (pv 0) zd (fun _ _ => rfl)) zb))))), ?_⟩
 try dsimp only[kx,kxb]
 refine ⟨_, rfl, _, _, _, _, rfl, rfl, SqT.of er, zu (j := 1) rfl, _, rfl, _, _, _, _, rfl, rfl, SqT.of er, at0, ?_⟩
 exact ⟨lb, a, us, ns, b, rfl, hb, hB, hd, hl, hA, hn, q⟩
end
end W12
namespace J
open PySem PySem.Spec PyProof.Rows L2
section
variable {X : Cx}
noncomputable def rEqAway (K : W.Frag) : R2 := fun x y H Q => ∃ a b w rest, x = .ref a ∧ y = .ref b ∧ TpK K H a (.str w :: rest) ∧ TpK K H b [.str "away"] ∧ Q (.bl (decide (w = "away") && rest.isEmpty)) H
theorem op_eqAway (hu : X.A.units + 1 < cLine) : OpR X (compareOp .Eq) (rEqAway X.K) := by
 intro pins s σ H x y v u Q I rx ry h
 obtain ⟨a, b, w, rest, rfl, rfl, h1, h2, q⟩ := h
 cases rx
 cases ry
 obtain ⟨its2, r2, t2, _⟩ := I.tuple h2.sq
 obtain ⟨its, r, t, _⟩ := I.tuple h1.sq
 cases r2 with
 | cons z2 r2 =>
  cases r2
  obtain ⟨tk1, rfl⟩ := z2
  cases r with
  | @cons _ _ _ us z1 r =>
   obtain ⟨q1, rfl⟩ := z1
   have hl := r.length
   have := SeqAt.RcAt.tuples (A := X.A) (e := fun _ => (w == ("away" : Str))) t t2 (by omega) fun j h1 h2 => by
    match j, h2 with
    | 0, _ => exact SeqAt.EqAt.str_str _ _ _ _
   refine this X.prog X.w X.xe _ ⟨.bl _, H, I, rfl, ?_⟩
   have e : ((List.range (min ((Value.str w q1 :: us).toArray).size ([Value.str "away" tk1].toArray).size)).all (fun _ => (w == ("away" : Str))) && ((Value.str w q1 :: us).toArray).size == ([Value.str "away" tk1].toArray).size) = (decide (w = "away") && rest.isEmpty) := by
    have e1 : min ((Value.str w q1 :: us).toArray).size ([Value.str "away" tk1].toArray).size = 1 := by
     simp
    rw [e1]
    have e2 : (((Value.str w q1 :: us).toArray).size == ([Value.str "away" tk1].toArray).size) = rest.isEmpty := by
     cases rest with
     | nil => cases r; rfl
     | cons _ _ =>
      cases r
      simp
    rw [e2]
    show ((w == ("away" : Str)) && true && rest.isEmpty) = _
    rw [Bool.and_true]
    rfl
   rw [e]
   exact q
end
noncomputable def cfl (lr lh ls : Addr) (oil used : Int) (la : Addr) : List (Str × V) := [("row", .ref lr), ("held", .ref lh), ("said", .ref ls), ("oil", .int oil), ("used", .int used), ("ahead", .ref la)]
theorem zc0 (lr lh ls : Addr) (o u : Int) (la : Addr) : (cfl lr lh ls o u la).lookup ("row" : Str) = some (.ref lr) := by
 unfold cfl; rw [zw, if_pos rfl]
theorem za5 (lr lh ls : Addr) (o u : Int) (la : Addr) : (cfl lr lh ls o u la).lookup ("held" : Str) = some (.ref lh) := by
 unfold cfl; rw [zw, if_neg (by decide +kernel), zw, if_pos rfl]
theorem zf1 (lr lh ls : Addr) (o u : Int) (la : Addr) : (cfl lr lh ls o u la).lookup ("said" : Str) = some (.ref ls) := by
 unfold cfl; rw [zw, if_neg (by decide +kernel), zw, if_neg (by decide +kernel), zw, if_pos rfl]
theorem zfc (lr lh ls : Addr) (o u : Int) (la : Addr) : (cfl lr lh ls o u la).lookup ("oil" : Str) = some (.int o) := by
 unfold cfl; rw [zw, if_neg (by decide +kernel), zw, if_neg (by decide +kernel), zw, if_neg (by decide +kernel), zw, if_pos rfl]
theorem zaf (lr lh ls : Addr) (o u : Int) (la : Addr) : (cfl lr lh ls o u la).lookup ("used" : Str) = some (.int u) := by
 unfold cfl; rw [zw, if_neg (by decide +kernel), zw, if_neg (by decide +kernel), zw, if_neg (by decide +kernel), zw, if_neg (by decide +kernel), zw, if_pos rfl]
theorem zb7 (lr lh ls : Addr) (o u : Int) (la : Addr) : (cfl lr lh ls o u la).lookup ("ahead" : Str) = some (.ref la) := by
 unfold cfl; rw [zw, if_neg (by decide +kernel), zw, if_neg (by decide +kernel), zw, if_neg (by decide +kernel), zw, if_neg (by decide +kernel), zw, if_neg (by decide +kernel), zw, if_pos rfl]
theorem v7 {lr lh ls : Addr} {o u : Int} {la : Addr} {m : Str} (h : ¬ m = "row" ∧ ¬ m = "held" ∧ ¬ m = "said" ∧ ¬ m = "oil" ∧ ¬ m = "used" ∧ ¬ m = "ahead") : (cfl lr lh ls o u la).lookup m = none := by
 unfold cfl; rw [zw, if_neg h.1, zw, if_neg h.2.1, zw, if_neg h.2.2.1, zw, if_neg h.2.2.2.1, zw, if_neg h.2.2.2.2.1, zw, if_neg h.2.2.2.2.2]; rfl
theorem cfl_putUsed (lr lh ls : Addr) (o u u' : Int) (la : Addr) (g : Str) : (cfl lr lh ls o u' la).lookup g = if g = "used" then some (.int u') else (cfl lr lh ls o u la).lookup g := by
 by_cases h : g = "used"
 ·subst h; rw [if_pos rfl]; exact zaf ..
 ·rw [if_neg h]; unfold cfl; simp only [zw, if_neg h]
structure CAd where
 p : Addr
 lr : Addr
 lh : Addr
 ls : Addr
 la : Addr
structure CAd.Dis (a : CAd) : Prop where
 n1 : a.lr ≠ a.lh
 n2 : a.lr ≠ a.ls
 n3 : a.lr ≠ a.la
 n4 : a.lh ≠ a.ls
 n5 : a.lh ≠ a.la
 n6 : a.ls ≠ a.la
structure x0 (C : Addr) (H : Hp) (a : CAd) (ns : List Str) (ps said : List Int) (oil used : Int) (ws : List V) : Prop where
 ob : ∃ dx fs, H a.p = some (.ins C dx fs) ∧ Has fs (cfl a.lr a.lh a.ls oil used a.la)
 er : H a.lr = some (.lst (ns.map V.str))
 eh : H a.lh = some (.lst (ps.map V.int))
 es : H a.ls = some (.lst (said.map V.int))
 ea : H a.la = some (.lst ws)
 d : a.Dis
noncomputable def COut (a : CAd) (H H' : Hp) : Prop := ∀ b o, b ≠ a.p → b ≠ a.lr → b ≠ a.lh → b ≠ a.ls → b ≠ a.la → H b = some o → H' b = some o
theorem COut.refl (a : CAd) (H : Hp) : COut a H H := fun _ _ _ _ _ _ _ h => h
theorem COut.trans {a : CAd} {H H1 H2 : Hp} (x : COut a H H1) (y : COut a H1 H2) : COut a H H2 := fun c o n1 n2 n3 n4 n5 h => y c o n1 n2 n3 n4 n5 (x c o n1 n2 n3 n4 n5 h)
theorem COut.of {a : CAd} {H H' : Hp} (S : Same H H') : COut a H H' := fun b o _ _ _ _ _ h => S b o h
theorem x0.np {C : Addr} {H : Hp} {a : CAd} {ns : List Str} {ps said : List Int} {oil used : Int} {ws : List V} (h : x0 C H a ns ps said oil used ws) : a.p ≠ a.lr ∧ a.p ≠ a.lh ∧ a.p ≠ a.ls ∧ a.p ≠ a.la := by
 obtain ⟨dx, fs, e, _⟩ := h.ob
 exact ⟨x4 e h.er (fun z => by cases z), x4 e h.eh (fun z => by cases z), x4 e h.es (fun z => by cases z), x4 e h.ea (fun z => by cases z)⟩
theorem x0.same {C : Addr} {H H' : Hp} {a : CAd} {ns : List Str} {ps said : List Int} {oil used : Int} {ws : List V} (h : x0 C H a ns ps said oil used ws) (S : Same H H') : x0 C H' a ns ps said oil used ws := by
 obtain ⟨dx, fs, e, hf⟩ := h.ob
 exact ⟨⟨dx, fs, S _ _ e, hf⟩, S _ _ h.er, S _ _ h.eh, S _ _ h.es, S _ _ h.ea, h.d⟩
theorem x0.fld {C dx : Addr} {H : Hp} {a : CAd} {ns : List Str} {ps said : List Int} {oil used used' : Int} {ws : List V} {fs' : List (Str × V)} (h : x0 C H a ns ps said oil used ws) (hf : Has fs' (cfl a.lr a.lh a.ls oil used' a.la)) : x0 C (upd H a.p (.ins C dx fs')) a ns ps said oil used' ws ∧ COut a H (upd H a.p (.ins C dx fs')) := by
 obtain ⟨q1, q2, q3, q4⟩ := h.np
 exact ⟨⟨⟨dx, fs', zc, hf⟩, by rw [zl q1.symm]; exact h.er, by rw [zl q2.symm]; exact h.eh, by rw [zl q3.symm]; exact h.es, by rw [zl q4.symm]; exact h.ea, h.d⟩, fun b o n1 _ _ _ _ e => by rw [zl n1]; exact e⟩
theorem x0.rowTo {C : Addr} {H : Hp} {a : CAd} {ns : List Str} {ps said : List Int} {oil used : Int} {ws : List V} (h : x0 C H a ns ps said oil used ws) (ns' : List Str) : x0 C (upd H a.lr (.lst (ns'.map V.str))) a ns' ps said oil used ws ∧ COut a H (upd H a.lr (.lst (ns'.map V.str))) := by
 obtain ⟨q1, q2, q3, q4⟩ := h.np
 obtain ⟨dx, fs, e, hf⟩ := h.ob
 exact ⟨⟨⟨dx, fs, by rw [zl q1]; exact e, hf⟩, zc, by rw [zl h.d.n1.symm]; exact h.eh, by rw [zl h.d.n2.symm]; exact h.es, by rw [zl h.d.n3.symm]; exact h.ea, h.d⟩, fun b o _ n _ _ _ e => by rw [zl n]; exact e⟩
theorem x0.heldTo {C : Addr} {H : Hp} {a : CAd} {ns : List Str} {ps said : List Int} {oil used : Int} {ws : List V} (h : x0 C H a ns ps said oil used ws) (ps' : List Int) : x0 C (upd H a.lh (.lst (ps'.map V.int))) a ns ps' said oil used ws ∧ COut a H (upd H a.lh (.lst (ps'.map V.int))) := by
 obtain ⟨q1, q2, q3, q4⟩ := h.np
 obtain ⟨dx, fs, e, hf⟩ := h.ob
 exact ⟨⟨⟨dx, fs, by rw [zl q2]; exact e, hf⟩, by rw [zl h.d.n1]; exact h.er, zc, by rw [zl h.d.n4.symm]; exact h.es, by rw [zl h.d.n5.symm]; exact h.ea, h.d⟩, fun b o _ _ n _ _ e => by rw [zl n]; exact e⟩
theorem x0.saidTo {C : Addr} {H : Hp} {a : CAd} {ns : List Str} {ps said : List Int} {oil used : Int} {ws : List V} (h : x0 C H a ns ps said oil used ws) (said' : List Int) : x0 C (upd H a.ls (.lst (said'.map V.int))) a ns ps said' oil used ws ∧ COut a H (upd H a.ls (.lst (said'.map V.int))) := by
 obtain ⟨q1, q2, q3, q4⟩ := h.np
 obtain ⟨dx, fs, e, hf⟩ := h.ob
 exact ⟨⟨⟨dx, fs, by rw [zl q3]; exact e, hf⟩, by rw [zl h.d.n2]; exact h.er, by rw [zl h.d.n4]; exact h.eh, zc, by rw [zl h.d.n6.symm]; exact h.ea, h.d⟩, fun b o _ _ _ n _ e => by rw [zl n]; exact e⟩
theorem x0.aheadTo {C : Addr} {H : Hp} {a : CAd} {ns : List Str} {ps said : List Int} {oil used : Int} {ws : List V} (h : x0 C H a ns ps said oil used ws) (ws' : List V) : x0 C (upd H a.la (.lst ws')) a ns ps said oil used ws' ∧ COut a H (upd H a.la (.lst ws')) := by
 obtain ⟨q1, q2, q3, q4⟩ := h.np
 obtain ⟨dx, fs, e, hf⟩ := h.ob
 exact ⟨⟨⟨dx, fs, by rw [zl q4]; exact e, hf⟩, by rw [zl h.d.n3]; exact h.er, by rw [zl h.d.n5]; exact h.eh, by rw [zl h.d.n6]; exact h.es, zc, h.d⟩, fun b o _ _ _ _ n e => by rw [zl n]; exact e⟩
inductive IsOd (H : Hp) : V → Od → Prop where
 | set {a : Addr} {x : Str} {u : V} {s : Sm Str} : H a = some (.tup [.str "set", .str x, u]) → qy H u s → IsOd H (.ref a) (.set x s)
 | say {a : Addr} {u : V} {s : Sm Str} : H a = some (.tup [.str "say", u]) → qy H u s → IsOd H (.ref a) (.say s)
 | when {a p q : Addr} {u : V} {t : Ts} {vb vc : List V} {b c : Bk} : H a = some (.tup [.str "when", u, .ref p, .ref q]) → qu H u t → H p = some (.lst vb) → IsBk H noM vb b → H q = some (.lst vc) → IsBk H noM vc c → IsOd H (.ref a) (.when t b c)
 | whil {a p : Addr} {u : V} {t : Ts} {vb : List V} {b : Bk} : H a = some (.tup [.str "while", u, .ref p]) → qu H u t → H p = some (.lst vb) → IsBk H noM vb b → IsOd H (.ref a) (.whil t b)
 | wit {a p : Addr} {x : Str} {u : V} {s : Sm Str} {vb : List V} {b : Bk} : H a = some (.tup [.str "with", .str x, u, .ref p]) → qy H u s → H p = some (.lst vb) → IsBk H noM vb b → IsOd H (.ref a) (.wit x s b)
theorem IsOd.same {H H' : Hp} (S : Same H H') {v : V} {x : Od} (h : IsOd H v x) : IsOd H' v x := by
 cases h with
 | set e s => exact .set (S _ _ e) (s.mono S.tup)
 | say e s => exact .say (S _ _ e) (s.mono S.tup)
 | when e t e1 h1 e2 h2 => exact .when (S _ _ e) (t.mono S.tup) (S _ _ e1) (h1.same S) (S _ _ e2) (h2.same S)
 | whil e t e1 h1 => exact .whil (S _ _ e) (t.mono S.tup) (S _ _ e1) (h1.same S)
 | wit e s e1 h1 => exact .wit (S _ _ e) (s.mono S.tup) (S _ _ e1) (h1.same S)
theorem zaq {H : Hp} {vs : List V} {b : Bk} (h : IsBk H noM vs b) : Paired (IsOd H) vs b.ods := by
 induction h with
 | nil => exact .nil
 | set e s _ ih => exact .cons (.set e s) ih
 | say e s _ ih => exact .cons (.say e s) ih
 | when e t _ e1 h1 _ e2 h2 _ _ _ ih => exact .cons (.when e t e1 h1 e2 h2) ih
 | whil e t _ e1 h1 _ _ ih => exact .cons (.whil e t e1 h1) ih
 | wit e s _ e1 h1 _ _ ih => exact .cons (.wit e s e1 h1) ih
inductive IsWi (aw : V → Prop) (H : Hp) : V → Wi → Prop where
 | o {v : V} {x : Od} : IsOd H v x → IsWi aw H v (.o x)
 | gone {v : V} : aw v → IsWi aw H v .gone
theorem wy {aw : V → Prop} {H : Hp} : ∀ {vs : List V} {os : List Od}, Paired (IsOd H) vs os → Paired (IsWi aw H) vs (os.map Wi.o)
 | _, _, .nil => .nil
 | _, _, .cons h t => .cons (.o h) (wy t)
inductive WStp : Od → List Wi → List Str → List Int → List Int → List Wi → List Str → List Int → List Int → Prop where
 | set {x : Str} {a : Sm Str} {j : Nat} {r : List Wi} {ns : List Str} {ps s : List Int} : xq ns x = some j → WStp (.set x a) r ns ps s r ns (ps.set j (a.val ns ps)) s
 | say {a : Sm Str} {r : List Wi} {ns : List Str} {ps s : List Int} : WStp (.say a) r ns ps s r ns ps (s ++ [a.val ns ps])
 | when1 {t : Ts} {b c : Bk} {r : List Wi} {ns : List Str} {ps s : List Int} : t.val ns ps = true → WStp (.when t b c) r ns ps s (wis b ++ r) ns ps s
 | when0 {t : Ts} {b c : Bk} {r : List Wi} {ns : List Str} {ps s : List Int} : t.val ns ps = false → WStp (.when t b c) r ns ps s (wis c ++ r) ns ps s
 | whil1 {t : Ts} {b : Bk} {r : List Wi} {ns : List Str} {ps s : List Int} : t.val ns ps = true → WStp (.whil t b) r ns ps s (wis b ++ .o (.whil t b) :: r) ns ps s
 | whil0 {t : Ts} {b : Bk} {r : List Wi} {ns : List Str} {ps s : List Int} : t.val ns ps = false → WStp (.whil t b) r ns ps s r ns ps s
 | wit {x : Str} {a : Sm Str} {b : Bk} {r : List Wi} {ns : List Str} {ps s : List Int} : WStp (.wit x a b) r ns ps s (wis b ++ .gone :: r) (ns ++ [x]) (ps ++ [a.val ns ps]) s
theorem Walk.stp {n : Nat} {x : Od} {r : List Wi} {ns : List Str} {ps s : List Int} {l : Nat} {f : WFin} (w : Walk n (.o x :: r) ns ps s (l + 1) f) : ∃ m r' ns' ps' s', n = m + 1 ∧ WStp x r ns ps s r' ns' ps' s' ∧ Walk m r' ns' ps' s' l f := by
 cases w with
 | set e w => exact ⟨_, _, _, _, _, rfl, .set e, w⟩
 | say w => exact ⟨_, _, _, _, _, rfl, .say, w⟩
 | when1 e w => exact ⟨_, _, _, _, _, rfl, .when1 e, w⟩
 | when0 e w => exact ⟨_, _, _, _, _, rfl, .when0 e, w⟩
 | whil1 e w => exact ⟨_, _, _, _, _, rfl, .whil1 e, w⟩
 | whil0 e w => exact ⟨_, _, _, _, _, rfl, .whil0 e, w⟩
 | wit w => exact ⟨_, _, _, _, _, rfl, .wit, w⟩
noncomputable def Od.n : Od → Nat
 | .set _ _ => 1
 | .say _ => 1
 | .when _ b c => b.n + c.n + 1
 | .whil _ b => b.n + 1
 | .wit _ _ b => b.n + 1
theorem Bk.ods_n : ∀ (b : Bk), b.ods.length ≤ b.n ∧ ∀ x ∈ b.ods, x.n ≤ b.n
 | .nil => ⟨Nat.le_refl _, fun x hx => by cases hx⟩
 | .set y a r => by
  have h := Bk.ods_n r
  refine ⟨Nat.succ_le_succ h.1, fun x hx => ?_⟩
  rcases List.mem_cons.mp hx with rfl | hx
  ·show 1 ≤ r.n + 1; omega
  ·have := h.2 x hx; show x.n ≤ r.n + 1; omega
 | .say a r => by
  have h := Bk.ods_n r
  refine ⟨Nat.succ_le_succ h.1, fun x hx => ?_⟩
  rcases List.mem_cons.mp hx with rfl | hx
  ·show 1 ≤ r.n + 1; omega
  ·have := h.2 x hx; show x.n ≤ r.n + 1; omega
 | .when t b c r => by
  have h := Bk.ods_n r
  refine ⟨by show r.ods.length + 1 ≤ b.n + c.n + r.n + 1; omega, fun x hx => ?_⟩
  rcases List.mem_cons.mp hx with rfl | hx
  ·show b.n + c.n + 1 ≤ b.n + c.n + r.n + 1; omega
  ·have := h.2 x hx; show x.n ≤ b.n + c.n + r.n + 1; omega
 | .whil t b r => by
  have h := Bk.ods_n r
  refine ⟨by show r.ods.length + 1 ≤ b.n + r.n + 1; omega, fun x hx => ?_⟩
  rcases List.mem_cons.mp hx with rfl | hx
  ·show b.n + 1 ≤ b.n + r.n + 1; omega
  ·have := h.2 x hx; show x.n ≤ b.n + r.n + 1; omega
 | .wit y a b r => by
  have h := Bk.ods_n r
  refine ⟨by show r.ods.length + 1 ≤ b.n + r.n + 1; omega, fun x hx => ?_⟩
  rcases List.mem_cons.mp hx with rfl | hx
  ·show b.n + 1 ≤ b.n + r.n + 1; omega
  ·have := h.2 x hx; show x.n ≤ b.n + r.n + 1; omega
structure WInv (ns0 : List Str) (todo : List Wi) (ns : List Str) (ps s : List Int) (l : Nat) : Prop where
 sc : Sc ns0 todo ns
 pl : ps.length = ns.length
 nl : ns.length ≤ 500
 few : ∀ x, Wi.o x ∈ todo → x.n ≤ 400
 tl : todo.length + 500 * l ≤ 1000000
 sl : s.length + l ≤ 900000
theorem zb6 {b : Bk} {r : List Wi} (hb : b.n ≤ 400) (h : ∀ x, Wi.o x ∈ r → x.n ≤ 400) : ∀ x, Wi.o x ∈ wis b ++ r → x.n ≤ 400 := fun x hx => by
 rcases List.mem_append.mp hx with hx | hx
 ·obtain ⟨y, hy, e⟩ := List.mem_map.mp hx
  cases e
  exact Nat.le_trans (b.ods_n.2 _ hy) hb
 ·exact h x hx
theorem WInv.next {ns0 : List Str} {x : Od} {r r' : List Wi} {ns ns' : List Str} {ps s ps' s' : List Int} {l : Nat} (h : WInv ns0 (.o x :: r) ns ps s (l + 1)) (st : WStp x r ns ps s r' ns' ps' s') : WInv ns0 r' ns' ps' s' l := by
 obtain ⟨sc, pl, nl, few, tl, sl⟩ := h
 have few' : ∀ x, Wi.o x ∈ r → x.n ≤ 400 := fun x hx => few x (List.mem_cons_of_mem _ hx)
 have fx := few x (List.mem_cons_self ..)
 rw [List.length_cons] at tl
 cases sc with
 | o lx sc =>
  cases st with
  | set e => exact ⟨sc, by rw [List.length_set]; exact pl, nl, few', by omega, by omega⟩
  | say => exact ⟨sc, pl, nl, few', by omega, by rw [List.length_append]; show _ + 1 + _ ≤ _; omega⟩
  | @when1 t b c _ _ _ _ e =>
   have fx' : b.n + c.n + 1 ≤ 400 := fx
   have := b.ods_n.1
   exact ⟨xz lx.2.1 sc, pl, nl, zb6 (by omega) few', by rw [List.length_append, List.length_map]; omega, by omega⟩
  | @when0 t b c _ _ _ _ e =>
   have fx' : b.n + c.n + 1 ≤ 400 := fx
   have := c.ods_n.1
   exact ⟨xz lx.2.2 sc, pl, nl, zb6 (by omega) few', by rw [List.length_append, List.length_map]; omega, by omega⟩
  | @whil1 t b _ _ _ _ e =>
   have fx' : b.n + 1 ≤ 400 := fx
   have := b.ods_n.1
   refine ⟨xz lx.2 (.o lx sc), pl, nl, zb6 (by omega) few, by rw [List.length_append, List.length_map, List.length_cons]; omega, by omega⟩
  | whil0 e => exact ⟨sc, pl, nl, few', by omega, by omega⟩
  | @wit y a b _ _ _ _ =>
   have fx' : b.n + 1 ≤ 400 := fx
   have := b.ods_n.1
   have := lx.2.1
   refine ⟨xz lx.2.2 (.gone sc), by rw [List.length_append, List.length_append, pl]; rfl, by rw [List.length_append]; show _ + 1 ≤ _; omega, zb6 (by omega) (fun x hx => ?_), by rw [List.length_append, List.length_map, List.length_cons]; omega, by omega⟩
   rcases List.mem_cons.mp hx with hx | hx
   ·cases hx
   ·exact few' x hx
theorem WInv.gone {ns0 : List Str} {x : Str} {r : List Wi} {ns : List Str} {ps s : List Int} {i : Int} {l : Nat} (h : WInv ns0 (.gone :: r) (ns ++ [x]) (ps ++ [i]) s l) : WInv ns0 r ns ps s l := by
 obtain ⟨sc, pl, nl, few, tl, sl⟩ := h
 rw [List.length_append, List.length_append] at pl
 rw [List.length_append] at nl
 rw [List.length_cons] at tl
 generalize e : ns ++ [x] = ns2 at sc
 cases sc with
 | gone sc =>
  obtain ⟨rfl, _⟩ := List.append_inj' e rfl
  exact ⟨sc, by have : ps.length + 1 = ns.length + 1 := pl; omega, by have : ns.length + 1 ≤ 500 := nl; omega, fun x hx => few x (List.mem_cons_of_mem _ hx), by omega, sl⟩
theorem WInv.start {b : Bk} {ns : List Str} {ps : List Int} {l : Nat} (hb : b.lin ns) (hn : b.n ≤ 400) (pl : ps.length = ns.length) (nl : ns.length ≤ 500) (hl : l ≤ 1000) : WInv ns (wis b) ns ps [] l := by
 have := b.ods_n
 have sc := xz hb (Sc.nil (ns0 := ns))
 rw [List.append_nil] at sc
 refine ⟨sc, pl, nl, fun x hx => ?_, by rw [List.length_map]; omega, by show 0 + l ≤ _; omega⟩
 obtain ⟨y, hy, e⟩ := List.mem_map.mp hx
 cases e
 exact Nat.le_trans (this.2 _ hy) hn
structure CNew (a : CAd) (H0 : Hp) : Prop where
 p : H0 a.p = none
 lr : H0 a.lr = none
 lh : H0 a.lh = none
 ls : H0 a.ls = none
 la : H0 a.la = none
theorem CNew.same {a : CAd} {H0 H H' : Hp} (n : CNew a H0) (S : Same H0 H) (M : COut a H H') : Same H0 H' := fun b o e =>
 M b o (zt e n.p) (zt e n.lr) (zt e n.lh) (zt e n.ls) (zt e n.la) (S b o e)
noncomputable def gw (H : Hp) : V → Prop := fun v => ∃ a, v = .ref a ∧ H a = some (.tup [.str "gone"])
theorem zbh {H H' : Hp} (L : j8 H H') {v : V} (h : gw H v) : gw H' v := by
 obtain ⟨a, e, h⟩ := h
 exact ⟨a, e, L _ _ h⟩
theorem IsWi.mono {aw aw' : V → Prop} {H : Hp} (g : ∀ v, aw v → aw' v) {v : V} {x : Wi} (h : IsWi aw H v x) : IsWi aw' H v x := by
 cases h with
 | o h => exact .o h
 | gone h => exact .gone (g _ h)
structure WAd where
 ln : Addr
 lp : Addr
 lt : Addr
structure WAt (H0 H : Hp) (a : WAd) (ns : List Str) (ps told : List Int) : Prop where
 en : H a.ln = some (.lst (ns.map V.str))
 ep : H a.lp = some (.lst (ps.map V.int))
 et : H a.lt = some (.lst (told.map V.int))
 n1 : a.ln ≠ a.lp
 n2 : a.ln ≠ a.lt
 n3 : a.lp ≠ a.lt
 f1 : H0 a.ln = none
 f2 : H0 a.lp = none
 f3 : H0 a.lt = none
noncomputable def WOut (a : WAd) (H H' : Hp) : Prop := ∀ b o, b ≠ a.ln → b ≠ a.lp → b ≠ a.lt → H b = some o → H' b = some o
theorem WOut.trans {a : WAd} {H H1 H2 : Hp} (x : WOut a H H1) (y : WOut a H1 H2) : WOut a H H2 := fun c o n1 n2 n3 h => y c o n1 n2 n3 (x c o n1 n2 n3 h)
theorem WOut.of {a : WAd} {H H' : Hp} (S : Same H H') : WOut a H H' := fun b o _ _ _ h => S b o h
theorem WAt.old {H0 H H' : Hp} {a : WAd} {ns : List Str} {ps told : List Int} (h : WAt H0 H a ns ps told) (S : Same H0 H) (M : WOut a H H') : Same H0 H' := fun b o e => M b o (zt e h.f1) (zt e h.f2) (zt e h.f3) (S b o e)
theorem WAt.same {H0 H H' : Hp} {a : WAd} {ns : List Str} {ps told : List Int} (h : WAt H0 H a ns ps told) (S : Same H H') : WAt H0 H' a ns ps told := ⟨S _ _ h.en, S _ _ h.ep, S _ _ h.et, h.n1, h.n2, h.n3, h.f1, h.f2, h.f3⟩
theorem WAt.tup {H0 H H' : Hp} {a : WAd} {ns : List Str} {ps told : List Int} (h : WAt H0 H a ns ps told) (M : WOut a H H') : j8 H H' := fun b xs e => M b _ (x4 e h.en (fun z => by cases z)) (x4 e h.ep (fun z => by cases z)) (x4 e h.et (fun z => by cases z)) e
theorem WAt.namesTo {H0 H : Hp} {a : WAd} {ns : List Str} {ps told : List Int} (h : WAt H0 H a ns ps told) (ns' : List Str) : WAt H0 (upd H a.ln (.lst (ns'.map V.str))) a ns' ps told ∧ WOut a H (upd H a.ln (.lst (ns'.map V.str))) :=
 ⟨⟨zc, by rw [zl h.n1.symm]; exact h.ep, by rw [zl h.n2.symm]; exact h.et, h.n1, h.n2, h.n3, h.f1, h.f2, h.f3⟩, fun b o n _ _ e => by rw [zl n]; exact e⟩
theorem WAt.potsTo {H0 H : Hp} {a : WAd} {ns : List Str} {ps told : List Int} (h : WAt H0 H a ns ps told) (ps' : List Int) : WAt H0 (upd H a.lp (.lst (ps'.map V.int))) a ns ps' told ∧ WOut a H (upd H a.lp (.lst (ps'.map V.int))) :=
 ⟨⟨by rw [zl h.n1]; exact h.en, zc, by rw [zl h.n3.symm]; exact h.et, h.n1, h.n2, h.n3, h.f1, h.f2, h.f3⟩, fun b o _ n _ e => by rw [zl n]; exact e⟩
theorem WAt.toldTo {H0 H : Hp} {a : WAd} {ns : List Str} {ps told : List Int} (h : WAt H0 H a ns ps told) (told' : List Int) : WAt H0 (upd H a.lt (.lst (told'.map V.int))) a ns ps told' ∧ WOut a H (upd H a.lt (.lst (told'.map V.int))) :=
 ⟨⟨by rw [zl h.n2]; exact h.en, by rw [zl h.n3]; exact h.ep, zc, h.n1, h.n2, h.n3, h.f1, h.f2, h.f3⟩, fun b o _ _ n e => by rw [zl n]; exact e⟩
end J
namespace W12
open PySem L2 J
section
variable {P : Program} {w : World} {K : W.Frag} {mg : Str → Option Value} {base : Heap}
noncomputable def spPutA (C : Addr) : Sp := fun vs H Q _ => ∃ (a : CAd) (ns : List Str) (ps said : List Int) (oil used : Int) (ws us : List V) (lb : Addr), vs = [.ref a.p, .ref lb] ∧ x0 C H a ns ps said oil used ws ∧ H lb = some (.lst us) ∧ ws.length + us.length ≤ 1000000 ∧
 ∀ H', x0 C H' a ns ps said oil used (ws ++ us.reverse) → COut a H H' → Q .non H'
theorem jj (T : Txt K mg) : FnOk P w K mg base CX0 1 T.f_Course_put_ahead T.fd_Course_put_ahead ["self", "block"] (spPutA T.c_Course) := by
 refine T.Course_put_ahead.F.ok sc_Course_put_ahead (fun vs H Q E h => ?_) (fun cdv A outer s H vs Q E hr h => ?_)
 ·obtain ⟨a, ns, ps, said, oil, used, ws, us, lb, rfl, _⟩ := h; rfl
 obtain ⟨a, ns, ps, said, oil, used, ws, us, lb, rfl, hM, hb, hl, q⟩ := h
 refine ⟨_, (zg (qc (qx F.plainAttrs_list F.slot_list_extend F.type_list_extend qz (qq (pv 0) rfl) (za (vz rfl rfl T.b_list rfl T.b_reversed vg (pv 1)) zb)))), ?_⟩
 try dsimp only[kx,kxb]
 obtain ⟨dx, fs, e, hf⟩ := hM.ob
 refine ⟨_, rfl, a.p, T.c_Course, dx, fs, _, rfl, e, T.cl_Course, T.na_Course_ahead, (hf.at_ _).trans (zb7 ..), .inl ⟨rfl, _, SqL.of hM.ea⟩, ?_⟩
 refine ⟨_, rfl, lb, us, rfl, hb, fun p2 hp2 => ?_⟩
 have S2 := ze hp2 (.lst us.reverse)
 refine ⟨a.la, p2, _, _, rfl, rfl, S2 _ _ hM.ea, .inl zc, by rw [sizeLine_eq, List.length_reverse]; omega, ?_⟩
 have r := (hM.same S2).aheadTo (ws ++ us.reverse)
 exact q _ r.1 ((COut.of S2).trans r.2)
noncomputable def spWNow (C : Addr) : Sp := fun vs H Q _ => ∃ (a : CAd) (ns : List Str) (ps said : List Int) (oil used : Int) (ws : List V) (u : V) (s : Sm Str), vs = [.ref a.p, u] ∧ x0 C H a ns ps said oil used ws ∧ qy H u s ∧ s.fin ns ∧ ps.length = ns.length ∧ ns.length ≤ 500 ∧ Q (.int (s.val ns ps)) H
theorem wo (T : Txt K mg) : FnOk P w K mg base CX0 23 T.f_Course_worth_now T.fd_Course_worth_now ["self", "part"] (spWNow T.c_Course) := by
 have G_worth := zd0 (P := P) (w := w) (base := base) T 20
 refine T.Course_worth_now.F.ok sc_Course_worth_now (fun vs H Q E h => ?_) (fun cdv A outer s H vs Q E hr h => ?_)
 ·obtain ⟨a, ns, ps, said, oil, used, ws, u, s, rfl, _⟩ := h; rfl
 obtain ⟨a, ns, ps, said, oil, used, ws, u, s, rfl, hM, hu, hf2, pl, nl, q⟩ := h
 refine ⟨_, (zg (zr (zk G_worth hr rfl T.worth.m T.worth.F.kp T.worth.b .nil zq (za (pv 1) (za (qq (pv 0) rfl) (za (qq (pv 0) rfl) zb)))))), ?_⟩
 try dsimp only[kx,kxb]
 obtain ⟨dx, fs, e, hf⟩ := hM.ob
 refine ⟨_, rfl, _, rfl, a.p, T.c_Course, dx, fs, _, rfl, e, T.cl_Course, T.na_Course_row, (hf.at_ _).trans (zc0 ..), _, rfl, a.p, T.c_Course, dx, fs, _, rfl, e, T.cl_Course, T.na_Course_held, (hf.at_ _).trans (za5 ..), ?_⟩
 exact ⟨u, a.lr, a.lh, ns, ps, s, rfl, hu, hf2.2.1, SqL.of hM.er, SqL.of hM.eh, pl, by omega, hf2.1, q⟩
noncomputable def spHNow (C : Addr) : Sp := fun vs H Q _ => ∃ (a : CAd) (ns : List Str) (ps said : List Int) (oil used : Int) (ws : List V) (u : V) (t : Ts), vs = [.ref a.p, u] ∧ x0 C H a ns ps said oil used ws ∧ qu H u t ∧ t.fin ns ∧ ps.length = ns.length ∧ ns.length ≤ 500 ∧ Q (.bl (t.val ns ps)) H
theorem wp (T : Txt K mg) : FnOk P w K mg base CX0 23 T.f_Course_holds_now T.fd_Course_holds_now ["self", "test"] (spHNow T.c_Course) := by
 have G_holds := zfr (P := P) (w := w) (base := base) T 20
 refine T.Course_holds_now.F.ok sc_Course_holds_now (fun vs H Q E h => ?_) (fun cdv A outer s H vs Q E hr h => ?_)
 ·obtain ⟨a, ns, ps, said, oil, used, ws, u, s, rfl, _⟩ := h; rfl
 obtain ⟨a, ns, ps, said, oil, used, ws, u, s, rfl, hM, hu, hf2, pl, nl, q⟩ := h
 refine ⟨_, (zg (zr (zk G_holds hr rfl T.holds.m T.holds.F.kp T.holds.b .nil zq (za (pv 1) (za (qq (pv 0) rfl) (za (qq (pv 0) rfl) zb)))))), ?_⟩
 try dsimp only[kx,kxb]
 obtain ⟨dx, fs, e, hf⟩ := hM.ob
 refine ⟨_, rfl, _, rfl, a.p, T.c_Course, dx, fs, _, rfl, e, T.cl_Course, T.na_Course_row, (hf.at_ _).trans (zc0 ..), _, rfl, a.p, T.c_Course, dx, fs, _, rfl, e, T.cl_Course, T.na_Course_held, (hf.at_ _).trans (za5 ..), ?_⟩
 exact ⟨u, a.lr, a.lh, ns, ps, s, rfl, hu, hf2.2.1, SqL.of hM.er, SqL.of hM.eh, pl, by omega, hf2.1, q⟩
end
open PySem L2 J
section
variable {P : Program} {w : World} {K : W.Frag} {mg : Str → Option Value} {base : Heap}
noncomputable def ze2 (C : Addr) (aw : V → Prop) (kd : Od → Prop) : Sp := fun vs H Q _ => ∃ (a : CAd) (ns0 ns ns' : List Str) (ps ps' said said' : List Int) (oil used : Int) (ws : List V) (v : V) (x : Od) (r r' : List Wi) (l : Nat) (H0 : Hp),
 vs = [.ref a.p, v] ∧ kd x ∧ x0 C H a ns ps said oil used ws ∧ CNew a H0 ∧ Same H0 H ∧ Paired (IsWi aw H0) ws.reverse r ∧ IsOd H0 v x ∧ WInv ns0 (.o x :: r) ns ps said (l + 1) ∧ WStp x r ns ps said r' ns' ps' said' ∧
 ∀ H' ws', x0 C H' a ns' ps' said' oil used ws' → Paired (IsWi aw H0) ws'.reverse r' → COut a H H' → Q .non H'
noncomputable def kWhil : Od → Prop
 | .whil _ _ => True
 | _ => False
noncomputable def kWit : Od → Prop
 | .wit _ _ _ => True
 | _ => False
theorem zdk {F : V → Wi → Prop} {ws us : List V} {r : List Wi} {b : Bk} (h : Paired F ws.reverse r) (g : Paired F us (wis b)) : Paired F (ws ++ us.reverse).reverse (wis b ++ r) := by
 rw [List.reverse_append, List.reverse_reverse]
 exact papp g h
theorem ok_Course_begin_while (T : Txt K mg) : FnOk P w K mg base CX0 24 T.f_Course_begin_while T.fd_Course_begin_while ["self", "order"] (ze2 T.c_Course (fun v => v = .ref T.a_AWAY) kWhil) := by
 have G_Course_holds_now := wp (P := P) (w := w) (base := base) T
 have G_Course_put_ahead := (jj (P := P) (w := w) (base := base) T).mono (show 1 ≤ 23 by omega)
 refine T.Course_begin_while.F.ok sc_Course_begin_while (fun vs H Q E h => ?_) (fun cdv A outer s H vs Q E hr h => ?_)
 ·obtain ⟨a, ns0, ns, ns', ps, ps', said, said', oil, used, ws, v, x, r, r', l, H0, rfl, _⟩ := h; rfl
 obtain ⟨a, ns0, ns, ns', ps, ps', said, said', oil, used, ws, v, x, r, r', l, H0, rfl, hk, hM, hN, S0, hP, hx, hI, hst, q⟩ := h
 refine ⟨_, (zg (z0 (ki (x3 (pv 0) T.cl_Course T.me_Course_holds_now G_Course_holds_now hr T.Course_holds_now.b .nil zq (za (zn zm (pv 1) zd (fun _ _ => rfl)) zb))) (zf (qc (qx F.plainAttrs_list F.slot_list_append F.type_list_append qo (qq (pv 0) rfl) (za (pv 1) zb)))
  (zg (qc (x3 (pv 0) T.cl_Course T.me_Course_put_ahead G_Course_put_ahead hr T.Course_put_ahead.b .nil zq (za (zn zm (pv 1) zd (fun _ _ => rfl)) zb))))) zv)), ?_⟩
 try dsimp only[kx,kxb]
 obtain ⟨dx, fs, e, hf⟩ := hM.ob
 cases hx with
 | set _ _ => exact hk.elim
 | say _ _ => exact hk.elim
 | when _ _ _ _ _ _ => exact hk.elim
 | wit _ _ _ _ => exact hk.elim
 | @whil c p1 u t vb b ec ht e1 h1 =>
  have hlin : t.fin ns ∧ b.lin ns := by cases hI.sc with | o lx _ => exact lx
  have ec' := S0 _ _ ec
  refine ⟨_, rfl, a.p, dx, fs, rfl, e, (hf.at_ _).trans (v7 (by decide +kernel)), _, rfl, _, _, _, _, rfl, rfl, SqT.of ec', zu (j := 1) rfl, ?_⟩
  refine ⟨a, ns, ps, said, oil, used, ws, u, t, rfl, hM, ht.mono S0.tup, hlin.1, hI.pl, hI.nl, _, rfl, ?_⟩
  have hwl := plen hP
  rw [List.length_reverse] at hwl
  have htl := hI.tl
  have hfew := hI.few (.whil t b) (List.mem_cons_self ..)
  have hfew' : b.n + 1 ≤ 400 := hfew
  have hbl := h1.len
  rw [List.length_cons] at htl
  cases hst with
  | whil1 hv =>
   rw [hv]
   refine qj rfl ?_
   refine ⟨_, rfl, a.p, T.c_Course, dx, fs, _, rfl, e, T.cl_Course, T.na_Course_ahead, (hf.at_ _).trans (zb7 ..), .inl ⟨rfl, _, SqL.of hM.ea⟩, _, rfl, ?_⟩
   refine ⟨_, _, _, rfl, rfl, hM.ea, by rw [sizeLine_eq]; omega, ?_⟩
   obtain ⟨hM2, M2⟩ := hM.aheadTo (ws ++ [.ref c])
   have S2 := hN.same S0 M2
   obtain ⟨dx2, fs2, e2, hf2⟩ := hM2.ob
   refine ⟨_, rfl, a.p, dx2, fs2, rfl, e2, (hf2.at_ _).trans (v7 (by decide +kernel)), _, rfl, _, _, _, _, rfl, rfl, SqT.of (S2 _ _ ec), zu (j := 2) rfl, ?_⟩
   refine ⟨a, ns, ps, said, oil, used, _, vb, p1, rfl, hM2, S2 _ _ e1, by rw [List.length_append]; show _ + 1 + _ ≤ _; omega, fun H3 hM3 M3 => ?_⟩
   refine q H3 _ hM3 (zdk ?_ (wy (zaq h1))) (M2.trans M3)
   rw [List.reverse_append]
   exact .cons (.o (.whil ec ht e1 h1)) hP
  | whil0 hv =>
   rw [hv]
   exact zo rfl (q H ws hM hP (COut.refl a H))
theorem ok_Course_begin_with (T : Txt K mg) : FnOk P w K mg base CX0 24 T.f_Course_begin_with T.fd_Course_begin_with ["self", "order"] (ze2 T.c_Course (fun v => v = .ref T.a_AWAY) kWit) := by
 have G_Course_worth_now := wo (P := P) (w := w) (base := base) T
 have G_Course_put_ahead := (jj (P := P) (w := w) (base := base) T).mono (show 1 ≤ 23 by omega)
 refine T.Course_begin_with.F.ok wb (fun vs H Q E h => ?_) (fun cdv A outer s H vs Q E hr h => ?_)
 ·obtain ⟨a, ns0, ns, ns', ps, ps', said, said', oil, used, ws, v, x, r, r', l, H0, rfl, _⟩ := h; rfl
 obtain ⟨a, ns0, ns, ns', ps, ps', said, said', oil, used, ws, v, x, r, r', l, H0, rfl, hk, hM, hN, S0, hP, hx, hI, hst, q⟩ := h
 refine ⟨_, (zf (zx (i := 2) wb.nd rfl (Or.inl rfl) (x3 (pv 0) T.cl_Course T.me_Course_worth_now G_Course_worth_now hr T.Course_worth_now.b .nil zq (za (zn zm (pv 1) zd (fun _ _ => rfl)) zb)))
  (zf (qc (qx F.plainAttrs_list F.slot_list_append F.type_list_append qo (qq (pv 0) rfl) (za (zn zm (pv 1) zd (fun _ _ => rfl)) zb)))
  (zf (qc (qx F.plainAttrs_list F.slot_list_append F.type_list_append qo (qq (pv 0) rfl) (za (pv 2) zb)))
  (zf (qc (qx F.plainAttrs_list F.slot_list_append F.type_list_append qo (qq (pv 0) rfl) (za (ze4 (v := .ref T.a_AWAY) rfl T.m_AWAY rfl) zb)))
  (zg (qc (x3 (pv 0) T.cl_Course T.me_Course_put_ahead G_Course_put_ahead hr T.Course_put_ahead.b .nil zq (za (zn zm (pv 1) zd (fun _ _ => rfl)) zb)))))))), ?_⟩
 try dsimp only[kx,kxb]
 obtain ⟨dx, fs, e, hf⟩ := hM.ob
 cases hx with
 | set _ _ => exact hk.elim
 | say _ _ => exact hk.elim
 | when _ _ _ _ _ _ => exact hk.elim
 | whil _ _ _ _ => exact hk.elim
 | @wit c p1 x u t vb b ec ht e1 h1 =>
  have hlin : t.fin ns ∧ ns.length < 500 ∧ b.lin (ns ++ [x]) := by cases hI.sc with | o lx _ => exact lx
  have ec' := S0 _ _ ec
  have hwl := plen hP
  rw [List.length_reverse] at hwl
  have htl := hI.tl
  have hpl := hI.pl
  have hfew := hI.few (.wit x t b) (List.mem_cons_self ..)
  have hfew' : b.n + 1 ≤ 400 := hfew
  have hbl := h1.len
  rw [List.length_cons] at htl
  cases hst
  refine ⟨_, rfl, a.p, dx, fs, rfl, e, (hf.at_ _).trans (v7 (by decide +kernel)), _, rfl, _, _, _, _, rfl, rfl, SqT.of ec', zu (j := 2) rfl, ?_⟩
  refine ⟨a, ns, ps, said, oil, used, ws, u, t, rfl, hM, ht.mono S0.tup, hlin.1, hI.pl, hI.nl, ?_⟩
  refine ⟨_, rfl, a.p, T.c_Course, dx, fs, _, rfl, e, T.cl_Course, T.na_Course_row, (hf.at_ _).trans (zc0 ..), .inl ⟨rfl, _, SqL.of hM.er⟩, _, rfl, _, _, _, _, rfl, rfl, SqT.of ec', zu (j := 1) rfl, ?_⟩
  refine ⟨_, _, _, rfl, rfl, hM.er, by rw [sizeLine_eq, List.length_map]; omega, ?_⟩
  obtain ⟨hM1, M1⟩ := hM.rowTo (ns ++ [x])
  rw [List.map_append] at hM1 M1
  have S1 := hN.same S0 M1
  obtain ⟨dx1, fs1, e1', hf1⟩ := hM1.ob
  refine ⟨_, rfl, a.p, T.c_Course, dx1, fs1, _, rfl, e1', T.cl_Course, T.na_Course_held, (hf1.at_ _).trans (za5 ..), .inl ⟨rfl, _, SqL.of hM1.eh⟩, _, rfl, ?_⟩
  refine ⟨_, _, _, rfl, rfl, hM1.eh, by rw [sizeLine_eq, List.length_map]; omega, ?_⟩
  obtain ⟨hM2, M2⟩ := hM1.heldTo (ps ++ [t.val ns ps])
  rw [List.map_append] at hM2 M2
  have S2 := hN.same S1 M2
  obtain ⟨dx2, fs2, e2', hf2⟩ := hM2.ob
  refine ⟨_, rfl, a.p, T.c_Course, dx2, fs2, _, rfl, e2', T.cl_Course, T.na_Course_ahead, (hf2.at_ _).trans (zb7 ..), .inl ⟨rfl, _, SqL.of hM2.ea⟩, ?_⟩
  refine ⟨_, _, _, rfl, rfl, hM2.ea, by rw [sizeLine_eq]; omega, ?_⟩
  obtain ⟨hM3, M3⟩ := hM2.aheadTo (ws ++ [.ref T.a_AWAY])
  have S3 := hN.same S2 M3
  obtain ⟨dx3, fs3, e3', hf3⟩ := hM3.ob
  refine ⟨_, rfl, a.p, dx3, fs3, rfl, e3', (hf3.at_ _).trans (v7 (by decide +kernel)), _, rfl, _, _, _, _, rfl, rfl, SqT.of (S3 _ _ ec), zu (j := 3) rfl, ?_⟩
  refine ⟨a, ns ++ [x], ps ++ [t.val ns ps], said, oil, used, _, vb, p1, rfl, hM3, S3 _ _ e1, by rw [List.length_append]; show _ + 1 + _ ≤ _; omega, fun H4 hM4 M4 => ?_⟩
  refine q H4 _ hM4 (zdk ?_ (wy (zaq h1))) (M1.trans (M2.trans (M3.trans M4)))
  rw [List.reverse_append]
  exact .cons (.gone rfl) hP
end
open PySem L2 J
section
variable {P : Program} {w : World} {K : W.Frag} {mg : Str → Option Value} {base : Heap}
theorem ok_Course_begin (T : Txt K mg) : FnOk P w K mg base CX0 25 T.f_Course_begin T.fd_Course_begin ["self", "order"] (ze2 T.c_Course (fun v => v = .ref T.a_AWAY) (fun _ => True)) := by
 have G_Course_worth_now := (wo (P := P) (w := w) (base := base) T).mono (show 23 ≤ 24 by omega)
 have G_Course_holds_now := (wp (P := P) (w := w) (base := base) T).mono (show 23 ≤ 24 by omega)
 have G_Course_put_ahead := (jj (P := P) (w := w) (base := base) T).mono (show 1 ≤ 24 by omega)
 have G_place_of := (zaj (P := P) (w := w) (base := base) T).mono (show 1 ≤ 24 by omega)
 have G_Course_begin_while := ok_Course_begin_while (P := P) (w := w) (base := base) T
 have G_Course_begin_with := ok_Course_begin_with (P := P) (w := w) (base := base) T
 refine T.Course_begin.F.ok zbk (fun vs H Q E h => ?_) (fun cdv A outer s H vs Q E hr h => ?_)
 ·obtain ⟨a, ns0, ns, ns', ps, ps', said, said', oil, used, ws, v, x, r, r', l, H0, rfl, _⟩ := h; rfl
 obtain ⟨a, ns0, ns, ns', ps, ps', said, said', oil, used, ws, v, x, r, r', l, H0, rfl, hk, hM, hN, S0, hP, hx, hI, hst, q⟩ := h
 refine ⟨_, (zf (zx (i := 2) zbk.nd rfl (Or.inl rfl) (zn zm (pv 1) zd (fun _ _ => rfl)))
  (zg (z0 (zj qi (pv 2) zi (zp _)) (zg (zdw (x3 (pv 0) T.cl_Course T.me_Course_worth_now G_Course_worth_now hr T.Course_worth_now.b .nil zq (za (zn zm (pv 1) zd (fun _ _ => rfl)) zb)) (zdy (qq (pv 0) rfl) (zk G_place_of hr rfl T.place_of.m T.place_of.F.kp T.place_of.b .nil zq (za (qq (pv 0) rfl) (za (zn zm (pv 1) zd (fun _ _ => rfl)) zb))) zbn))) (zg (z0 (zj qi (pv 2) zi (zp _)) (zg (qc (qx F.plainAttrs_list F.slot_list_append F.type_list_append qo (qq (pv 0) rfl) (za (x3 (pv 0) T.cl_Course T.me_Course_worth_now G_Course_worth_now hr T.Course_worth_now.b .nil zq (za (zn zm (pv 1) zd (fun _ _ => rfl)) zb)) zb)))) (zg (z0 (zj qi (pv 2) zi (zp _)) (zg (qc (x3 (pv 0) T.cl_Course T.me_Course_put_ahead G_Course_put_ahead hr T.Course_put_ahead.b .nil zq (za (zfp (ki (x3 (pv 0) T.cl_Course T.me_Course_holds_now G_Course_holds_now hr T.Course_holds_now.b .nil zq (za (zn zm (pv 1) zd (fun _ _ => rfl)) zb))) (zn zm (pv 1) zd (fun _ _ => rfl)) (zn zm (pv 1) zd (fun _ _ => rfl))) zb)))) (zg (z0 (zj qi (pv 2) zi (zp _)) (zg (qc (x3 (pv 0) T.cl_Course T.me_Course_begin_while G_Course_begin_while hr T.Course_begin_while.b .nil zq (za (pv 1) zb)))) (zg (qc (x3 (pv 0) T.cl_Course T.me_Course_begin_with G_Course_begin_with hr T.Course_begin_with.b .nil zq (za (pv 1) zb))))))))))))), ?_⟩
 try dsimp only[kx,kxb]
 obtain ⟨dx, fs, e, hf⟩ := hM.ob
 have hpl := hI.pl
 have hnl := hI.nl
 have hsl := hI.sl
 have htl := hI.tl
 rw [List.length_cons] at htl
 have hwl := plen hP
 rw [List.length_reverse] at hwl
 cases hx with
 | @set c x u t ec ht =>
  have hlin : x ∈ ns ∧ t.fin ns := by cases hI.sc with | o lx _ => exact lx
  have ec' := S0 _ _ ec
  cases hst with
  | @set _ _ j _ _ _ _ hj =>
   have hlt := v5 hj
   refine ⟨_, rfl, _, _, _, _, rfl, rfl, SqT.of ec', at0, ?_⟩
   refine ⟨_, rfl, rfl, _, rfl, qj (by decide +kernel) ?_⟩
   refine ⟨_, rfl, a.p, dx, fs, rfl, e, (hf.at_ _).trans (v7 (by decide +kernel)), _, rfl, _, _, _, _, rfl, rfl, SqT.of ec', zu (j := 2) rfl, ?_⟩
   refine ⟨a, ns, ps, said, oil, used, ws, u, t, rfl, hM, ht.mono S0.tup, hlin.2, hI.pl, hI.nl, ?_⟩
   refine ⟨_, rfl, a.p, T.c_Course, dx, fs, _, rfl, e, T.cl_Course, T.na_Course_held, (hf.at_ _).trans (za5 ..), ?_⟩
   refine ⟨_, rfl, a.p, T.c_Course, dx, fs, _, rfl, e, T.cl_Course, T.na_Course_row, (hf.at_ _).trans (zc0 ..), _, rfl, _, _, _, _, rfl, rfl, SqT.of ec', zu (j := 1) rfl, ?_⟩
   refine ⟨a.lr, ns, x, j, rfl, SqL.of hM.er, by omega, hj, ?_⟩
   have hix : ixN (ps.map V.int).length (j : Int) = some j := by
    unfold ixN
    rw [List.length_map]
    simp
    omega
   refine ⟨a.lh, _, _, j, rfl, rfl, hM.eh, hix, ?_⟩
   have r := hM.heldTo (ps.set j (t.val ns ps))
   rw [List.map_set] at r
   exact q _ _ r.1 hP r.2
 | @say c u t ec ht =>
  have hlin : t.fin ns := by cases hI.sc with | o lx _ => exact lx
  have ec' := S0 _ _ ec
  cases hst
  refine ⟨_, rfl, _, _, _, _, rfl, rfl, SqT.of ec', at0, ?_⟩
  refine ⟨_, rfl, rfl, _, rfl, zo (by decide +kernel) ?_⟩
  refine ⟨_, rfl, rfl, _, rfl, qj (by decide +kernel) ?_⟩
  refine ⟨_, rfl, a.p, T.c_Course, dx, fs, _, rfl, e, T.cl_Course, T.na_Course_said, (hf.at_ _).trans (zf1 ..), .inl ⟨rfl, _, SqL.of hM.es⟩, ?_⟩
  refine ⟨_, rfl, a.p, dx, fs, rfl, e, (hf.at_ _).trans (v7 (by decide +kernel)), _, rfl, _, _, _, _, rfl, rfl, SqT.of ec', zu (j := 1) rfl, ?_⟩
  refine ⟨a, ns, ps, said, oil, used, ws, u, t, rfl, hM, ht.mono S0.tup, hlin, hI.pl, hI.nl, ?_⟩
  refine ⟨_, _, _, rfl, rfl, hM.es, by rw [sizeLine_eq, List.length_map]; omega, ?_⟩
  obtain ⟨hM2, M2⟩ := hM.saidTo (said ++ [t.val ns ps])
  rw [List.map_append] at hM2 M2
  exact q _ _ hM2 hP M2
 | @when c p1 q1 u t vb vc b d ec ht e1 h1 e2 h2 =>
  have hlin : t.fin ns ∧ b.lin ns ∧ d.lin ns := by cases hI.sc with | o lx _ => exact lx
  have ec' := S0 _ _ ec
  have hfew : b.n + d.n + 1 ≤ 400 := hI.few (.when t b d) (List.mem_cons_self ..)
  have hbl := h1.len
  have hdl := h2.len
  refine ⟨_, rfl, _, _, _, _, rfl, rfl, SqT.of ec', at0, ?_⟩
  refine ⟨_, rfl, rfl, _, rfl, zo (by decide +kernel) ?_⟩
  refine ⟨_, rfl, rfl, _, rfl, zo (by decide +kernel) ?_⟩
  refine ⟨_, rfl, rfl, _, rfl, qj (by decide +kernel) ?_⟩
  refine ⟨_, rfl, a.p, dx, fs, rfl, e, (hf.at_ _).trans (v7 (by decide +kernel)), ?_⟩
  refine ⟨_, rfl, a.p, dx, fs, rfl, e, (hf.at_ _).trans (v7 (by decide +kernel)), _, rfl, _, _, _, _, rfl, rfl, SqT.of ec', zu (j := 1) rfl, ?_⟩
  refine ⟨a, ns, ps, said, oil, used, ws, u, t, rfl, hM, ht.mono S0.tup, hlin.1, hI.pl, hI.nl, _, rfl, ?_⟩
  cases hst with
  | when1 hv =>
   rw [hv]
   refine qj rfl ?_
   refine ⟨_, rfl, _, _, _, _, rfl, rfl, SqT.of ec', zu (j := 2) rfl, ?_⟩
   refine ⟨a, ns, ps, said, oil, used, ws, vb, p1, rfl, hM, S0 _ _ e1, by omega, fun H3 hM3 M3 => ?_⟩
   exact q H3 _ hM3 (zdk hP (wy (zaq h1))) M3
  | when0 hv =>
   rw [hv]
   refine zo rfl ?_
   refine ⟨_, rfl, _, _, _, _, rfl, rfl, SqT.of ec', zu (j := 3) rfl, ?_⟩
   refine ⟨a, ns, ps, said, oil, used, ws, vc, q1, rfl, hM, S0 _ _ e2, by omega, fun H3 hM3 M3 => ?_⟩
   exact q H3 _ hM3 (zdk hP (wy (zaq h2))) M3
 | @whil c p1 u t vb b ec ht e1 h1 =>
  have ec' := S0 _ _ ec
  refine ⟨_, rfl, _, _, _, _, rfl, rfl, SqT.of ec', at0, ?_⟩
  refine ⟨_, rfl, rfl, _, rfl, zo (by decide +kernel) ?_⟩
  refine ⟨_, rfl, rfl, _, rfl, zo (by decide +kernel) ?_⟩
  refine ⟨_, rfl, rfl, _, rfl, zo (by decide +kernel) ?_⟩
  refine ⟨_, rfl, rfl, _, rfl, qj (by decide +kernel) ?_⟩
  refine ⟨_, rfl, a.p, dx, fs, rfl, e, (hf.at_ _).trans (v7 (by decide +kernel)), _, rfl, ?_⟩
  exact ⟨a, ns0, ns, ns', ps, ps', said, said', oil, used, ws, _, .whil t b, r, r', l, H0, rfl, trivial, hM, hN, S0, hP, .whil ec ht e1 h1, hI, hst, q⟩
 | @wit c p1 x u t vb b ec ht e1 h1 =>
  have ec' := S0 _ _ ec
  refine ⟨_, rfl, _, _, _, _, rfl, rfl, SqT.of ec', at0, ?_⟩
  refine ⟨_, rfl, rfl, _, rfl, zo (by decide +kernel) ?_⟩
  refine ⟨_, rfl, rfl, _, rfl, zo (by decide +kernel) ?_⟩
  refine ⟨_, rfl, rfl, _, rfl, zo (by decide +kernel) ?_⟩
  refine ⟨_, rfl, rfl, _, rfl, zo (by decide +kernel) ?_⟩
  refine ⟨_, rfl, a.p, dx, fs, rfl, e, (hf.at_ _).trans (v7 (by decide +kernel)), _, rfl, ?_⟩
  exact ⟨a, ns0, ns, ns', ps, ps', said, said', oil, used, ws, _, .wit x t b, r, r', l, H0, rfl, trivial, hM, hN, S0, hP, .wit ec ht e1 h1, hI, hst, q⟩
noncomputable def wfW (f : WFin) : Str := if f.word = true then "done" else "dry"
noncomputable def spGo (C : Addr) (aw : V → Prop) : Sp := fun vs H Q _ => ∃ (a : CAd) (ns0 ns : List Str) (ps said : List Int) (oil l m : Nat) (ws : List V) (r : List Wi) (H0 : Hp) (f : WFin),
 vs = [.ref a.p] ∧ l ≤ oil ∧ x0 C H a ns ps said (oil : Int) ((oil - l : Nat) : Int) ws ∧ CNew a H0 ∧ Same H0 H ∧ Paired (IsWi aw H0) ws.reverse r ∧ WInv ns0 r ns ps said l ∧ Walk m r ns ps said l f ∧
 ∀ H' ns' ws', x0 C H' a ns' f.pots f.told (oil : Int) ((oil - f.left : Nat) : Int) ws' → COut a H H' → f.left ≤ oil → Q (.str (wfW f)) H'
noncomputable def WGo (C : Addr) (aw : V → Prop) (H H0 : Hp) (a : CAd) (ns0 : List Str) (oil : Nat) (f : WFin) (m : Nat) (σ : St) (H' : Hp) : Prop :=
 ∃ (o1 : Option V) (ns : List Str) (ps said : List Int) (l : Nat) (ws : List V) (r : List Wi), σ = [some (.ref a.p), o1] ∧ l ≤ oil ∧ x0 C H' a ns ps said (oil : Int) ((oil - l : Nat) : Int) ws ∧ COut a H H' ∧ Paired (IsWi aw H0) ws.reverse r ∧ WInv ns0 r ns ps said l ∧ Walk m r ns ps said l f
theorem od_word {H : Hp} {v : V} {x : Od} (h : IsOd H v x) : ∃ c wd r, v = .ref c ∧ H c = some (.tup (.str wd :: r)) ∧ (decide (wd = ("away" : Str)) && r.isEmpty) = false := by
 cases h with
 | set e _ => exact ⟨_, _, _, rfl, e, by simp⟩
 | say e _ => exact ⟨_, _, _, rfl, e, by simp⟩
 | when e _ _ _ _ _ => exact ⟨_, _, _, rfl, e, by simp⟩
 | whil e _ _ _ => exact ⟨_, _, _, rfl, e, by simp⟩
 | wit e _ _ _ => exact ⟨_, _, _, rfl, e, by simp⟩
theorem ok_Course_go (T : Txt K mg) : FnOk P w K mg base CX0 26 T.f_Course_go T.fd_Course_go ["self"] (spGo T.c_Course (fun v => v = .ref T.a_AWAY)) := by
 have G_Course_begin := ok_Course_begin (P := P) (w := w) (base := base) T
 refine T.Course_go.F.ok zcs (fun vs H Q E h => ?_) (fun cdv A outer s H vs Q E hr h => ?_)
 ·obtain ⟨a, ns0, ns, ps, said, oil, l, m, ws, r, H0, f, rfl, _⟩ := h; rfl
 obtain ⟨a, ns0, ns, ps, said, oil, l, m, ws, r, H0, f, rfl, hlo, hM, hN, S0, hP, hI, hW, q⟩ := h
 refine ⟨_, (zf (zbr PassesOwn.never (zdu (qq (pv 0) rfl) (by intro _; rfl)) (zf (zx (i := 1) zcs.nd rfl (Or.inl rfl) (wg F.plainAttrs_list F.slot_list_pop F.type_list_pop wj (qq (pv 0) rfl)))
  (zg (z0 (zj (op_eqAway hr.units1) (pv 1) (ze4 (v := .ref T.a_AWAY) rfl T.m_AWAY rfl) (zp _)) (zf (qc (wg F.plainAttrs_list F.slot_list_pop F.type_list_pop wj (qq (pv 0) rfl)))
  (zg (qc (wg F.plainAttrs_list F.slot_list_pop F.type_list_pop wj (qq (pv 0) rfl))))) (zg (z0 (zj qi (qq (pv 0) rfl) (qq (pv 0) rfl) (zp _)) (zg (zr zi)) (zf (ww (pv 0) zd zge)
  (zg (qc (x3 (pv 0) T.cl_Course T.me_Course_begin G_Course_begin hr T.Course_begin.b .nil zq (za (pv 1) zb)))))))))))
  (zg (zr zi))), ?_⟩
 try dsimp only[kx,kxb]
 refine ⟨WGo T.c_Course (fun v => v = .ref T.a_AWAY) H H0 a ns0 oil f, ⟨m, none, ns, ps, said, l, ws, r, rfl, hlo, hM, COut.refl a H, hP, hI, hW⟩, ?_⟩
 rintro m σ H2 ⟨o1, ns2, ps2, said2, l2, ws2, r2, rfl, hlo2, hM2, M2, hP2, hI2, hW2⟩
 have S2 := hN.same S0 M2
 obtain ⟨dx, fs, e, hf⟩ := hM2.ob
 have hwl := plen hP2
 rw [List.length_reverse] at hwl
 have fa : fs.lookup ("ahead" : Str) = some (V.ref a.la) := (hf.at_ _).trans (zb7 ..)
 have fu : fs.lookup ("used" : Str) = some (V.int ((oil - l2 : Nat) : Int)) := (hf.at_ _).trans (zaf ..)
 have fo : fs.lookup ("oil" : Str) = some (V.int (oil : Int)) := (hf.at_ _).trans (zfc ..)
 have stepP : ∀ {x : Wi} {r : List Wi}, r2 = x :: r → ∃ ws' v, ws2 = ws' ++ [v] ∧ IsWi (fun v => v = .ref T.a_AWAY) H0 v x ∧ Paired (IsWi (fun v => v = .ref T.a_AWAY) H0) ws'.reverse r := fun er => by
  rw [er] at hP2
  exact prev hP2
 by_cases hst : ∃ (l3 : Nat) (x : Od) (r : List Wi), l2 = l3 + 1 ∧ r2 = .o x :: r
 ·obtain ⟨l3, x, r, rfl, rfl⟩ := hst
  obtain ⟨m', r', ns', ps', s', rfl, st, hW3⟩ := hW2.stp
  obtain ⟨ws', v, rfl, hv, hP'⟩ := stepP rfl
  cases hv with
  | o hx =>
  obtain ⟨c, wd, rr, rfl, ec, hne⟩ := od_word hx
  refine ⟨_, rfl, a.p, T.c_Course, dx, fs, _, rfl, e, T.cl_Course, T.na_Course_ahead, fa, true, .inl ⟨_, SqL.of hM2.ea, by simp⟩, qj rfl ?_⟩
  refine ⟨fun σ' H'' => ∃ m2, m2 < m' + 1 ∧ WGo T.c_Course (fun v => v = .ref T.a_AWAY) H H0 a ns0 oil f m2 σ' H'', fun _ _ z => z, ?_⟩
  refine ⟨_, rfl, a.p, T.c_Course, dx, fs, _, rfl, e, T.cl_Course, T.na_Course_ahead, fa, .inl ⟨rfl, _, SqL.of hM2.ea⟩, _, _, _, rfl, rfl, hM2.ea, xu _ _, ?_⟩
  rw [List.dropLast_concat]
  obtain ⟨hM3, M3⟩ := hM2.aheadTo ws'
  have S3 := hN.same S2 M3
  obtain ⟨dx3, fs3, e3, hf3⟩ := hM3.ob
  refine ⟨_, rfl, c, T.a_AWAY, wd, rr, rfl, rfl, .inl (S3 _ _ ec), T.k_AWAY _, _, rfl, zo hne ?_⟩
  refine ⟨_, rfl, a.p, T.c_Course, dx3, fs3, _, rfl, e3, T.cl_Course, T.na_Course_used, (hf3.at_ _).trans (zaf ..), _, rfl, a.p, T.c_Course, dx3, fs3, _, rfl, e3, T.cl_Course, T.na_Course_oil, (hf3.at_ _).trans (zfc ..), rfl, _, rfl, zo (decide_eq_false (fun z => by injection z; omega)) ?_⟩
  refine ⟨_, rfl, a.p, T.c_Course, dx3, fs3, _, rfl, e3, T.cl_Course, T.na_Course_used, (hf3.at_ _).trans (zaf ..), _, _, rfl, rfl, dx3, fs3, e3, Nat.lt_of_le_of_lt hf3.len (by decide), ?_⟩
  have eu : (((oil - (l3 + 1) : Nat) : Int) + 1) = ((oil - l3 : Nat) : Int) := by omega
  have hf4 := hf3.put (f := "used") (v := .int (((oil - (l3 + 1) : Nat) : Int) + 1)) (m' := cfl a.lr a.lh a.ls (oil : Int) (((oil - (l3 + 1) : Nat) : Int) + 1) a.la) (zaf ..) (cfl_putUsed _ _ _ _ _ _ _)
  obtain ⟨hM4, M4⟩ := hM3.fld (dx := dx3) hf4
  have S4 := hN.same S3 M4
  obtain ⟨dx5, fs5, e5, hf5⟩ := hM4.ob
  refine ⟨_, rfl, a.p, dx5, fs5, rfl, e5, (hf5.at_ _).trans (v7 (by decide +kernel)), _, rfl, ?_⟩
  refine ⟨a, ns0, ns2, ns', ps2, ps', said2, s', _, _, ws', _, x, r, r', l3, H0, rfl, trivial, hM4, hN, S4, hP', hx, hI2, st, fun H6 ws6 hM6 hP6 M6 => ?_⟩
  exact ⟨m', Nat.lt_succ_self _, _, ns', ps', s', l3, ws6, r', rfl, by omega, by rw [← eu]; exact hM6, M2.trans (M3.trans (M4.trans M6)), hP6, hI2.next st, hW3⟩
 cases hW2 with
 | done =>
  have hw0 : ws2 = [] := List.eq_nil_of_length_eq_zero hwl
  refine ⟨_, rfl, a.p, T.c_Course, dx, fs, _, rfl, e, T.cl_Course, T.na_Course_ahead, fa, false, .inl ⟨_, SqL.of hM2.ea, by rw [hw0]; rfl⟩, zo rfl ?_⟩
  exact q H2 _ _ hM2 M2 hlo2
 | @dry x r _ _ _ =>
  obtain ⟨ws', v, rfl, hv, hP'⟩ := stepP rfl
  cases hv with
  | o hx =>
  obtain ⟨c, wd, rr, rfl, ec, hne⟩ := od_word hx
  refine ⟨_, rfl, a.p, T.c_Course, dx, fs, _, rfl, e, T.cl_Course, T.na_Course_ahead, fa, true, .inl ⟨_, SqL.of hM2.ea, by simp⟩, qj rfl ?_⟩
  refine ⟨fun σ' H'' => ∃ m', m' < 0 ∧ WGo T.c_Course (fun v => v = .ref T.a_AWAY) H H0 a ns0 oil ⟨false, said2, ps2, 0⟩ m' σ' H'', fun _ _ z => z, ?_⟩
  refine ⟨_, rfl, a.p, T.c_Course, dx, fs, _, rfl, e, T.cl_Course, T.na_Course_ahead, fa, .inl ⟨rfl, _, SqL.of hM2.ea⟩, _, _, _, rfl, rfl, hM2.ea, xu _ _, ?_⟩
  rw [List.dropLast_concat]
  obtain ⟨hM3, M3⟩ := hM2.aheadTo ws'
  have S3 := hN.same S2 M3
  obtain ⟨dx3, fs3, e3, hf3⟩ := hM3.ob
  refine ⟨_, rfl, c, T.a_AWAY, wd, rr, rfl, rfl, .inl (S3 _ _ ec), T.k_AWAY _, _, rfl, zo hne ?_⟩
  refine ⟨_, rfl, a.p, T.c_Course, dx3, fs3, _, rfl, e3, T.cl_Course, T.na_Course_used, (hf3.at_ _).trans (zaf ..), _, rfl, a.p, T.c_Course, dx3, fs3, _, rfl, e3, T.cl_Course, T.na_Course_oil, (hf3.at_ _).trans (zfc ..), rfl, _, rfl, qj (decide_eq_true (by rw [Nat.sub_zero])) ?_⟩
  exact q _ _ _ hM3 (M2.trans M3) (Nat.zero_le _)
 | @gone m' r ns x ps i _ _ _ hW3 =>
  obtain ⟨ws', v, rfl, hv, hP'⟩ := stepP rfl
  cases hv with
  | gone hv =>
  subst hv
  refine ⟨_, rfl, a.p, T.c_Course, dx, fs, _, rfl, e, T.cl_Course, T.na_Course_ahead, fa, true, .inl ⟨_, SqL.of hM2.ea, by simp⟩, qj rfl ?_⟩
  refine ⟨fun σ' H'' => ∃ m2, m2 < m' + 1 ∧ WGo T.c_Course (fun v => v = .ref T.a_AWAY) H H0 a ns0 oil f m2 σ' H'', fun _ _ z => z, ?_⟩
  refine ⟨_, rfl, a.p, T.c_Course, dx, fs, _, rfl, e, T.cl_Course, T.na_Course_ahead, fa, .inl ⟨rfl, _, SqL.of hM2.ea⟩, _, _, _, rfl, rfl, hM2.ea, xu _ _, ?_⟩
  rw [List.dropLast_concat]
  obtain ⟨hM3, M3⟩ := hM2.aheadTo ws'
  obtain ⟨dx3, fs3, e3, hf3⟩ := hM3.ob
  refine ⟨_, rfl, T.a_AWAY, T.a_AWAY, "away", [], rfl, rfl, T.k_AWAY _, T.k_AWAY _, _, rfl, qj (by decide +kernel) ?_⟩
  have er3 := hM3.er
  rw [List.map_append] at er3
  refine ⟨_, rfl, a.p, T.c_Course, dx3, fs3, _, rfl, e3, T.cl_Course, T.na_Course_row, (hf3.at_ _).trans (zc0 ..), .inl ⟨rfl, _, SqL.of er3⟩, _, _, _, rfl, rfl, er3, xu _ _, ?_⟩
  rw [show (ns.map V.str ++ [x].map V.str).dropLast = ns.map V.str from List.dropLast_concat]
  obtain ⟨hM4, M4⟩ := hM3.rowTo ns
  obtain ⟨dx4, fs4, e4, hf4⟩ := hM4.ob
  have eh4 := hM4.eh
  rw [List.map_append] at eh4
  refine ⟨_, rfl, a.p, T.c_Course, dx4, fs4, _, rfl, e4, T.cl_Course, T.na_Course_held, (hf4.at_ _).trans (za5 ..), .inl ⟨rfl, _, SqL.of eh4⟩, _, _, _, rfl, rfl, eh4, xu _ _, ?_⟩
  rw [show (ps.map V.int ++ [i].map V.int).dropLast = ps.map V.int from List.dropLast_concat]
  obtain ⟨hM5, M5⟩ := hM4.heldTo ps
  exact ⟨m', Nat.lt_succ_self _, _, ns, ps, said2, l2, ws', r, rfl, hlo2, hM5, M2.trans (M3.trans (M4.trans M5)), hP', hI2.gone, hW3⟩
 | _ => exact absurd ⟨_, _, _, rfl, rfl⟩ hst
end
open PySem L2 J
section
variable {P : Program} {w : World} {K : W.Frag} {mg : Str → Option Value} {base : Heap}
noncomputable def Kp (p : Addr) (H H' : Hp) : Prop := ∀ b o, b ≠ p → H b = some o → H' b = some o
theorem Kp.free {p : Addr} {H H' : Hp} (k : Kp p H H') {l : Addr} (hp : l ≠ p) (h : H' l = none) : H l = none := by
 cases e : H l with
 | none => rfl
 | some o => rw [k l o hp e] at h; cases h
theorem Kp.trans {p : Addr} {H H1 H2 : Hp} (a : Kp p H H1) (b : Kp p H1 H2) : Kp p H H2 := fun c o n e => b c o n (a c o n e)
theorem ze9 {p : Addr} {H : Hp} (o : HO) : Kp p H (upd H p o) := fun b u n e => by rw [zl n]; exact e
theorem ze8 {p l : Addr} {H : Hp} (h : H l = none) (o : HO) : Kp p H (upd H l o) := fun b u n e => by rw [zl (zt e h)]; exact e
noncomputable def spCInit (C : Addr) : Sp := fun vs H Q _ => ∃ (p dx r ln lb lq : Addr) (ns : List Str) (us : List V) (ps : List Int) (oil : Int), vs = [.ref p, .ref r, .ref lq, .int oil] ∧ H p = some (.ins C dx []) ∧ H r = some (.tup [.ref ln, .ref lb]) ∧ H ln = some (.lst (ns.map V.str)) ∧ H lb = some (.lst us) ∧ H lq = some (.lst (ps.map V.int)) ∧ us.length ≤ 1000 ∧
 ∀ lr lh ls la H', H lr = none → H lh = none → H ls = none → H la = none → x0 C H' ⟨p, lr, lh, ls, la⟩ ns ps [] oil 0 us.reverse → Kp p H H' → Q .non H'
theorem ok_Course_init (T : Txt K mg) : FnOk P w K mg base CX0 2 T.f_Course_init T.fd_Course_init ["self", "program", "starts", "oil"] (spCInit T.c_Course) := by
 have G_Course_put_ahead := jj (P := P) (w := w) (base := base) T
 refine T.Course_init.F.ok sc_Course_init (fun vs H Q E h => ?_) (fun cdv A outer s H vs Q E hr h => ?_)
 ·obtain ⟨p, dx, r, ln, lb, lq, ns, us, ps, oil, rfl, _⟩ := h; rfl
 obtain ⟨p, dx, r, ln, lb, lq, ns, us, ps, oil, rfl, hp, er, en, eb, eq, hul, q⟩ := h
 refine ⟨_, (zf (zaa (pv 0) (j0 jf rfl T.b_list j4 (za (zn zm (pv 1) zd (fun _ _ => rfl)) zb)) rfl)
  (zf (zaa (pv 0) (j0 jf rfl T.b_list j4 (za (pv 2) zb)) rfl)
  (zf (zaa (pv 0) (ql zb) rfl)
  (zf (zaa (pv 0) (pv 3) rfl)
  (zf (zaa (pv 0) zd rfl)
  (zf (zaa (pv 0) (ql zb) rfl)
  (zg (qc (x3 (pv 0) T.cl_Course T.me_Course_put_ahead G_Course_put_ahead hr T.Course_put_ahead.b .nil zq (za (zn zm (pv 1) zd (fun _ _ => rfl)) zb)))))))))), ?_⟩
 try dsimp only[kx,kxb]
 have npr : r ≠ p := x4 er hp (fun z => by cases z)
 have npn : ln ≠ p := x4 en hp (fun z => by cases z)
 have npb : lb ≠ p := x4 eb hp (fun z => by cases z)
 have npq : lq ≠ p := x4 eq hp (fun z => by cases z)
 have n0 : ([] : List (Str × V)).length = 0 := rfl
 refine ⟨_, rfl, _, _, _, _, rfl, rfl, SqT.of er, at0, _, _, rfl, .inl (SqL.of en), fun lr hlr => ?_⟩
 have k1 : Kp p H (upd H lr (.lst (ns.map V.str))) := ze8 hlr _
 have p1 : upd H lr (.lst (ns.map V.str)) p = some (.ins T.c_Course dx []) := ze hlr _ _ _ hp
 have r1 : upd H lr (.lst (ns.map V.str)) lr = some (.lst (ns.map V.str)) := zc
 have npl : lr ≠ p := fun z => by rw [z, hp] at hlr; cases hlr
 generalize upd H lr (.lst (ns.map V.str)) = H1 at k1 p1 r1
 obtain ⟨a1, b1⟩ := Has.nil.snoc (f := "row") (v := .ref lr) (by decide) rfl
 refine ⟨_, rfl, p, T.c_Course, dx, [], rfl, p1, T.cl_Course, T.na_Course_row, (by show 0 < 1000; decide), ?_⟩
 generalize hf1 : putF "row" (.ref lr) [] = fs1 at a1 b1
 have k2 := k1.trans (ze9 (H := H1) (.ins T.c_Course dx fs1))
 have p2 : upd H1 p (.ins T.c_Course dx fs1) p = some (.ins T.c_Course dx fs1) := zc
 have r2 : upd H1 p (.ins T.c_Course dx fs1) lr = some (.lst (ns.map V.str)) := by rw [zl npl]; exact r1
 generalize upd H1 p (.ins T.c_Course dx fs1) = H2 at k2 p2 r2
 refine ⟨_, rfl, _, _, rfl, .inl (SqL.of (k2 _ _ npq eq)), fun lh hlh => ?_⟩
 have nph : lh ≠ p := fun z => by rw [z, p2] at hlh; cases hlh
 have nrh : lr ≠ lh := zt r2 hlh
 have hlh0 : H lh = none := k2.free nph hlh
 have k3 := k2.trans (ze8 (p := p) hlh (.lst (ps.map V.int)))
 have p3 : upd H2 lh (.lst (ps.map V.int)) p = some (.ins T.c_Course dx fs1) := ze hlh _ _ _ p2
 have r3 : upd H2 lh (.lst (ps.map V.int)) lr = some (.lst (ns.map V.str)) := ze hlh _ _ _ r2
 have h3 : upd H2 lh (.lst (ps.map V.int)) lh = some (.lst (ps.map V.int)) := zc
 generalize upd H2 lh (.lst (ps.map V.int)) = H3 at k3 p3 r3 h3
 obtain ⟨a2, b2⟩ := a1.snoc (f := "held") (v := .ref lh) (by omega) (by show List.lookup _ [(("row" : Str), V.ref lr)] = none; rw [zw, if_neg (by decide +kernel)]; rfl)
 refine ⟨_, rfl, p, T.c_Course, dx, fs1, rfl, p3, T.cl_Course, T.na_Course_held, Nat.lt_of_le_of_lt a1.len (by decide), ?_⟩
 generalize hf2 : putF "held" (.ref lh) fs1 = fs2 at a2 b2
 have k4 := k3.trans (ze9 (H := H3) (.ins T.c_Course dx fs2))
 have p4 : upd H3 p (.ins T.c_Course dx fs2) p = some (.ins T.c_Course dx fs2) := zc
 have r4 : upd H3 p (.ins T.c_Course dx fs2) lr = some (.lst (ns.map V.str)) := by rw [zl npl]; exact r3
 have h4 : upd H3 p (.ins T.c_Course dx fs2) lh = some (.lst (ps.map V.int)) := by rw [zl nph]; exact h3
 generalize upd H3 p (.ins T.c_Course dx fs2) = H4 at k4 p4 r4 h4
 refine ⟨Nat.zero_le _, fun ls hls => ?_⟩
 have nps : ls ≠ p := fun z => by rw [z, p4] at hls; cases hls
 have nrs : lr ≠ ls := zt r4 hls
 have nhs : lh ≠ ls := zt h4 hls
 have hls0 : H ls = none := k4.free nps hls
 have k5 := k4.trans (ze8 (p := p) hls (.lst []))
 have p5 : upd H4 ls (.lst []) p = some (.ins T.c_Course dx fs2) := ze hls _ _ _ p4
 have r5 : upd H4 ls (.lst []) lr = some (.lst (ns.map V.str)) := ze hls _ _ _ r4
 have h5 : upd H4 ls (.lst []) lh = some (.lst (ps.map V.int)) := ze hls _ _ _ h4
 have s5 : upd H4 ls (.lst []) ls = some (.lst []) := zc
 generalize upd H4 ls (.lst []) = H5 at k5 p5 r5 h5 s5
 obtain ⟨a3, b3⟩ := a2.snoc (f := "said") (v := .ref ls) (by omega) (by show List.lookup _ [(("row" : Str), V.ref lr), (("held" : Str), V.ref lh)] = none; rw [zw, if_neg (by decide +kernel), zw, if_neg (by decide +kernel)]; rfl)
 refine ⟨_, rfl, p, T.c_Course, dx, fs2, rfl, p5, T.cl_Course, T.na_Course_said, Nat.lt_of_le_of_lt a2.len (by decide), ?_⟩
 generalize hf3 : putF "said" (.ref ls) fs2 = fs3 at a3 b3
 obtain ⟨a4, b4⟩ := a3.snoc (f := "oil") (v := .int oil) (by omega) (by show List.lookup _ [(("row" : Str), V.ref lr), (("held" : Str), V.ref lh), (("said" : Str), V.ref ls)] = none; rw [zw, if_neg (by decide +kernel), zw, if_neg (by decide +kernel), zw, if_neg (by decide +kernel)]; rfl)
 refine ⟨_, rfl, _, rfl, p, T.c_Course, dx, fs3, rfl, zc, T.cl_Course, T.na_Course_oil, Nat.lt_of_le_of_lt a3.len (by decide), ?_⟩
 generalize hf4 : putF "oil" (.int oil) fs3 = fs4 at a4 b4
 obtain ⟨a5, b5⟩ := a4.snoc (f := "used") (v := .int 0) (by omega) (by show List.lookup _ [(("row" : Str), V.ref lr), (("held" : Str), V.ref lh), (("said" : Str), V.ref ls), (("oil" : Str), V.int oil)] = none; rw [zw, if_neg (by decide +kernel), zw, if_neg (by decide +kernel), zw, if_neg (by decide +kernel), zw, if_neg (by decide +kernel)]; rfl)
 refine ⟨_, rfl, p, T.c_Course, dx, fs4, rfl, zc, T.cl_Course, T.na_Course_used, Nat.lt_of_le_of_lt a4.len (by decide), ?_⟩
 generalize hf5 : putF "used" (.int 0) fs4 = fs5 at a5 b5
 rw [zdh, zdh]
 have k6 := k5.trans (ze9 (H := H5) (.ins T.c_Course dx fs5))
 have p6 : upd H5 p (.ins T.c_Course dx fs5) p = some (.ins T.c_Course dx fs5) := zc
 have r6 : upd H5 p (.ins T.c_Course dx fs5) lr = some (.lst (ns.map V.str)) := by rw [zl npl]; exact r5
 have h6 : upd H5 p (.ins T.c_Course dx fs5) lh = some (.lst (ps.map V.int)) := by rw [zl nph]; exact h5
 have s6 : upd H5 p (.ins T.c_Course dx fs5) ls = some (.lst []) := by rw [zl nps]; exact s5
 generalize upd H5 p (.ins T.c_Course dx fs5) = H6 at k6 p6 r6 h6 s6
 refine ⟨Nat.zero_le _, fun la hla => ?_⟩
 have npa : la ≠ p := fun z => by rw [z, p6] at hla; cases hla
 have nra : lr ≠ la := zt r6 hla
 have nha : lh ≠ la := zt h6 hla
 have nsa : ls ≠ la := zt s6 hla
 have hla0 : H la = none := k6.free npa hla
 obtain ⟨a6, b6⟩ := a5.snoc (f := "ahead") (v := .ref la) (by omega) (by show List.lookup _ [(("row" : Str), V.ref lr), (("held" : Str), V.ref lh), (("said" : Str), V.ref ls), (("oil" : Str), V.int oil), (("used" : Str), V.int 0)] = none; rw [zw, if_neg (by decide +kernel), zw, if_neg (by decide +kernel), zw, if_neg (by decide +kernel), zw, if_neg (by decide +kernel), zw, if_neg (by decide +kernel)]; rfl)
 refine ⟨_, rfl, p, T.c_Course, dx, fs5, rfl, (ze hla _ _ _ p6), T.cl_Course, T.na_Course_ahead, Nat.lt_of_le_of_lt a5.len (by decide), ?_⟩
 generalize hf6 : putF "ahead" (.ref la) fs5 = fs6 at a6 b6
 have k7 := (k6.trans (ze8 (p := p) hla (.lst []))).trans (ze9 (H := upd H6 la (.lst [])) (.ins T.c_Course dx fs6))
 have hM : x0 T.c_Course (upd (upd H6 la (.lst [])) p (.ins T.c_Course dx fs6)) ⟨p, lr, lh, ls, la⟩ ns ps [] oil 0 [] := by
  refine ⟨⟨dx, fs6, zc, a6⟩, ?_, ?_, ?_, ?_, ⟨nrh, nrs, nra, nhs, nha, nsa⟩⟩
  ·rw [zl npl]; exact ze hla _ _ _ r6
  ·rw [zl nph]; exact ze hla _ _ _ h6
  ·rw [zl nps]; exact ze hla _ _ _ s6
  ·rw [zl npa]; exact zc
 generalize upd (upd H6 la (.lst [])) p (.ins T.c_Course dx fs6) = H7 at k7 hM
 obtain ⟨dx7, fs7, e7, hf7⟩ := hM.ob
 refine ⟨_, rfl, p, dx7, fs7, rfl, e7, (hf7.at_ _).trans (v7 (by decide +kernel)), _, rfl, _, _, _, _, rfl, rfl, SqT.of (k7 _ _ npr er), zu (j := 1) rfl, ?_⟩
 refine ⟨⟨p, lr, lh, ls, la⟩, ns, ps, [], oil, 0, [], us, lb, rfl, hM, k7 _ _ npb eb, by show 0 + _ ≤ _; omega, fun H8 hM8 M8 => ?_⟩
 refine q lr lh ls la H8 hlr hlh0 hls0 hla0 hM8 fun b o nb e => ?_
 exact M8 b o nb (zt e hlr) (zt e hlh0) (zt e hls0) (zt e hla0) (k7 b o nb e)
end
open PySem L2 J
section
variable {P : Program} {w : World} {K : W.Frag} {mg : Str → Option Value} {base : Heap}
noncomputable def spFollowed (K : W.Frag) (n : Nat) : Sp := fun vs H Q _ => ∃ (r lb a lq : Addr) (us : List V) (ns : List Str) (b : Bk) (ps : List Int) (oil m : Nat) (f : WFin), vs = [.ref r, .ref lq, .int (oil : Int)] ∧ H r = some (.tup [.ref a, .ref lb]) ∧ H lb = some (.lst us) ∧ IsBk H noM us b ∧ b.dp ≤ n ∧ b.lin ns ∧ b.n ≤ 400 ∧
 H a = some (.lst (ns.map V.str)) ∧ ns.length ≤ 100 ∧ H lq = some (.lst (ps.map V.int)) ∧ ps.length = ns.length ∧ oil ≤ 1000 ∧ Walk m (wis b) ns ps [] oil f ∧
 ∀ q ls lt H', Same H H' → H' q = some (.tup [.str (wfW f), .ref ls, .ref lt, .int ((oil - f.left : Nat) : Int)]) → H' ls = some (.lst (f.told.map V.int)) → H' lt = some (.lst ((f.pots.take ns.length).map V.int)) → f.left ≤ oil → Q (.ref q) H'
theorem zfa (ps : List Int) (n : Nat) : cutV (ps.map V.int) none (some (n : Int)) = (ps.take n).map V.int := by
 have e : HT.sIx (ps.map V.int).length (ps.map V.int).length (some (n : Int)) = min n ps.length := by
  unfold HT.sIx
  simp
  omega
 unfold cutV
 rw [e]
 have e0 : HT.sIx (ps.map V.int).length 0 none = 0 := rfl
 rw [e0]
 simp
theorem ok_followed (T : Txt K mg) (n : Nat) : FnOk P w K mg base CX0 (n + 28) T.f_followed T.fd_followed ["program", "starts", "oil"] (spFollowed K n) := by
 have G_strangers := (ok_strangers (P := P) (w := w) (base := base) T n).mono (show n + 25 ≤ n + 27 by omega)
 have G_Course_init := (ok_Course_init (P := P) (w := w) (base := base) T).mono (show 2 ≤ n + 26 by omega)
 have G_Course_go := (ok_Course_go (P := P) (w := w) (base := base) T).mono (show 26 ≤ n + 27 by omega)
 refine T.followed.F.ok wa (fun vs H Q E h => ?_) (fun cdv A outer s H vs Q E hr h => ?_)
 ·obtain ⟨r, lb, a, lq, us, ns, b, ps, oil, m, f, rfl, _⟩ := h; rfl
 obtain ⟨r, lb, a, lq, us, ns, b, ps, oil, m, f, rfl, er, eb, hB, hd, hl, hbn, ea, hn, eq, hpl, ho, hW, q⟩ := h
 refine ⟨_, (zf (zx (i := 3) wa.nd rfl (Or.inl rfl) (zk G_strangers hr rfl T.strangers.m T.strangers.F.kp T.strangers.b .nil zq (za (pv 0) zb)))
  (zf (z0 (zdu (pv 3) (by intro _; rfl)) (zf (zx (i := 4) wa.nd rfl (Or.inl rfl) (zn qp (pv 3) zd (fun _ _ => rfl)))
  (zg zaw)) zv)
  (zf (zx (i := 5) wa.nd rfl (Or.inl rfl) (pe_make T.mk_Course G_Course_init hr rfl T.mg_Course T.Course_init.b .nil zq (za (pv 0) (za (pv 1) (za (pv 2) zb)))))
  (zf (zx (i := 6) wa.nd rfl (Or.inl rfl) (j6 (pv 5) T.cl_Course T.me_Course_go G_Course_go hr T.Course_go.b .nil zq))
  (zg (zr (qb (za (pv 6) (za (qq (pv 5) rfl) (za (kj zb2 (qq (pv 5) rfl) zba (kh (qk qa rfl T.b_len PySem.boot_len (za (zn zm (pv 0) zd (fun _ _ => rfl)) zb)))) (za (qq (pv 5) rfl) zb))))))))))), ?_⟩
 try dsimp only[kx,kxb]
 have four : (4 : Nat) ≤ sizeLine := by decide
 refine ⟨_, rfl, r, lb, a, us, ns, b, rfl, er, eb, hB, hd, hl, ea, by omega, fun p1 H1 S1 f1 e1 => ?_⟩
 refine ⟨_, rfl, false, .inl ⟨_, SqL.of e1, rfl⟩, zo rfl ?_⟩
 refine ⟨_, rfl, _, rfl, _, rfl, fun p dx hp hdx hne => ?_⟩
 have ndx : ∀ b o, H1 b = some o → b ≠ dx := fun b o e => zt e hdx
 have np : ∀ b o, H1 b = some o → b ≠ p := fun b o e => zt e hp
 have ho' : ∀ b o, H1 b = some o → upd (upd H1 dx (.own p)) p (.ins T.c_Course dx []) b = some o := fun b o e => by rw [zl (np b o e), zl (ndx b o e)]; exact e
 have hul := hB.len
 refine ⟨p, dx, r, a, lb, lq, ns, us, ps, _, rfl, zc, ho' _ _ (S1 _ _ er), ho' _ _ (S1 _ _ ea), ho' _ _ (S1 _ _ eb), ho' _ _ (S1 _ _ eq), by omega, fun lr lh ls la H2 hlr hlh hls hla hM keep => ⟨rfl, ?_⟩⟩
 have fr : ∀ b, upd (upd H1 dx (.own p)) p (.ins T.c_Course dx []) b = none → H b = none := fun b hb => by
  cases e : H b with
  | none => rfl
  | some o => rw [ho' _ _ (S1 _ _ e)] at hb; cases hb
 have S2 : Same H H2 := fun b o e => keep b o (np b o (S1 _ _ e)) (ho' b o (S1 _ _ e))
 have hN : CNew ⟨p, lr, lh, ls, la⟩ H := ⟨S1.free hp, fr _ hlr, fr _ hlh, fr _ hls, fr _ hla⟩
 obtain ⟨dx2, fs2, e2, hf2⟩ := hM.ob
 refine ⟨_, rfl, p, dx2, fs2, rfl, e2, (hf2.at_ _).trans (v7 (by decide +kernel)), ?_⟩
 refine ⟨⟨p, lr, lh, ls, la⟩, ns, ns, ps, [], oil, oil, m, us.reverse, wis b, H, f, rfl, Nat.le_refl _, by rw [Nat.sub_self]; exact hM, hN, S2, by rw [List.reverse_reverse]; exact wy (zaq hB), WInv.start hl hbn hpl (by omega) ho, hW, fun H3 ns3 ws3 hM3 M3 hle => ?_⟩
 have S3 := hN.same S2 M3
 obtain ⟨dx3, fs3, e3, hf3⟩ := hM3.ob
 refine ⟨_, rfl, _, rfl, p, T.c_Course, dx3, fs3, _, rfl, e3, T.cl_Course, T.na_Course_said, (hf3.at_ _).trans (zf1 ..), _, rfl, p, T.c_Course, dx3, fs3, _, rfl, e3, T.cl_Course, T.na_Course_held, (hf3.at_ _).trans (za5 ..), ?_⟩
 refine ⟨_, rfl, _, _, _, _, rfl, rfl, SqT.of (S3 _ _ er), at0, _, _, rfl, .inl (SqL.of (S3 _ _ ea)), ?_⟩
 rw [List.length_map]
 refine ⟨_, rfl, _, _, rfl, SqL.of hM3.eh, fun p4 hp4 => ?_⟩
 have S4 := ze hp4 (.lst (cutV (f.pots.map V.int) none (some (ns.length : Int))))
 have e4 : upd H3 p4 (.lst (cutV (f.pots.map V.int) none (some (ns.length : Int)))) p4 = some (.lst ((f.pots.take ns.length).map V.int)) := by rw [zc, zfa]
 have hM4 := hM3.same S4
 generalize upd H3 p4 (.lst (cutV (f.pots.map V.int) none (some (ns.length : Int)))) = H4 at S4 e4 hM4
 obtain ⟨dx4, fs4, e5, hf4⟩ := hM4.ob
 refine ⟨_, rfl, p, T.c_Course, dx4, fs4, _, rfl, e5, T.cl_Course, T.na_Course_used, (hf4.at_ _).trans (zaf ..), four, fun p6 hp6 => ?_⟩
 have S6 := ze hp6 (.tup [.str (wfW f), .ref ls, .ref p4, .int ((oil - f.left : Nat) : Int)])
 exact q p6 ls p4 _ (S3.trans (S4.trans S6)) zc (S6 _ _ hM4.es) (S6 _ _ e4) hle
end
open PySem L2 J
section
variable {P : Program} {w : World} {K : W.Frag} {mg : Str → Option Value} {base : Heap}
noncomputable def spNext : Sp := fun vs H Q _ => ∃ (a : WAd) (ns0 ns ns' : List Str) (ps ps' told told' : List Int) (v : V) (x : Od) (r r' : List Wi) (l : Nat) (H0 : Hp), vs = [v, .ref a.ln, .ref a.lp, .ref a.lt] ∧ WAt H0 H a ns ps told ∧ Same H0 H ∧ IsOd H0 v x ∧ WInv ns0 (.o x :: r) ns ps told (l + 1) ∧ WStp x r ns ps told r' ns' ps' told' ∧
 ∀ p ws pre H', WAt H0 H' a ns' ps' told' → WOut a H H' → H p = none → H' p = some (.lst ws) → Paired (IsWi (gw H') H0) ws.reverse pre → r' = pre ++ r → Q (.ref p) H'
theorem ok_law_next (T : Txt K mg) : FnOk P w K mg base CX0 23 T.f_law_next T.fd_law_next ["_law_order", "_law_names", "_law_pots", "_law_told"] spNext := by
 have G_law_last := (zbt (P := P) (w := w) (base := base) T).mono (show 1 ≤ 22 by omega)
 have G_law_value := zbd (P := P) (w := w) (base := base) T 20
 have G_law_true := zda (P := P) (w := w) (base := base) T 20
 refine T.law_next.F.ok zc8 (fun vs H Q E h => ?_) (fun cdv A outer s H vs Q E hr h => ?_)
 ·obtain ⟨a, ns0, ns, ns', ps, ps', told, told', v, x, r, r', l, H0, rfl, _⟩ := h; rfl
 obtain ⟨a, ns0, ns, ns', ps, ps', told, told', v, x, r, r', l, H0, rfl, hA, S0, hx, hI, hst, q⟩ := h
 refine ⟨_, (zf (zx (i := 4) zc8.nd rfl (Or.inl rfl) (zn zm (pv 0) zd (fun _ _ => rfl)))
  (ve (z0 (zj qi (pv 4) zi (zp _)) (zg (zdw (zk G_law_value hr rfl T.law_value.m T.law_value.F.kp T.law_value.b .nil zq (za (zn zm (pv 0) zd (fun _ _ => rfl)) (za (pv 1) (za (pv 2) zb)))) (zdy (pv 2) (zk G_law_last hr rfl T.law_last.m T.law_last.F.kp T.law_last.b .nil zq (za (pv 1) (za (zn zm (pv 0) zd (fun _ _ => rfl)) zb))) zbn))) (zg (z0 (zj qi (pv 4) zi (zp _)) (zg (qc (qx F.plainAttrs_list F.slot_list_append F.type_list_append qo (pv 3) (za (zk G_law_value hr rfl T.law_value.m T.law_value.F.kp T.law_value.b .nil zq (za (zn zm (pv 0) zd (fun _ _ => rfl)) (za (pv 1) (za (pv 2) zb)))) zb)))) (zg (z0 (zj qi (pv 4) zi (zp _)) (zf (z0 (ki (zk G_law_true hr rfl T.law_true.m T.law_true.F.kp T.law_true.b .nil zq (za (zn zm (pv 0) zd (fun _ _ => rfl)) (za (pv 1) (za (pv 2) zb))))) (zg (zr (vz rfl rfl T.b_list rfl T.b_reversed vg (zn zm (pv 0) zd (fun _ _ => rfl))))) zv)
  (zg (zr (vz rfl rfl T.b_list rfl T.b_reversed vg (zn zm (pv 0) zd (fun _ _ => rfl)))))) (zg (z0 (zj qi (pv 4) zi (zp _)) (zg (z0 (ki (zk G_law_true hr rfl T.law_true.m T.law_true.F.kp T.law_true.b .nil zq (za (zn zm (pv 0) zd (fun _ _ => rfl)) (za (pv 1) (za (pv 2) zb))))) (zg (zr (zy qr (ql (za (pv 0) zb)) (vz rfl rfl T.b_list rfl T.b_reversed vg (zn zm (pv 0) zd (fun _ _ => rfl)))))) zv)) (zf (qc (qx F.plainAttrs_list F.slot_list_append F.type_list_append qo (pv 2) (za (zk G_law_value hr rfl T.law_value.m T.law_value.F.kp T.law_value.b .nil zq (za (zn zm (pv 0) zd (fun _ _ => rfl)) (za (pv 1) (za (pv 2) zb)))) zb)))
  (zf (qc (qx F.plainAttrs_list F.slot_list_append F.type_list_append qo (pv 1) (za (zn zm (pv 0) zd (fun _ _ => rfl)) zb)))
  (zg (zr (zy qr (ql (za (qb (za zi zb)) zb)) (vz rfl rfl T.b_list rfl T.b_reversed vg (zn zm (pv 0) zd (fun _ _ => rfl)))))))))))))))
  (zg (zr (ql zb))))), ?_⟩
 try dsimp only[kx,kxb]
 have one : (1 : Nat) ≤ sizeLine := by decide
 have hpl := hI.pl
 have hnl := hI.nl
 have hsl := hI.sl
 cases hx with
 | @set c x u t ec ht =>
  have hlin : x ∈ ns ∧ t.fin ns := by cases hI.sc with | o lx _ => exact lx
  have ec' := S0 _ _ ec
  cases hst with
  | @set _ _ j _ _ _ _ hj =>
   have hlt := v5 hj
   refine ⟨_, rfl, _, _, _, _, rfl, rfl, SqT.of ec', at0, ?_⟩
   obtain ⟨hA2, M2⟩ := hA.potsTo (ps.set j (t.val ns ps))
   rw [List.map_set] at hA2 M2
   refine ⟨fun σ' H2 => H2 = upd H a.lp (.lst ((ps.map V.int).set j (.int (t.val ns ps)))), ?_, ?_⟩
   ·refine ⟨_, rfl, rfl, _, rfl, qj (by decide +kernel) ?_⟩
    refine ⟨_, rfl, _, _, _, _, rfl, rfl, SqT.of ec', zu (j := 2) rfl, _, rfl, _, rfl, ?_⟩
    refine ⟨u, a.ln, a.lp, ns, ps, t, rfl, ht.mono S0.tup, hlin.2.2.1, SqL.of hA.en, SqL.of hA.ep, hpl, by omega, hlin.2.1, ?_⟩
    refine ⟨_, rfl, _, rfl, _, rfl, _, _, _, _, rfl, rfl, SqT.of ec', zu (j := 1) rfl, ?_⟩
    refine ⟨a.ln, ns, x, j, rfl, SqL.of hA.en, by omega, hj, ?_⟩
    have hix : ixN (ps.map V.int).length (j : Int) = some j := by
     unfold ixN
     rw [List.length_map]
     simp
     omega
    exact ⟨a.lp, _, _, j, rfl, rfl, hA.ep, hix, rfl⟩
   ·rintro σ' H2 rfl
    refine ⟨Nat.zero_le _, fun p hp => ?_⟩
    refine q p [] [] _ (hA2.same (ze hp _)) (M2.trans (.of (ze hp _))) ?_ zc .nil rfl
    by_cases z : p = a.lp
    ·rw [z, zc] at hp; cases hp
    ·rwa [zl z] at hp
 | @say c u t ec ht =>
  have hlin : t.fin ns := by cases hI.sc with | o lx _ => exact lx
  have ec' := S0 _ _ ec
  cases hst
  obtain ⟨hA2, M2⟩ := hA.toldTo (told ++ [t.val ns ps])
  rw [List.map_append] at hA2 M2
  refine ⟨_, rfl, _, _, _, _, rfl, rfl, SqT.of ec', at0, ?_⟩
  refine ⟨fun σ' H2 => H2 = upd H a.lt (.lst (told.map V.int ++ [.int (t.val ns ps)])), ?_, ?_⟩
  ·refine ⟨_, rfl, rfl, _, rfl, zo (by decide +kernel) ?_⟩
   refine ⟨_, rfl, rfl, _, rfl, qj (by decide +kernel) ?_⟩
   refine ⟨_, rfl, .inl ⟨rfl, _, SqL.of hA.et⟩, _, rfl, _, _, _, _, rfl, rfl, SqT.of ec', zu (j := 1) rfl, _, rfl, _, rfl, ?_⟩
   refine ⟨u, a.ln, a.lp, ns, ps, t, rfl, ht.mono S0.tup, hlin.2.1, SqL.of hA.en, SqL.of hA.ep, hpl, by omega, hlin.1, ?_⟩
   exact ⟨_, _, _, rfl, rfl, hA.et, by rw [sizeLine_eq, List.length_map]; omega, rfl⟩
  ·rintro σ' H2 rfl
   refine ⟨Nat.zero_le _, fun p hp => ?_⟩
   refine q p [] [] _ (hA2.same (ze hp _)) (M2.trans (.of (ze hp _))) ?_ zc .nil rfl
   by_cases z : p = a.lt
   ·rw [z, zc] at hp; cases hp
   ·rwa [zl z] at hp
 | @when c p1 q1 u t vb vc b d ec ht e1 h1 e2 h2 =>
  have hlin : t.fin ns ∧ b.lin ns ∧ d.lin ns := by cases hI.sc with | o lx _ => exact lx
  have ec' := S0 _ _ ec
  refine ⟨_, rfl, _, _, _, _, rfl, rfl, SqT.of ec', at0, ?_⟩
  refine ⟨fun σ' H2 => False, ?_, fun σ' H2 z => z.elim⟩
  refine ⟨_, rfl, rfl, _, rfl, zo (by decide +kernel) ?_⟩
  refine ⟨_, rfl, rfl, _, rfl, zo (by decide +kernel) ?_⟩
  refine ⟨_, rfl, rfl, _, rfl, qj (by decide +kernel) ?_⟩
  refine ⟨_, rfl, _, _, _, _, rfl, rfl, SqT.of ec', zu (j := 1) rfl, _, rfl, _, rfl, ?_⟩
  refine ⟨u, a.ln, a.lp, ns, ps, t, rfl, ht.mono S0.tup, hlin.1.2.1, SqL.of hA.en, SqL.of hA.ep, hpl, by omega, hlin.1.1, _, rfl, ?_⟩
  cases hst with
  | when1 hv =>
   rw [hv]
   refine qj rfl ?_
   refine ⟨_, rfl, _, _, _, _, rfl, rfl, SqT.of ec', zu (j := 2) rfl, p1, vb, rfl, S0 _ _ e1, fun p hp => ?_⟩
   exact q p _ (wis b) _ (hA.same (ze hp _)) (.of (ze hp _)) hp zc (by rw [List.reverse_reverse]; exact wy (zaq h1)) rfl
  | when0 hv =>
   rw [hv]
   refine zo rfl ?_
   refine ⟨_, rfl, _, _, _, _, rfl, rfl, SqT.of ec', zu (j := 3) rfl, q1, vc, rfl, S0 _ _ e2, fun p hp => ?_⟩
   exact q p _ (wis d) _ (hA.same (ze hp _)) (.of (ze hp _)) hp zc (by rw [List.reverse_reverse]; exact wy (zaq h2)) rfl
 | @whil c p1 u t vb b ec ht e1 h1 =>
  have hlin : t.fin ns ∧ b.lin ns := by cases hI.sc with | o lx _ => exact lx
  have ec' := S0 _ _ ec
  have hfew : b.n + 1 ≤ 400 := hI.few (.whil t b) (List.mem_cons_self ..)
  have hbl := h1.len
  refine ⟨_, rfl, _, _, _, _, rfl, rfl, SqT.of ec', at0, ?_⟩
  refine ⟨fun σ' H2 => t.val ns ps = false ∧ H2 = H, ?_, ?_⟩
  ·refine ⟨_, rfl, rfl, _, rfl, zo (by decide +kernel) ?_⟩
   refine ⟨_, rfl, rfl, _, rfl, zo (by decide +kernel) ?_⟩
   refine ⟨_, rfl, rfl, _, rfl, zo (by decide +kernel) ?_⟩
   refine ⟨_, rfl, rfl, _, rfl, qj (by decide +kernel) ?_⟩
   refine ⟨_, rfl, _, _, _, _, rfl, rfl, SqT.of ec', zu (j := 1) rfl, _, rfl, _, rfl, ?_⟩
   refine ⟨u, a.ln, a.lp, ns, ps, t, rfl, ht.mono S0.tup, hlin.1.2.1, SqL.of hA.en, SqL.of hA.ep, hpl, by omega, hlin.1.1, _, rfl, ?_⟩
   cases hst with
   | whil1 hv =>
    rw [hv]
    refine qj rfl ?_
    refine ⟨_, rfl, one, fun p2 hp2 => ?_⟩
    have S2 := ze hp2 (.lst [V.ref c])
    have e2 : upd H p2 (.lst [V.ref c]) p2 = some (.lst [V.ref c]) := zc
    generalize upd H p2 (.lst [V.ref c]) = H2 at S2 e2
    refine ⟨_, rfl, _, _, _, _, rfl, rfl, SqT.of (S2 _ _ ec'), zu (j := 2) rfl, p1, vb, rfl, S2 _ _ (S0 _ _ e1), fun p3 hp3 => ?_⟩
    have S3 := ze hp3 (.lst vb.reverse)
    have e3 : upd H2 p3 (.lst vb.reverse) p3 = some (.lst vb.reverse) := zc
    generalize upd H2 p3 (.lst vb.reverse) = H3 at S3 e3
    refine ⟨p2, p3, _, _, rfl, rfl, S3 _ _ e2, e3, by rw [sizeLine_eq, List.length_reverse]; show 1 + _ ≤ _; omega, fun p4 hp4 => ?_⟩
    have SS := S2.trans (S3.trans (ze hp4 (.lst ([V.ref c] ++ vb.reverse))))
    refine q p4 _ (wis b ++ [.o (.whil t b)]) _ (hA.same SS) (.of SS) ((S2.trans S3).free hp4) zc ?_ (by simp)
    rw [List.reverse_append, List.reverse_reverse]
    exact papp (wy (zaq h1)) (.cons (.o (.whil ec ht e1 h1)) .nil)
   | whil0 hv =>
    rw [hv]
    exact zo rfl ⟨rfl, rfl⟩
  ·rintro σ' H2 ⟨hv, rfl⟩
   refine ⟨Nat.zero_le _, fun p hp => ?_⟩
   cases hst with
   | whil1 hv' => rw [hv] at hv'; cases hv'
   | whil0 _ => exact q p [] [] _ (hA.same (ze hp _)) (.of (ze hp _)) hp zc .nil rfl
 | @wit c p1 x u t vb b ec ht e1 h1 =>
  have hlin : t.fin ns ∧ ns.length < 500 ∧ b.lin (ns ++ [x]) := by cases hI.sc with | o lx _ => exact lx
  have ec' := S0 _ _ ec
  have hfew : b.n + 1 ≤ 400 := hI.few (.wit x t b) (List.mem_cons_self ..)
  have hbl := h1.len
  cases hst
  refine ⟨_, rfl, _, _, _, _, rfl, rfl, SqT.of ec', at0, ?_⟩
  refine ⟨fun σ' H2 => False, ?_, fun σ' H2 z => z.elim⟩
  refine ⟨_, rfl, rfl, _, rfl, zo (by decide +kernel) ?_⟩
  refine ⟨_, rfl, rfl, _, rfl, zo (by decide +kernel) ?_⟩
  refine ⟨_, rfl, rfl, _, rfl, zo (by decide +kernel) ?_⟩
  refine ⟨_, rfl, rfl, _, rfl, zo (by decide +kernel) ?_⟩
  refine ⟨_, rfl, .inl ⟨rfl, _, SqL.of hA.ep⟩, _, rfl, _, _, _, _, rfl, rfl, SqT.of ec', zu (j := 2) rfl, _, rfl, _, rfl, ?_⟩
  refine ⟨u, a.ln, a.lp, ns, ps, t, rfl, ht.mono S0.tup, hlin.1.2.1, SqL.of hA.en, SqL.of hA.ep, hpl, by omega, hlin.1.1, ?_⟩
  refine ⟨_, _, _, rfl, rfl, hA.ep, by rw [sizeLine_eq, List.length_map]; omega, ?_⟩
  obtain ⟨hA1, M1⟩ := hA.potsTo (ps ++ [t.val ns ps])
  rw [List.map_append] at hA1 M1
  have S1 := hA.old S0 M1
  have fr1 : ∀ q, upd H a.lp (.lst (ps.map V.int ++ [t.val ns ps].map V.int)) q = none → H q = none := fun q hq => by
   by_cases z : q = a.lp
   ·rw [z, zc] at hq; cases hq
   ·rwa [zl z] at hq
  refine ⟨_, rfl, .inl ⟨rfl, _, SqL.of hA1.en⟩, _, rfl, _, _, _, _, rfl, rfl, SqT.of (S1 _ _ ec), zu (j := 1) rfl, ?_⟩
  refine ⟨_, _, _, rfl, rfl, hA1.en, by rw [sizeLine_eq, List.length_map]; omega, ?_⟩
  obtain ⟨hA2, M2⟩ := hA1.namesTo (ns ++ [x])
  rw [List.map_append] at hA2 M2
  have S2 := hA1.old S1 M2
  have M12 := M1.trans M2
  have fr2 : ∀ q, upd (upd H a.lp (.lst (ps.map V.int ++ [t.val ns ps].map V.int))) a.ln (.lst (ns.map V.str ++ [x].map V.str)) q = none → H q = none := fun q hq => by
   by_cases z : q = a.ln
   ·rw [z, zc] at hq; cases hq
   ·rw [zl z] at hq; exact fr1 q hq
  have hA2' : WAt H0 (upd (upd H a.lp (.lst (ps.map V.int ++ [V.int (t.val ns ps)]))) a.ln (.lst (ns.map V.str ++ [V.str x]))) a (ns ++ [x]) (ps ++ [t.val ns ps]) told := hA2
  have M12' : WOut a H (upd (upd H a.lp (.lst (ps.map V.int ++ [V.int (t.val ns ps)]))) a.ln (.lst (ns.map V.str ++ [V.str x]))) := M12
  have S2' : Same H0 (upd (upd H a.lp (.lst (ps.map V.int ++ [V.int (t.val ns ps)]))) a.ln (.lst (ns.map V.str ++ [V.str x]))) := S2
  have fr2' : ∀ q, (upd (upd H a.lp (.lst (ps.map V.int ++ [V.int (t.val ns ps)]))) a.ln (.lst (ns.map V.str ++ [V.str x]))) q = none → H q = none := fr2
  clear hA2 M12 S2 fr2 M2
  generalize upd (upd H a.lp (.lst (ps.map V.int ++ [V.int (t.val ns ps)]))) a.ln (.lst (ns.map V.str ++ [V.str x])) = H2 at hA2' M12' S2' fr2'
  refine ⟨one, fun t3 ht3 => ⟨one, fun p3 hp3 => ?_⟩⟩
  have S3a := ze ht3 (.tup [V.str "gone"])
  have S3b := ze hp3 (.lst [V.ref t3])
  have S3 := S3a.trans S3b
  have g3 : upd (upd H2 t3 (.tup [V.str "gone"])) p3 (.lst [V.ref t3]) t3 = some (.tup [V.str "gone"]) := S3b _ _ zc
  have e3 : upd (upd H2 t3 (.tup [V.str "gone"])) p3 (.lst [V.ref t3]) p3 = some (.lst [V.ref t3]) := zc
  generalize upd (upd H2 t3 (.tup [V.str "gone"])) p3 (.lst [V.ref t3]) = H3 at S3 g3 e3
  refine ⟨_, rfl, _, _, _, _, rfl, rfl, SqT.of (S3 _ _ (S2' _ _ ec)), zu (j := 3) rfl, p1, vb, rfl, S3 _ _ (S2' _ _ e1), fun p4 hp4 => ?_⟩
  have S4 := ze hp4 (.lst vb.reverse)
  have e4 : upd H3 p4 (.lst vb.reverse) p4 = some (.lst vb.reverse) := zc
  generalize upd H3 p4 (.lst vb.reverse) = H4 at S4 e4
  refine ⟨p3, p4, _, _, rfl, rfl, S4 _ _ e3, e4, by rw [sizeLine_eq, List.length_reverse]; show 1 + _ ≤ _; omega, fun p5 hp5 => ?_⟩
  have S5 := ze hp5 (.lst ([V.ref t3] ++ vb.reverse))
  have SS := S3.trans (S4.trans S5)
  refine q p5 _ (wis b ++ [.gone]) _ (hA2'.same SS) (M12'.trans (.of SS)) (fr2' _ ((S3.trans S4).free hp5)) zc ?_ (by simp)
  rw [List.reverse_append, List.reverse_reverse]
  exact papp (wy (zaq h1)) (.cons (.gone ⟨t3, rfl, S5 _ _ (S4 _ _ g3)⟩) .nil)
end
open PySem L2 J
section
variable {P : Program} {w : World} {K : W.Frag} {mg : Str → Option Value} {base : Heap}
noncomputable def spWalk (K : W.Frag) : Sp := fun vs H Q _ => ∃ (r lb a lq : Addr) (us : List V) (ns : List Str) (b : Bk) (ps : List Int) (oil m : Nat) (f : WFin), vs = [.ref r, .ref lq, .int (oil : Int)] ∧ H r = some (.tup [.ref a, .ref lb]) ∧ H lb = some (.lst us) ∧ IsBk H noM us b ∧ b.lin ns ∧ b.n ≤ 400 ∧
 H a = some (.lst (ns.map V.str)) ∧ ns.length ≤ 100 ∧ H lq = some (.lst (ps.map V.int)) ∧ ps.length = ns.length ∧ oil ≤ 1000 ∧ Walk m (wis b) ns ps [] oil f ∧ WEnd ns.length 0 oil f ∧
 ∀ q ls lt H', Same H H' → H' q = some (.tup [.str (wfW f), .ref ls, .ref lt, .int ((oil - f.left : Nat) : Int)]) → H' ls = some (.lst (f.told.map V.int)) → H' lt = some (.lst ((f.pots.take ns.length).map V.int)) → Q (.ref q) H'
noncomputable def WWalk (H : Hp) (r lq : Addr) (a : WAd) (oil : Nat) (ns0 : List Str) (f : WFin) (m : Nat) (σ : St) (H' : Hp) : Prop :=
 ∃ (o8 : Option V) (td : Addr) (ns : List Str) (ps told : List Int) (l : Nat) (ws : List V) (rr : List Wi), σ = [some (.ref r), some (.ref lq), some (.int (oil : Int)), some (.ref a.ln), some (.ref a.lp), some (.ref a.lt), some (.int (l : Int)), some (.ref td), o8] ∧
  Same H H' ∧ WAt H H' a ns ps told ∧ H td = none ∧ td ≠ a.ln ∧ td ≠ a.lp ∧ td ≠ a.lt ∧ H' td = some (.lst ws) ∧ Paired (IsWi (gw H') H) ws.reverse rr ∧ WInv ns0 rr ns ps told l ∧ Walk m rr ns ps told l f ∧ l ≤ oil
theorem zfs {H : Hp} {v : V} {x : Od} (h : IsOd H v x) : ∃ c wd r, v = .ref c ∧ H c = some (.tup (.str wd :: r)) ∧ decide (V.str wd = V.str "gone") = false := by
 cases h with
 | set e _ => exact ⟨_, _, _, rfl, e, by decide +kernel⟩
 | say e _ => exact ⟨_, _, _, rfl, e, by decide +kernel⟩
 | when e _ _ _ _ _ => exact ⟨_, _, _, rfl, e, by decide +kernel⟩
 | whil e _ _ _ => exact ⟨_, _, _, rfl, e, by decide +kernel⟩
 | wit e _ _ _ => exact ⟨_, _, _, rfl, e, by decide +kernel⟩
theorem _root_.J.WAt.oth {H0 H : Hp} {a : WAd} {ns : List Str} {ps told : List Int} {t : Addr} {o : HO} (h : WAt H0 H a ns ps told) (d1 : t ≠ a.ln) (d2 : t ≠ a.lp) (d3 : t ≠ a.lt) : WAt H0 (upd H t o) a ns ps told :=
 ⟨by rw [zl d1.symm]; exact h.en, by rw [zl d2.symm]; exact h.ep, by rw [zl d3.symm]; exact h.et, h.n1, h.n2, h.n3, h.f1, h.f2, h.f3⟩
theorem ok_law_walk (T : Txt K mg) : FnOk P w K mg base CX0 24 T.f_law_walk T.fd_law_walk ["_law_program", "_law_starts", "_law_oil"] (spWalk K) := by
 have G_law_next := ok_law_next (P := P) (w := w) (base := base) T
 refine T.law_walk.F.ok jc (fun vs H Q E h => ?_) (fun cdv A outer s H vs Q E hr h => ?_)
 ·obtain ⟨r, lb, a, lq, us, ns, b, ps, oil, m, f, rfl, _⟩ := h; rfl
 obtain ⟨r, lb, a, lq, us, ns, b, ps, oil, m, f, rfl, er, eb, hB, hl, hbn, ea, hn, eq, hpl, ho, hW, hE, q⟩ := h
 refine ⟨_, (zf (zx (i := 3) jc.nd rfl (Or.inl rfl) (j0 jf rfl T.b_list j4 (za (zn zm (pv 0) zd (fun _ _ => rfl)) zb)))
  (zf (zx (i := 4) jc.nd rfl (Or.inl rfl) (j0 jf rfl T.b_list j4 (za (pv 1) zb)))
  (zf (zx (i := 5) jc.nd rfl (Or.inl rfl) (ql zb))
  (zf (zx (i := 6) jc.nd rfl (Or.inl rfl) (pv 2))
  (zf (zx (i := 7) jc.nd rfl (Or.inl rfl) (vz rfl rfl T.b_list rfl T.b_reversed vg (zn zm (pv 0) zd (fun _ _ => rfl))))
  (zf (zbr PassesOwn.never (zj (zax hr.units0) (pv 7) (ql zb) (zp _)) (zf (zx (i := 8) jc.nd rfl (Or.inl rfl) (wg F.plainAttrs_list F.slot_list_pop F.type_list_pop wj (pv 7)))
  (zg (z0 (zj qi (zn zm (pv 8) zd (fun _ _ => rfl)) zi (zp _)) (zf (qc (wg F.plainAttrs_list F.slot_list_pop F.type_list_pop wj (pv 3)))
  (zg (qc (wg F.plainAttrs_list F.slot_list_pop F.type_list_pop wj (pv 4))))) (zg (z0 (zj qi (pv 6) zd (zp _)) (zg (zr (qb (za zi (za (pv 5) (za (kj zb2 (pv 4) zba (kh (qk qa rfl T.b_len PySem.boot_len (za (pv 1) zb)))) (za (pv 2) zb))))))) (zf (zx (i := 6) jc.nd rfl (Or.inl rfl) (zy v0 (pv 6) zd))
  (zg (zx (i := 7) jc.nd rfl (Or.inl rfl) (zy qr (pv 7) (zk G_law_next hr rfl T.law_next.m T.law_next.F.kp T.law_next.b .nil zq (za (pv 8) (za (pv 3) (za (pv 4) (za (pv 5) zb)))))))))))))))
  (zg (zr (qb (za zi (za (pv 5) (za (pv 4) (za (zy v0 (pv 2) (pv 6)) zb))))))))))))), ?_⟩
 try dsimp only[kx,kxb]
 have four : (4 : Nat) ≤ sizeLine := by decide
 have hul := hB.len
 refine ⟨_, rfl, _, _, _, _, rfl, rfl, SqT.of er, at0, _, _, rfl, .inl (SqL.of ea), fun ln hln => ?_⟩
 have S1 := ze hln (.lst (ns.map V.str))
 have en1 : upd H ln (.lst (ns.map V.str)) ln = some (.lst (ns.map V.str)) := zc
 generalize upd H ln (.lst (ns.map V.str)) = H1 at S1 en1
 refine ⟨_, rfl, _, _, rfl, .inl (SqL.of (S1 _ _ eq)), fun lp hlp => ?_⟩
 have nnp : ln ≠ lp := zt en1 hlp
 have hlp0 := S1.free hlp
 have S2 := S1.trans (ze hlp (.lst (ps.map V.int)))
 have en2 := ze hlp (.lst (ps.map V.int)) _ _ en1
 have ep2 : upd H1 lp (.lst (ps.map V.int)) lp = some (.lst (ps.map V.int)) := zc
 generalize upd H1 lp (.lst (ps.map V.int)) = H2 at S2 en2 ep2
 refine ⟨Nat.zero_le _, fun lt hlt => ?_⟩
 have nnt : ln ≠ lt := zt en2 hlt
 have npt : lp ≠ lt := zt ep2 hlt
 have hlt0 := S2.free hlt
 have S3 := S2.trans (ze hlt (.lst []))
 have hA3 : WAt H (upd H2 lt (.lst [])) ⟨ln, lp, lt⟩ ns ps [] := ⟨ze hlt _ _ _ en2, ze hlt _ _ _ ep2, zc, nnp, nnt, npt, hln, hlp0, hlt0⟩
 generalize upd H2 lt (.lst []) = H3 at S3 hA3
 refine ⟨_, rfl, ?_⟩
 refine ⟨_, rfl, _, _, _, _, rfl, rfl, SqT.of (S3 _ _ er), zu (j := 1) rfl, lb, us, rfl, S3 _ _ eb, fun td htd => ?_⟩
 have S4 := S3.trans (ze htd (.lst us.reverse))
 have hA4 := hA3.same (ze htd (.lst us.reverse))
 have ed4 : upd H3 td (.lst us.reverse) td = some (.lst us.reverse) := zc
 have d1 : td ≠ ln := (zt hA3.en htd).symm
 have d2 : td ≠ lp := (zt hA3.ep htd).symm
 have d3 : td ≠ lt := (zt hA3.et htd).symm
 have htd0 := S3.free htd
 generalize upd H3 td (.lst us.reverse) = H4 at S4 hA4 ed4
 refine ⟨WWalk H r lq ⟨ln, lp, lt⟩ oil ns f, ⟨m, none, td, ns, ps, [], oil, us.reverse, wis b, rfl, S4, hA4, htd0, d1, d2, d3, ed4, by rw [List.reverse_reverse]; exact wy (zaq hB), WInv.start hl hbn hpl (by omega) ho, hW, Nat.le_refl _⟩, ?_⟩
 rintro m σ H5 ⟨o8, td5, ns5, ps5, told5, l5, ws5, rr5, rfl, S5, hA5, htd5, d51, d52, d53, ed5, hP5, hI5, hW5, hlo5⟩
 refine ⟨_, rfl, Nat.zero_le _, fun pe hpe => ?_⟩
 have Se := ze hpe (.lst [])
 have S6 := S5.trans Se
 have hA6 := hA5.same Se
 have ed6 := Se _ _ ed5
 have ee6 : upd H5 pe (.lst []) pe = some (.lst []) := zc
 have hP6 : Paired (IsWi (gw (upd H5 pe (.lst []))) H) ws5.reverse rr5 := Paired.mapP hP5 fun _ _ z => z.mono fun _ => zbh Se.tup
 generalize upd H5 pe (.lst []) = H6 at S6 hA6 ed6 ee6 hP6
 have hwl := plen hP6
 rw [List.length_reverse] at hwl
 have htl := hI5.tl
 have stepP : ∀ {x : Wi} {r : List Wi}, rr5 = x :: r → ∃ ws' v, ws5 = ws' ++ [v] ∧ IsWi (gw H6) H v x ∧ Paired (IsWi (gw H6) H) ws'.reverse r := fun er => by
  rw [er] at hP6
  exact prev hP6
 by_cases hst : ∃ (l3 : Nat) (x : Od) (r : List Wi), l5 = l3 + 1 ∧ rr5 = .o x :: r
 ·obtain ⟨l3, x, rr, rfl, rfl⟩ := hst
  obtain ⟨m', r', ns', ps', s', rfl, st, hW7⟩ := hW5.stp
  obtain ⟨ws', v, rfl, hv, hP'⟩ := stepP rfl
  cases hv with
  | o hx =>
  obtain ⟨c, wd, rst, rfl, ec, hne⟩ := zfs hx
  refine ⟨_, _, _, rfl, rfl, SqL.of ed6, SqL.of ee6, _, rfl, qj (by simp) ?_⟩
  refine ⟨fun σ' H'' => ∃ m2, m2 < m' + 1 ∧ WWalk H r lq ⟨ln, lp, lt⟩ oil ns f m2 σ' H'', fun _ _ z => z, ?_⟩
  refine ⟨_, rfl, .inl ⟨rfl, _, SqL.of ed6⟩, _, _, _, rfl, rfl, ed6, xu _ _, ?_⟩
  rw [List.dropLast_concat]
  have S7 : Same H (upd H6 td5 (.lst ws')) := Same.at S6 htd5 _
  have hA7 : WAt H (upd H6 td5 (.lst ws')) ⟨ln, lp, lt⟩ ns5 ps5 told5 := hA6.oth d51 d52 d53
  have ed7 : upd H6 td5 (.lst ws') td5 = some (.lst ws') := zc
  have L7 : j8 H6 (upd H6 td5 (.lst ws')) := (zbj _).tup ed6
  generalize upd H6 td5 (.lst ws') = H7 at S7 hA7 ed7 L7
  refine ⟨_, rfl, _, _, _, _, rfl, rfl, SqT.of (S7 _ _ ec), at0, rfl, _, rfl, zo hne ?_⟩
  refine ⟨_, rfl, rfl, _, rfl, zo (decide_eq_false (fun z => by injection z; omega)) ?_⟩
  refine ⟨_, rfl, _, _, rfl, rfl, ?_⟩
  have el : (((l3 + 1 : Nat) : Int) - 1) = (l3 : Int) := by omega
  refine ⟨_, rfl, _, rfl, _, rfl, _, rfl, _, rfl, ?_⟩
  refine ⟨⟨ln, lp, lt⟩, ns, ns5, ns', ps5, ps', told5, s', _, x, rr, r', l3, H, rfl, hA7, S7, hx, hI5, st, fun p8 ws8 pre H8 hA8 M8 f8 e8 hP8 er' => ?_⟩
  have ed8 : H8 td5 = some (.lst ws') := M8 _ _ d51 d52 d53 ed7
  have S8 := hA7.old S7 M8
  have hl8 := plen hP8
  rw [List.length_reverse] at hl8
  have hI8 := hI5.next st
  have htl8 := hI8.tl
  rw [er', List.length_append] at htl8
  have hl' := plen hP'
  rw [List.length_reverse] at hl'
  refine ⟨td5, p8, _, _, rfl, rfl, ed8, e8, by rw [sizeLine_eq]; omega, fun p9 hp9 => ?_⟩
  have S9 := ze hp9 (.lst (ws' ++ ws8))
  refine ⟨m', Nat.lt_succ_self _, _, p9, ns', ps', s', l3, ws' ++ ws8, r', by rw [← el]; rfl, S8.trans S9, hA8.same S9, S8.free hp9, (zt hA8.en hp9).symm, (zt hA8.ep hp9).symm, (zt hA8.et hp9).symm, zc, ?_, hI8, hW7, by omega⟩
  rw [List.reverse_append, er']
  exact papp (Paired.mapP hP8 fun _ _ z => z.mono fun _ => zbh S9.tup) (Paired.mapP hP' fun _ _ z => z.mono fun _ g => zbh S9.tup (zbh (hA7.tup M8) (zbh L7 g)))
 cases hW5 with
 | done =>
  have hw0 : ws5 = [] := List.eq_nil_of_length_eq_zero hwl
  subst hw0
  refine ⟨_, _, _, rfl, rfl, SqL.of ed6, SqL.of ee6, _, rfl, zo (by simp) ?_⟩
  refine ⟨_, rfl, _, rfl, _, rfl, _, rfl, _, _, rfl, rfl, four, fun p7 hp7 => ?_⟩
  have eo : ((oil : Int) - (l5 : Int)) = ((oil - l5 : Nat) : Int) := by omega
  have S7 := ze hp7 (.tup [.str "done", .ref lt, .ref lp, .int ((oil : Int) - (l5 : Int))])
  have hpl5 : ps5.length = ns.length := hE.pl rfl
  refine q p7 lt lp _ (S6.trans S7) (by rw [zc]; dsimp only; rw [eo]; rfl) (S7 _ _ hA6.et) ?_
  rw [List.take_of_length_le (by show ps5.length ≤ _; omega)]
  exact S7 _ _ hA6.ep
 | @dry x rr _ _ _ =>
  obtain ⟨ws', v, rfl, hv, hP'⟩ := stepP rfl
  cases hv with
  | o hx =>
  obtain ⟨c, wd, rst, rfl, ec, hne⟩ := zfs hx
  refine ⟨_, _, _, rfl, rfl, SqL.of ed6, SqL.of ee6, _, rfl, qj (by simp) ?_⟩
  refine ⟨fun σ' H'' => ∃ m2, m2 < 0 ∧ WWalk H r lq ⟨ln, lp, lt⟩ oil ns ⟨false, told5, ps5, 0⟩ m2 σ' H'', fun _ _ z => z, ?_⟩
  refine ⟨_, rfl, .inl ⟨rfl, _, SqL.of ed6⟩, _, _, _, rfl, rfl, ed6, xu _ _, ?_⟩
  rw [List.dropLast_concat]
  have S7 : Same H (upd H6 td5 (.lst ws')) := Same.at S6 htd5 _
  have hA7 : WAt H (upd H6 td5 (.lst ws')) ⟨ln, lp, lt⟩ ns5 ps5 told5 := hA6.oth d51 d52 d53
  generalize upd H6 td5 (.lst ws') = H7 at S7 hA7
  refine ⟨_, rfl, _, _, _, _, rfl, rfl, SqT.of (S7 _ _ ec), at0, rfl, _, rfl, zo hne ?_⟩
  refine ⟨_, rfl, rfl, _, rfl, qj (by decide +kernel) ?_⟩
  refine ⟨_, rfl, _, rfl, _, rfl, _, _, rfl, .inl (SqL.of (S7 _ _ eq)), ?_⟩
  rw [List.length_map, hpl]
  refine ⟨_, rfl, _, _, rfl, SqL.of hA7.ep, fun p8 hp8 => ?_⟩
  have S8 := ze hp8 (.lst (cutV (ps5.map V.int) none (some (ns.length : Int))))
  have e8 : upd H7 p8 (.lst (cutV (ps5.map V.int) none (some (ns.length : Int)))) p8 = some (.lst ((ps5.take ns.length).map V.int)) := by rw [zc, zfa]
  generalize upd H7 p8 (.lst (cutV (ps5.map V.int) none (some (ns.length : Int)))) = H8 at S8 e8
  refine ⟨_, rfl, four, fun p9 hp9 => ?_⟩
  have S9 := ze hp9 (.tup [.str "dry", .ref lt, .ref p8, .int (oil : Int)])
  exact q p9 lt p8 _ (S7.trans (S8.trans S9)) (by rw [zc]; rfl) (S9 _ _ (S8 _ _ hA7.et)) (S9 _ _ e8)
 | @gone m' rr nsg x psg i _ _ _ hW7 =>
  obtain ⟨ws', v, rfl, hv, hP'⟩ := stepP rfl
  cases hv with
  | gone hv =>
  obtain ⟨c, rfl, ec⟩ := hv
  refine ⟨_, _, _, rfl, rfl, SqL.of ed6, SqL.of ee6, _, rfl, qj (by simp) ?_⟩
  refine ⟨fun σ' H'' => ∃ m2, m2 < m' + 1 ∧ WWalk H r lq ⟨ln, lp, lt⟩ oil ns f m2 σ' H'', fun _ _ z => z, ?_⟩
  refine ⟨_, rfl, .inl ⟨rfl, _, SqL.of ed6⟩, _, _, _, rfl, rfl, ed6, xu _ _, ?_⟩
  rw [List.dropLast_concat]
  have S7 : Same H (upd H6 td5 (.lst ws')) := Same.at S6 htd5 _
  have hA7 : WAt H (upd H6 td5 (.lst ws')) ⟨ln, lp, lt⟩ (nsg ++ [x]) (psg ++ [i]) told5 := hA6.oth d51 d52 d53
  have ed7 : upd H6 td5 (.lst ws') td5 = some (.lst ws') := zc
  have L7 : j8 H6 (upd H6 td5 (.lst ws')) := (zbj _).tup ed6
  generalize upd H6 td5 (.lst ws') = H7 at S7 hA7 ed7 L7
  refine ⟨_, rfl, _, _, _, _, rfl, rfl, SqT.of (L7 _ _ ec), at0, rfl, _, rfl, qj (by decide +kernel) ?_⟩
  have en7 := hA7.en
  rw [List.map_append] at en7
  refine ⟨_, rfl, .inl ⟨rfl, _, SqL.of en7⟩, _, _, _, rfl, rfl, en7, xu _ _, ?_⟩
  rw [show (nsg.map V.str ++ [x].map V.str).dropLast = nsg.map V.str from List.dropLast_concat]
  obtain ⟨hA8, M8⟩ := hA7.namesTo nsg
  have ep8 := hA8.ep
  rw [List.map_append] at ep8
  refine ⟨_, rfl, .inl ⟨rfl, _, SqL.of ep8⟩, _, _, _, rfl, rfl, ep8, xu _ _, ?_⟩
  rw [show (psg.map V.int ++ [i].map V.int).dropLast = psg.map V.int from List.dropLast_concat]
  obtain ⟨hA9, M9⟩ := hA8.potsTo psg
  have M79 := M8.trans M9
  exact ⟨m', Nat.lt_succ_self _, _, td5, nsg, psg, told5, l5, ws', rr, rfl, hA7.old S7 M79, hA9, htd5, d51, d52, d53, M79 _ _ d51 d52 d53 ed7, Paired.mapP hP' fun _ _ z => z.mono fun _ g => zbh (hA7.tup M79) (zbh L7 g), hI5.gone, hW7, hlo5⟩
 | _ => exact absurd ⟨_, _, _, rfl, rfl⟩ hst
end
end W12
namespace J
open PySem L2
inductive Tg where
 | th (t : Th)
 | od (o : Od)
 | bk (b : Bk)
noncomputable def Tg.cards (ns : List Str) : Tg → List Cd
 | .th t => t.cards ns
 | .od o => o.cards ns
 | .bk b => b.cards ns
noncomputable def Tg.ok (ns : List Str) : Tg → Prop
 | .th t => t.nm ns
 | .od o => o.lin ns
 | .bk b => b.lin ns
noncomputable def Od.bd : Od → Nat
 | .set _ _ => 0
 | .say _ => 0
 | .when _ b c => max b.dp c.dp
 | .whil _ b => b.dp
 | .wit _ _ b => b.dp
noncomputable def Tg.dp : Tg → Nat
 | .th t => t.dp
 | .od o => 2 * o.bd + 22
 | .bk b => 2 * b.dp + 21
noncomputable def IsTg (H : Hp) (u : V) : Tg → Prop
 | .th t => IsTh H u t
 | .od o => IsOd H u o
 | .bk b => ∃ p vs, u = .ref p ∧ H p = some (.lst vs) ∧ IsBk H noM vs b
theorem IsTg.same {H H' : Hp} (S : Same H H') {u : V} : ∀ {g : Tg}, IsTg H u g → IsTg H' u g
 | .th _, h => IsTh.mono S.tup h
 | .od _, h => IsOd.same S h
 | .bk _, ⟨p, vs, e, h1, h2⟩ => ⟨p, vs, e, S _ _ h1, h2.same S⟩
structure TNode (ns : List Str) (H : Hp) (n : Nat) (u : V) (cs : List Cd) (c : Addr) (wd : Str) (us : List V) (ths : List Tg) : Prop where
 u : u = .ref c
 e : H c = some (.tup (.str wd :: us))
 p : Paired (IsTg H) us ths
 no1 : decide (V.str wd = V.str "num") = false
 no2 : decide (V.str wd = V.str "name") = false
 no3 : decide (V.str wd = V.str "set") = false
 no4 : decide (V.str wd = V.str "with") = false
 ok : ∀ x ∈ ths, x.dp ≤ n ∧ x.ok ns ∧ (x.cards ns).length + 1 ≤ cs.length
 few : us.length ≤ 3
 kind : (wd = "not" ∧ ∃ t, ths = [t] ∧ cs = t.cards ns ++ [.flip]) ∨ (wd = "both" ∧ ∃ t u, ths = [t, u] ∧ cs = t.cards ns ++ [.fork (((u.cards ns).length : Int) + 1)] ++ u.cards ns ++ [.skip 1, .push 0]) ∨
  (wd = "while" ∧ ∃ t b, ths = [t, b] ∧ cs = ko (t.cards ns) (b.cards ns)) ∨ (wd = "when" ∧ ∃ t b c, ths = [t, b, c] ∧ cs = vm (t.cards ns) (b.cards ns) (c.cards ns)) ∨ (wd = "say" ∧ ∃ t, ths = [t] ∧ cs = t.cards ns ++ [.say]) ∨
  (decide (V.str wd = V.str "not") = false ∧ decide (V.str wd = V.str "both") = false ∧ decide (V.str wd = V.str "while") = false ∧ decide (V.str wd = V.str "when") = false ∧ ∃ t u k, ths = [t, u] ∧ Cd.vs k = [.str wd] ∧ cs = t.cards ns ++ u.cards ns ++ [k])
theorem pmap {α β γ : Type} {F : α → β → Prop} {G : α → γ → Prop} {f : β → γ} (h : ∀ a b, F a b → G a (f b)) : ∀ {vs : List α} {rs : List β}, Paired F vs rs → Paired G vs (rs.map f)
 | _, _, .nil => .nil
 | _, _, .cons q t => .cons (h _ _ q) (pmap h t)
theorem one_word {k : Cd} {wd : Str} (h : Cd.vs k = [.str wd]) (n : V.str wd ≠ V.str "while" → V.str wd ≠ V.str "when" → V.str wd ≠ V.str "set" → V.str wd ≠ V.str "with" → False) : False := by
 have e : ∀ z : Str, Cd.vs k = [V.str z] → V.str z ≠ V.str "while" ∧ V.str z ≠ V.str "when" ∧ V.str z ≠ V.str "set" ∧ V.str z ≠ V.str "with" := fun z hz => by
  cases k with
  | op o =>
   have : V.str o.w = V.str z := by injection hz
   rw [← this]
   cases o <;> exact ⟨by decide +kernel, by decide +kernel, by decide +kernel, by decide +kernel⟩
  | less =>
   have : V.str "less" = V.str z := by injection hz
   rw [← this]; exact ⟨by decide +kernel, by decide +kernel, by decide +kernel, by decide +kernel⟩
  | same =>
   have : V.str "same" = V.str z := by injection hz
   rw [← this]; exact ⟨by decide +kernel, by decide +kernel, by decide +kernel, by decide +kernel⟩
  | drop =>
   have : V.str "drop" = V.str z := by injection hz
   rw [← this]; exact ⟨by decide +kernel, by decide +kernel, by decide +kernel, by decide +kernel⟩
  | flip =>
   have : V.str "flip" = V.str z := by injection hz
   rw [← this]; exact ⟨by decide +kernel, by decide +kernel, by decide +kernel, by decide +kernel⟩
  | say =>
   have : V.str "say" = V.str z := by injection hz
   rw [← this]; exact ⟨by decide +kernel, by decide +kernel, by decide +kernel, by decide +kernel⟩
  | burn =>
   have : V.str "burn" = V.str z := by injection hz
   rw [← this]; exact ⟨by decide +kernel, by decide +kernel, by decide +kernel, by decide +kernel⟩
  | push _ => simp [Cd.vs] at hz
  | load _ => simp [Cd.vs] at hz
  | store _ => simp [Cd.vs] at hz
  | skip _ => simp [Cd.vs] at hz
  | fork _ => simp [Cd.vs] at hz
  | back _ => simp [Cd.vs] at hz
 obtain ⟨a, b, c, d⟩ := e wd h
 exact n a b c d
theorem Node.tg {ns : List Str} {H : Hp} {n : Nat} {u : V} {cs : List Cd} {c : Addr} {wd : Str} {us : List V} {ths : List Th} (N : Node ns H n u cs c wd us ths) : TNode ns H n u cs c wd us (ths.map Tg.th) := by
 obtain ⟨hu, e, hP, no1, no2, hok, few, kind⟩ := N
 have hP' : Paired (IsTg H) us (ths.map Tg.th) := pmap (G := IsTg H) (f := Tg.th) (fun _ _ z => z) hP
 have ok' : ∀ x ∈ ths.map Tg.th, x.dp ≤ n ∧ x.ok ns ∧ (x.cards ns).length + 1 ≤ cs.length := fun x hx => by
  obtain ⟨t, ht, rfl⟩ := List.mem_map.mp hx
  exact hok t ht
 rcases kind with ⟨rfl, t, rfl, ec⟩ | ⟨rfl, t, t2, rfl, ec⟩ | ⟨n3, n4, t, t2, k, rfl, ek, ec⟩
 ·exact ⟨hu, e, hP', no1, no2, by decide +kernel, by decide +kernel, ok', by omega, .inl ⟨rfl, _, rfl, ec⟩⟩
 ·exact ⟨hu, e, hP', no1, no2, by decide +kernel, by decide +kernel, ok', by omega, .inr (.inl ⟨rfl, _, _, rfl, ec⟩)⟩
 ·have h4 : V.str wd ≠ V.str "while" ∧ V.str wd ≠ V.str "when" ∧ V.str wd ≠ V.str "set" ∧ V.str wd ≠ V.str "with" := by
   by_cases z : V.str wd ≠ V.str "while" ∧ V.str wd ≠ V.str "when" ∧ V.str wd ≠ V.str "set" ∧ V.str wd ≠ V.str "with"
   ·exact z
   ·exact (one_word ek (fun a b c d => z ⟨a, b, c, d⟩)).elim
  exact ⟨hu, e, hP', no1, no2, decide_eq_false h4.2.2.1, decide_eq_false h4.2.2.2, ok', by omega, .inr (.inr (.inr (.inr (.inr ⟨n3, n4, decide_eq_false h4.1, decide_eq_false h4.2.1, _, _, k, rfl, ek, ec⟩))))⟩
inductive TWay (ns : List Str) (H : Hp) (n : Nat) (u : V) (cs : List Cd) : Prop where
 | bk (p : Addr) (vs : List V) (b : Bk) : u = .ref p → H p = some (.lst vs) → IsBk H noM vs b → b.lin ns → 2 * b.dp + 21 ≤ n + 1 → cs = b.cards ns → TWay ns H n u cs
 | num (c : Addr) (i : Int) : u = .ref c → H c = some (.tup [.str "num", .int i]) → cs = [.push i] → TWay ns H n u cs
 | name (c : Addr) (x : Str) : u = .ref c → H c = some (.tup [.str "name", .str x]) → x ∈ ns → cs = [.load (((xq ns x).getD 0 : Nat) : Int)] → TWay ns H n u cs
 | set (c : Addr) (x : Str) (v : V) (s : Sm Str) : u = .ref c → H c = some (.tup [.str "set", .str x, v]) → qy H v s → x ∈ ns → s.fin ns → 21 ≤ n → cs = s.cards ns ++ [.store (ixC ns x)] → TWay ns H n u cs
 | wit (c p : Addr) (x : Str) (v : V) (s : Sm Str) (vb : List V) (b : Bk) : u = .ref c → H c = some (.tup [.str "with", .str x, v, .ref p]) → qy H v s → H p = some (.lst vb) → IsBk H noM vb b → s.fin ns → ns.length < 500 → b.lin (ns ++ [x]) → 21 ≤ n → 2 * b.dp + 21 ≤ n → cs = s.cards ns ++ b.cards (ns ++ [x]) ++ [.drop] → TWay ns H n u cs
 | node (c : Addr) (wd : Str) (us : List V) (ths : List Tg) : TNode ns H n u cs c wd us ths → TWay ns H n u cs
theorem way_of {ns : List Str} {H : Hp} {n : Nat} {u : V} {g : Tg} (h : IsTg H u g) (hd : g.dp ≤ n + 1) (hm : g.ok ns) : TWay ns H n u (g.cards ns) := by
 cases g with
 | bk b =>
  obtain ⟨p, vs, e, h1, h2⟩ := h
  exact .bk p vs b e h1 h2 hm hd rfl
 | th t =>
  rcases node_of h hd hm with ⟨c, i, e1, e2, e3⟩ | ⟨c, x, e1, e2, e3, e4⟩ | ⟨c, wd, us, ths, N⟩
  ·exact .num c i e1 e2 e3
  ·exact .name c x e1 e2 e3 e4
  ·exact .node c wd us _ N.tg
 | od o =>
  cases (show IsOd H u o from h) with
  | @set c x v s e hs =>
   have hd' : 2 * 0 + 22 ≤ n + 1 := hd
   exact .set c x v s rfl e hs hm.1 hm.2 (by omega) rfl
  | @say c v s e hs =>
   have hd' : 2 * 0 + 22 ≤ n + 1 := hd
   have hf : s.fin ns := hm
   refine .node c "say" [v] [.th (.s s)] ⟨rfl, e, .cons hs .nil, by decide +kernel, by decide +kernel, by decide +kernel, by decide +kernel, fun x hx => ?_, by simp, .inr (.inr (.inr (.inr (.inl ⟨rfl, _, rfl, rfl⟩))))⟩
   have := List.mem_singleton.mp hx
   subst this
   refine ⟨by show s.dp ≤ n; have := hf.2.1; omega, Sm.lin_nm hf.1, ?_⟩
   show (s.cards ns).length + 1 ≤ (s.cards ns ++ [_]).length
   rw [List.length_append]; exact Nat.le_refl _
  | @when c p q v t vb vc b d e ht e1 h1 e2 h2 =>
   have hd' : 2 * (max b.dp d.dp) + 22 ≤ n + 1 := hd
   have hf : t.fin ns := hm.1
   refine .node c "when" [v, .ref p, .ref q] [.th (.t t), .bk b, .bk d] ⟨rfl, e, .cons ht (.cons ⟨p, vb, rfl, e1, h1⟩ (.cons ⟨q, vc, rfl, e2, h2⟩ .nil)), by decide +kernel, by decide +kernel, by decide +kernel, by decide +kernel, fun x hx => ?_, by simp, .inr (.inr (.inr (.inl ⟨rfl, _, _, _, rfl, rfl⟩)))⟩
   have el : (Tg.cards ns (.od (.when t b d))).length = (t.cards ns).length + 1 + (b.cards ns).length + 1 + (d.cards ns).length := by
    show (vm (t.cards ns) (b.cards ns) (d.cards ns)).length = _
    simp only [vm, List.length_append, List.length_cons, List.length_nil]
   rw [el]
   rcases List.mem_cons.mp hx with rfl | hx
   ·exact ⟨by show t.dp ≤ n; have := hf.2.1; omega, Ts.lin_nm hf.1, by show (t.cards ns).length + 1 ≤ _; omega⟩
   rcases List.mem_cons.mp hx with rfl | hx
   ·exact ⟨by show 2 * b.dp + 21 ≤ n; omega, hm.2.1, by show (b.cards ns).length + 1 ≤ _; omega⟩
   ·have := List.mem_singleton.mp hx
    subst this
    exact ⟨by show 2 * d.dp + 21 ≤ n; omega, hm.2.2, by show (d.cards ns).length + 1 ≤ _; omega⟩
  | @whil c p v t vb b e ht e1 h1 =>
   have hd' : 2 * b.dp + 22 ≤ n + 1 := hd
   have hf : t.fin ns := hm.1
   refine .node c "while" [v, .ref p] [.th (.t t), .bk b] ⟨rfl, e, .cons ht (.cons ⟨p, vb, rfl, e1, h1⟩ .nil), by decide +kernel, by decide +kernel, by decide +kernel, by decide +kernel, fun x hx => ?_, by simp, .inr (.inr (.inl ⟨rfl, _, _, rfl, rfl⟩))⟩
   have el : (Tg.cards ns (.od (.whil t b))).length = (t.cards ns).length + 1 + (b.cards ns).length + 1 := by
    show (ko (t.cards ns) (b.cards ns)).length = _
    simp only [ko, List.length_append, List.length_cons, List.length_nil]
   rw [el]
   rcases List.mem_cons.mp hx with rfl | hx
   ·exact ⟨by show t.dp ≤ n; have := hf.2.1; omega, Ts.lin_nm hf.1, by show (t.cards ns).length + 1 ≤ _; omega⟩
   ·have := List.mem_singleton.mp hx
    subst this
    exact ⟨by show 2 * b.dp + 21 ≤ n; omega, hm.2, by show (b.cards ns).length + 1 ≤ _; omega⟩
  | @wit c p x v s vb b e hs e1 h1 =>
   have hd' : 2 * b.dp + 22 ≤ n + 1 := hd
   exact .wit c p x v s vb b rfl e hs e1 h1 hm.1 hm.2.1 hm.2.2 (by omega) (by omega) rfl
theorem bk_cons {H : Hp} {v : V} {vs : List V} {b : Bk} (h : IsBk H noM (v :: vs) b) : ∃ o r, IsOd H v o ∧ IsBk H noM vs r ∧ o.bd + 1 ≤ b.dp ∧ r.dp ≤ b.dp ∧ (∀ ns, b.cards ns = .burn :: (o.cards ns ++ r.cards ns)) ∧ (∀ ns, b.lin ns → o.lin ns ∧ r.lin ns) := by
 cases h with
 | @set a x u s _ r e hs hr => exact ⟨.set x s, r, .set e hs, hr, by show 0 + 1 ≤ r.dp; exact r.dp_pos, Nat.le_refl _, fun ns => rfl, fun ns h => ⟨⟨h.1, h.2.1⟩, h.2.2⟩⟩
 | @say a u s _ r e hs hr => exact ⟨.say s, r, .say e hs, hr, by show 0 + 1 ≤ r.dp; exact r.dp_pos, Nat.le_refl _, fun ns => rfl, fun ns h => ⟨h.1, h.2⟩⟩
 | @when a p q u t vb vc _ b c r e ht _ e1 h1 _ e2 h2 hr => exact ⟨.when t b c, r, .when e ht e1 h1 e2 h2, hr, by show max b.dp c.dp + 1 ≤ max (max (b.dp + 1) (c.dp + 1)) r.dp; omega, by show r.dp ≤ max (max (b.dp + 1) (c.dp + 1)) r.dp; omega, fun ns => rfl, fun ns h => ⟨⟨h.1, h.2.1, h.2.2.1⟩, h.2.2.2⟩⟩
 | @whil a p u t vb _ b r e ht _ e1 h1 hr => exact ⟨.whil t b, r, .whil e ht e1 h1, hr, by show b.dp + 1 ≤ max (b.dp + 1) r.dp; omega, by show r.dp ≤ max (b.dp + 1) r.dp; omega, fun ns => rfl, fun ns h => ⟨⟨h.1, h.2.1⟩, h.2.2⟩⟩
 | @wit a p x u s vb _ b r e hs _ e1 h1 hr => exact ⟨.wit x s b, r, .wit e hs e1 h1, hr, by show b.dp + 1 ≤ max (b.dp + 1) r.dp; omega, by show r.dp ≤ max (b.dp + 1) r.dp; omega, fun ns => rfl, fun ns h => ⟨⟨h.1, h.2.1, h.2.2.1⟩, h.2.2.2⟩⟩
end J
namespace W12
open PySem L2 J
section
variable {P : Program} {w : World} {K : W.Frag} {mg : Str → Option Value} {base : Heap}
noncomputable def spForkO : Sp := fun vs H Q _ => ∃ (p0 : Addr) (ws0 : List V) (c0 : List Cd), vs = [.ref p0] ∧ H p0 = some (.lst ws0) ∧ Cds H ws0 c0 ∧ c0.length ≤ 2000000 ∧
 ∀ p ws H', Same H H' → H p = none → H' p = some (.lst ws) → Cds H' ws ([.fork ((c0.length : Int) + 1)] ++ c0) → Q (.ref p) H'
theorem ok_law_fork_over (T : Txt K mg) : FnOk P w K mg base CX0 1 T.f_law_fork_over T.fd_law_fork_over ["_law_row"] spForkO := by
 refine T.law_fork_over.F.ok sc_law_fork_over (fun vs H Q E h => ?_) (fun cdv A outer s H vs Q E hr h => ?_)
 ·obtain ⟨p0, ws0, c0, rfl, _⟩ := h; rfl
 obtain ⟨p0, ws0, cs0, rfl, e0, c0, hl, q⟩ := h
 have one : (1 : Nat) ≤ sizeLine := by decide
 have two : (2 : Nat) ≤ sizeLine := by decide
 refine ⟨_, (zg (zr (zy qr (ql (za (qb (za zi (za (zy jg (qk qa rfl T.b_len PySem.boot_len (za (pv 0) zb)) zd) zb))) zb)) (pv 0)))), ?_⟩
 try dsimp only[kx,kxb]
 have l0 := c0.len
 refine ⟨_, rfl, _, _, rfl, .inl (SqL.of e0), _, _, rfl, rfl, two, fun t1 ht1 => ⟨one, fun p4 hp4 => ?_⟩⟩
 obtain ⟨S1, f1, d1⟩ := oneL (.fork ((cs0.length : Int) + 1)) ht1 hp4 (by rw [← l0]; rfl)
 refine ⟨_, rfl, p4, p0, [.ref t1], ws0, rfl, rfl, f1, S1 _ _ e0, by rw [sizeLine_eq]; show 1 + _ ≤ _; omega, fun p5 hp5 => ?_⟩
 obtain ⟨S2, f2, d2⟩ := catL hp5 d1 (c0.mono S1.tup)
 exact q p5 _ _ (S1.trans S2) (S1.free hp5) f2 d2
noncomputable def spForT (n : Nat) : Sp := fun vs H Q _ => ∃ (u : V) (a : Addr) (ns : List Str) (g : Tg), vs = [u, .ref a] ∧ IsTg H u g ∧ g.dp ≤ n ∧ (g.cards ns).length ≤ 1000000 ∧ H a = some (.lst (ns.map V.str)) ∧ ns.length ≤ 500 ∧ g.ok ns ∧
 ∀ p ws H', Same H H' → H p = none → H' p = some (.lst ws) → Cds H' ws (g.cards ns) → Q (.ref p) H'
noncomputable def PForR (H : Hp) (D : Addr) (css : List (List Cd)) (i : Nat) (H' : Hp) : Prop := Same H H' ∧ ∃ vs, H' D = some (.lst vs) ∧ Paired (RowC D H') vs (css.take i)
noncomputable def PForB (H : Hp) (p a : Addr) (us : List V) (ns : List Str) (b : Bk) (n i : Nat) (σ : St) (H' : Hp) : Prop :=
 ∃ o3 D bi acc ws, σ = [some (.ref p), some (.ref a), some (.ref D), o3, none, none, none, none] ∧ Same H H' ∧ H D = none ∧ H' D = some (.lst ws) ∧ Cds H' ws acc ∧ IsBk H noM (us.drop i) bi ∧ 2 * bi.dp + 21 ≤ n + 1 ∧ bi.lin ns ∧ b.cards ns = acc ++ bi.cards ns
theorem zay (T : Txt K mg) : ∀ n : Nat, FnOk P w K mg base CX0 (n + 2) T.f_law_cards_for T.fd_law_cards_for ["_law_thing", "_law_names"] (spForT n)
 | 0 => by
  have no : ∀ vs H Q E, ¬ spForT 0 vs H Q E := fun vs H Q E h => by
   obtain ⟨u, a, ns, g, _, _, h1, _⟩ := h
   cases g with
   | th s =>
    cases s with
    | s s => cases s <;> simp [Tg.dp, Th.dp, Sm.dp] at h1
    | t t => cases t <;> simp [Tg.dp, Th.dp, Ts.dp] at h1
   | od o => have : 2 * o.bd + 22 ≤ 0 := h1; omega
   | bk b => have : 2 * b.dp + 21 ≤ 0 := h1; omega
  exact ⟨fun vs H Q E h => absurd h (no vs H Q E), fun A outer s H args us vs Q E _ _ _ _ h => absurd h (no vs H Q E)⟩
 | n + 1 => by
  have G_law_cards_for := zay T n
  have G_law_last := (zbt (P := P) (w := w) (base := base) T).mono (show 1 ≤ n + 2 by omega)
  have G_law_fork_over := (ok_law_fork_over (P := P) (w := w) (base := base) T).mono (show 1 ≤ n + 2 by omega)
  refine T.law_cards_for.F.ok q8 (fun vs H Q E h => ?_) (fun cdv A outer s H vs Q E hr h => ?_)
  ·obtain ⟨u, a, ns, s, rfl, _⟩ := h; rfl
  obtain ⟨u, a, ns, g, rfl, hu, hd, hc, hA, hn, hg, q⟩ := h
  have one : (1 : Nat) ≤ sizeLine := by decide
  have two : (2 : Nat) ≤ sizeLine := by decide
  refine ⟨_, (zf (z0 (ki (qk jb rfl T.b_isinstance qt (za (pv 0) (za (j3 (v := .ty "list") rfl T.b_list j4 rfl) zb)))) (zf (zx (i := 2) q8.nd rfl (Or.inl rfl) (ql zb))
  (zf (zao PassesOwn.never rfl (zdl (pv 0)) (vj (i := 3) q8.nd rfl (Or.inl rfl)) (zg (zx (i := 2) q8.nd rfl (Or.inl rfl) (zy qr (zy qr (pv 2) (ql (za (qb (za zi zb)) zb))) (zk G_law_cards_for hr rfl T.law_cards_for.m T.law_cards_for.F.kp T.law_cards_for.b .nil zq (za (pv 3) (za (pv 1) zb)))))))
  (zg (zr (pv 2))))) zv)
  (zf (zx (i := 4) q8.nd rfl (Or.inl rfl) (zn zm (pv 0) zd (fun _ _ => rfl)))
  (zf (z0 (zj qi (pv 4) zi (zp _)) (zg (zr (ql (za (qb (za zi (za (zn zm (pv 0) zd (fun _ _ => rfl)) zb))) zb)))) zv)
  (zf (z0 (zj qi (pv 4) zi (zp _)) (zg (zr (ql (za (qb (za zi (za (zk G_law_last hr rfl T.law_last.m T.law_last.F.kp T.law_last.b .nil zq (za (pv 1) (za (zn zm (pv 0) zd (fun _ _ => rfl)) zb))) zb))) zb)))) zv)
  (zf (z0 (zj qi (pv 4) zi (zp _)) (zg (zr (zy qr (zk G_law_cards_for hr rfl T.law_cards_for.m T.law_cards_for.F.kp T.law_cards_for.b .nil zq (za (zn zm (pv 0) zd (fun _ _ => rfl)) (za (pv 1) zb))) (ql (za (qb (za zi (za (zk G_law_last hr rfl T.law_last.m T.law_last.F.kp T.law_last.b .nil zq (za (pv 1) (za (zn zm (pv 0) zd (fun _ _ => rfl)) zb))) zb))) zb))))) zv)
  (zf (z0 (zj qi (pv 4) zi (zp _)) (zf (zx (i := 5) q8.nd rfl (Or.inl rfl) (zk G_law_cards_for hr rfl T.law_cards_for.m T.law_cards_for.F.kp T.law_cards_for.b .nil zq (za (zn zm (pv 0) zd (fun _ _ => rfl)) (za (zy qr (pv 1) (ql (za (zn zm (pv 0) zd (fun _ _ => rfl)) zb))) zb))))
  (zg (zr (zy qr (zy qr (zk G_law_cards_for hr rfl T.law_cards_for.m T.law_cards_for.F.kp T.law_cards_for.b .nil zq (za (zn zm (pv 0) zd (fun _ _ => rfl)) (za (pv 1) zb))) (pv 5)) (ql (za (qb (za zi zb)) zb)))))) zv)
  (zf (zdv (i := 6) q8.nd rfl rfl rfl (js := [1]) (ys := ["_law_names"]) (pi_tup (kj sl_tup (pv 0) (kh zd) zba)) (by rfl) (by rfl) (by decide +kernel) (fun _ _ _ _ => pts_nil) (fun _ _ _ _ => (zk G_law_cards_for hr rfl T.law_cards_for.m T.law_cards_for.F.kp T.law_cards_for.b .nil zq (za (pv 0) (za (pv 1) zb)))))
  (zf (z0 (zj qi (pv 4) zi (zp _)) (zg (zr (zy qr (zn qp (pv 6) zd (fun _ _ => rfl)) (ql (za (qb (za zi zb)) zb))))) zv)
  (zf (z0 (zj qi (pv 4) zi (zp _)) (zg (zr (zy qr (zy qr (zy qr (zn qp (pv 6) zd (fun _ _ => rfl)) (ql (za (qb (za zi (za (zy jg (qk qa rfl T.b_len PySem.boot_len (za (zn qp (pv 6) zd (fun _ _ => rfl)) zb)) zd) zb))) zb))) (zn qp (pv 6) zd (fun _ _ => rfl))) (ql (za (qb (za zi (za zd zb))) (za (qb (za zi (za zd zb))) zb)))))) zv)
  (zf (z0 (zj qi (pv 4) zi (zp _)) (zf (zx (i := 7) q8.nd rfl (Or.inl rfl) (zy jg (zy jg (qk qa rfl T.b_len PySem.boot_len (za (zn qp (pv 6) zd (fun _ _ => rfl)) zb)) zd) (qk qa rfl T.b_len PySem.boot_len (za (zn qp (pv 6) zd (fun _ _ => rfl)) zb))))
  (zg (zr (zy qr (zy qr (zn qp (pv 6) zd (fun _ _ => rfl)) (zk G_law_fork_over hr rfl T.law_fork_over.m T.law_fork_over.F.kp T.law_fork_over.b .nil zq (za (zn qp (pv 6) zd (fun _ _ => rfl)) zb))) (ql (za (qb (za zi (za (pv 7) zb))) zb)))))) zv)
  (zf (z0 (zj qi (pv 4) zi (zp _)) (zg (zr (zy qr (zy qr (zy qr (zn qp (pv 6) zd (fun _ _ => rfl)) (zk G_law_fork_over hr rfl T.law_fork_over.m T.law_fork_over.F.kp T.law_fork_over.b .nil zq (za (zn qp (pv 6) zd (fun _ _ => rfl)) zb))) (ql (za (qb (za zi (za (qk qa rfl T.b_len PySem.boot_len (za (zn qp (pv 6) zd (fun _ _ => rfl)) zb)) zb))) zb))) (zn qp (pv 6) zd (fun _ _ => rfl))))) zv)
  (zf (z0 (zj qi (qk qa rfl T.b_len PySem.boot_len (za (pv 6) zb)) zd (zp _)) (zg (zr (zy qr (zn qp (pv 6) zd (fun _ _ => rfl)) (ql (za (qb (za zi zb)) zb))))) zv)
  (zg (zr (zy qr (zy qr (zn qp (pv 6) zd (fun _ _ => rfl)) (zn qp (pv 6) zd (fun _ _ => rfl))) (ql (za (qb (za (pv 4) zb)) zb))))))))))))))))), ?_⟩
  try dsimp only[kx,kxb]
  have W := way_of hu hd hg
  generalize g.cards ns = cs at W q hc
  cases W with
  | bk p us b eu h1 hB hl hdp ec =>
   subst eu ec
   refine ⟨_, rfl, _, "list", _, true, rfl, .inl (.lst h1), by decide +kernel, _, rfl, qj rfl ?_⟩
   refine ⟨Nat.zero_le _, fun D hD => ?_⟩
   have S0 : Same H (upd H D (.lst [])) := ze hD _
   have e0 : upd H D (.lst []) D = some (.lst []) := zc
   generalize upd H D (.lst []) = H1 at S0 e0
   refine ⟨_, rfl, p, rfl, ⟨_, SqL.of (S0 _ _ h1)⟩, ?_⟩
   refine zd6 (xs := us) (PForB H p a us ns b n) ⟨none, D, b, [], [], rfl, S0, hD, e0, .nil, hB, hdp, hl, rfl⟩ (fun i σ H' _ z => by obtain ⟨_, _, _, _, _, _, S, _⟩ := z; exact SqL.of (S _ _ h1)) ?_ ?_
   ·rintro i x σ H' hx ⟨o3, D2, bi, acc, ws, rfl, S, hD2, eD, hC, hBi, hdi, hli, hacc⟩
    have hil := (List.getElem?_eq_some_iff.mp hx).1
    have hdrop : us.drop i = x :: us.drop (i + 1) := by
     have := List.drop_eq_getElem_cons hil
     rw [(List.getElem?_eq_some_iff.mp hx).2] at this
     exact this
    rw [hdrop] at hBi
    have hal : acc.length + (bi.cards ns).length ≤ 1000000 := by rw [hacc, List.length_append] at hc; omega
    obtain ⟨o, r, hxo, hr2, d1, d2, hcc, hll⟩ := bk_cons hBi
    rw [hcc ns, List.length_cons, List.length_append] at hal
    have hwl := hC.len
    refine ⟨_, rfl, one, fun t1 ht1 => ⟨one, fun p4 hp4 => ?_⟩⟩
    obtain ⟨S1, f1, k1⟩ := oneL .burn ht1 hp4 rfl
    refine ⟨D2, p4, ws, [.ref t1], rfl, rfl, S1 _ _ eD, f1, by rw [sizeLine_eq]; show _ + 1 ≤ _; omega, fun p5 hp5 => ?_⟩
    obtain ⟨S2, f2, k2⟩ := catL hp5 (hC.mono S1.tup) k1
    have S12 := S.trans (S1.trans S2)
    refine ⟨_, rfl, _, rfl, x, a, ns, .od o, rfl, IsOd.same S12 hxo, (by show 2 * o.bd + 22 ≤ n; omega), (by show (o.cards ns).length ≤ _; omega), S12 _ _ hA, hn, (hll ns hli).1, fun p6 ws6 H6 S6 f6 e6 c6 => ?_⟩
    have w6 : ws6.length = (o.cards ns).length := c6.len
    refine ⟨p5, p6, _, ws6, rfl, rfl, S6 _ _ f2, e6, by rw [sizeLine_eq, List.length_append]; show _ + 1 + _ ≤ _; omega, fun p7 hp7 => ?_⟩
    obtain ⟨S7, f7, k7⟩ := catL hp7 (k2.mono S6.tup) c6
    have S16 := S12.trans S6
    refine ⟨_, p7, r, _, _, rfl, S16.trans S7, S16.free hp7, f7, k7, hr2, by omega, (hll ns hli).2, ?_⟩
    rw [hacc, hcc ns]
    show _ = acc ++ [.burn] ++ o.cards ns ++ r.cards ns
    simp only [List.append_assoc, List.cons_append, List.nil_append]
   ·rintro σ H' ⟨o3, D2, bi, acc, ws, rfl, S, hD2, eD, hC, hBi, hdi, hli, hacc⟩
    rw [List.drop_length] at hBi
    cases hBi
    rw [show b.cards ns = acc from hacc.trans (List.append_nil _)] at q
    exact ⟨_, rfl, q D2 ws H' S hD2 eD hC⟩
  | num c i eu e ec =>
   subst eu ec
   refine ⟨_, rfl, _, "tuple", _, false, rfl, .inr ⟨rfl, _, _, rfl, .inl e⟩, by decide +kernel, _, rfl, zo rfl ?_⟩
   refine ⟨_, rfl, _, _, _, _, rfl, rfl, SqT.of e, at0, ?_⟩
   refine ⟨_, rfl, rfl, _, rfl, qj (by decide +kernel) ?_⟩
   refine ⟨_, rfl, _, _, _, _, rfl, rfl, SqT.of e, zu (j := 1) rfl, two, fun t ht => ⟨one, fun p hp => ?_⟩⟩
   obtain ⟨S1, f1, k1⟩ := oneL (.push i) ht hp rfl
   exact q p _ _ S1 ((ze ht _).free hp) f1 k1
  | name c x eu e hx ec =>
   subst eu ec
   obtain ⟨i, hi⟩ := j7 hx
   refine ⟨_, rfl, _, "tuple", _, false, rfl, .inr ⟨rfl, _, _, rfl, .inl e⟩, by decide +kernel, _, rfl, zo rfl ?_⟩
   refine ⟨_, rfl, _, _, _, _, rfl, rfl, SqT.of e, at0, ?_⟩
   refine xi rfl (by decide +kernel) ?_ rfl
   refine ⟨_, rfl, rfl, _, rfl, qj (by decide +kernel) ?_⟩
   refine ⟨_, rfl, _, rfl, _, _, _, _, rfl, rfl, SqT.of e, zu (j := 1) rfl, ?_⟩
   refine ⟨a, ns, x, i, rfl, SqL.of hA, by omega, hi, two, fun t ht => ⟨one, fun p hp => ?_⟩⟩
   obtain ⟨S1, f1, k1⟩ := oneL (.load (i : Int)) ht hp rfl
   refine q p _ _ S1 ((ze ht _).free hp) f1 ?_
   rw [hi]
   exact k1
  | set c x v sm eu e hs hx hf h21 ec =>
   subst eu ec
   obtain ⟨i, hi⟩ := j7 hx
   have hsl := Sm.cards_le ns sm
   have hlv := hf.2.2
   refine ⟨_, rfl, _, "tuple", _, false, rfl, .inr ⟨rfl, _, _, rfl, .inl e⟩, by decide +kernel, _, rfl, zo rfl ?_⟩
   refine ⟨_, rfl, _, _, _, _, rfl, rfl, SqT.of e, at0, ?_⟩
   refine xi rfl (by decide +kernel) ?_ rfl
   refine xi rfl (by decide +kernel) ?_ rfl
   refine ⟨_, rfl, rfl, _, rfl, qj (by decide +kernel) ?_⟩
   refine ⟨_, rfl, _, _, _, _, rfl, rfl, SqT.of e, zu (j := 2) rfl, _, rfl, ?_⟩
   refine ⟨v, a, ns, .th (.s sm), rfl, hs, (by show sm.dp ≤ n; have := hf.2.1; omega), (by show (sm.cards ns).length ≤ _; omega), hA, hn, Sm.lin_nm hf.1, fun p1 ws1 H1 S1 f1 e1 c1 => ?_⟩
   have w1 : ws1.length = (sm.cards ns).length := c1.len
   refine ⟨_, rfl, _, rfl, _, _, _, _, rfl, rfl, SqT.of (S1 _ _ e), zu (j := 1) rfl, ?_⟩
   refine ⟨a, ns, x, i, rfl, SqL.of (S1 _ _ hA), by omega, hi, two, fun t ht => ⟨one, fun p hp => ?_⟩⟩
   obtain ⟨S2, f2, k2⟩ := oneL (.store (i : Int)) ht hp rfl
   refine ⟨p1, p, ws1, [.ref t], rfl, rfl, S2 _ _ e1, f2, by rw [sizeLine_eq]; show _ + 1 ≤ _; omega, fun p3 hp3 => ?_⟩
   obtain ⟨S3, f3, k3⟩ := catL hp3 (c1.mono S2.tup) k2
   have S12 := S1.trans S2
   refine q p3 _ _ (S12.trans S3) (S12.free hp3) f3 ?_
   have ei : ixC ns x = (i : Int) := by unfold ixC; rw [hi]; rfl
   rw [ei]
   exact k3
  | wit c p x v sm vb b eu e hs hp0 hB hf hn5 hl h21 hdp ec =>
   subst eu ec
   have hsl := Sm.cards_le ns sm
   have hlv := hf.2.2
   have hcl := hc
   simp only [List.length_append, List.length_cons, List.length_nil] at hcl
   refine ⟨_, rfl, _, "tuple", _, false, rfl, .inr ⟨rfl, _, _, rfl, .inl e⟩, by decide +kernel, _, rfl, zo rfl ?_⟩
   refine ⟨_, rfl, _, _, _, _, rfl, rfl, SqT.of e, at0, ?_⟩
   refine xi rfl (by decide +kernel) ?_ rfl
   refine xi rfl (by decide +kernel) ?_ rfl
   refine xi rfl (by decide +kernel) ?_ rfl
   refine ⟨_, rfl, rfl, _, rfl, qj (by decide +kernel) ?_⟩
   refine ⟨_, rfl, _, _, _, _, rfl, rfl, SqT.of e, zu (j := 3) rfl, _, rfl, ?_⟩
   refine ⟨_, rfl, _, _, _, _, rfl, rfl, SqT.of e, zu (j := 1) rfl, one, fun p4 hp4 => ?_⟩
   have S4 := ze hp4 (.lst [V.str x])
   have e4 : upd H p4 (.lst [V.str x]) p4 = some (.lst [V.str x]) := zc
   generalize upd H p4 (.lst [V.str x]) = H4 at S4 e4
   refine ⟨a, p4, _, _, rfl, rfl, S4 _ _ hA, e4, by rw [sizeLine_eq, List.length_map]; show _ + 1 ≤ _; omega, fun p5 hp5 => ?_⟩
   have S5 := ze hp5 (.lst (ns.map V.str ++ [V.str x]))
   have e5 : upd H4 p5 (.lst (ns.map V.str ++ [V.str x])) p5 = some (.lst ((ns ++ [x]).map V.str)) := by rw [zc, List.map_append]; rfl
   have S45 := S4.trans S5
   generalize upd H4 p5 (.lst (ns.map V.str ++ [V.str x])) = H5 at S45 e5
   refine ⟨.ref p, p5, ns ++ [x], .bk b, rfl, ⟨p, vb, rfl, S45 _ _ hp0, hB.same S45⟩, hdp, (by show (b.cards (ns ++ [x])).length ≤ _; omega), e5, by rw [List.length_append]; show _ + 1 ≤ 500; omega, hl, fun p6 ws6 H6 S6 f6 e6 c6 => ?_⟩
   have w6 : ws6.length = (b.cards (ns ++ [x])).length := c6.len
   have S16 := S45.trans S6
   refine ⟨_, rfl, _, _, _, _, rfl, rfl, SqT.of (S16 _ _ e), zu (j := 2) rfl, _, rfl, ?_⟩
   refine ⟨v, a, ns, .th (.s sm), rfl, hs.mono S16.tup, (by show sm.dp ≤ n; have := hf.2.1; omega), (by show (sm.cards ns).length ≤ _; omega), S16 _ _ hA, hn, Sm.lin_nm hf.1, fun p7 ws7 H7 S7 f7 e7 c7 => ?_⟩
   have w7 : ws7.length = (sm.cards ns).length := c7.len
   refine ⟨_, rfl, p7, p6, ws7, ws6, rfl, rfl, e7, S7 _ _ e6, by rw [sizeLine_eq]; omega, fun p8 hp8 => ?_⟩
   obtain ⟨S8, f8, k8⟩ := catL hp8 c7 (c6.mono S7.tup)
   refine ⟨one, fun t9 ht9 => ⟨one, fun p9 hp9 => ?_⟩⟩
   obtain ⟨S9, f9, k9⟩ := oneL .drop ht9 hp9 rfl
   refine ⟨p8, p9, _, [.ref t9], rfl, rfl, S9 _ _ f8, f9, by rw [sizeLine_eq, List.length_append]; show _ + 1 ≤ _; omega, fun p10 hp10 => ?_⟩
   obtain ⟨S10, f10, k10⟩ := catL hp10 (k8.mono S9.tup) k9
   have S19 := S16.trans (S7.trans (S8.trans S9))
   exact q p10 _ _ (S19.trans S10) (S19.free hp10) f10 k10
  | node c wd us ths N =>
   obtain ⟨rfl, e, hP, no1, no2, no3, no4, hok, few, kind⟩ := N
   refine ⟨_, rfl, _, "tuple", _, false, rfl, .inr ⟨rfl, _, _, rfl, .inl e⟩, by decide +kernel, _, rfl, zo rfl ?_⟩
   refine ⟨_, rfl, _, _, _, _, rfl, rfl, SqT.of e, at0, ?_⟩
   refine xi rfl no1 ?_ rfl
   refine xi rfl no2 ?_ rfl
   refine xi rfl no3 ?_ rfl
   refine xi rfl no4 ?_ rfl
   refine ⟨_, rfl, _, rfl, _, _, rfl, SqT.of e, (by rw [List.length_cons]; exact zel _), fun p hpn => ?_⟩
   have S1 : Same H (upd H p (.tup (cutV (.str wd :: us) (some 1) none))) := ze hpn _
   have e1 : upd H p (.tup (cutV (.str wd :: us) (some 1) none)) p = some (.tup us) := by rw [zc, zep]
   generalize upd H p (.tup (cutV (.str wd :: us) (some 1) none)) = H1 at S1 e1
   refine ⟨_, rfl, ⟨_, SqT.of e1⟩, fun D hD => ?_⟩
   refine comp_tup (K := K) (xs := us) (PForR H1 D (ths.map (Tg.cards ns))) ⟨ze hD _, [], zc, .nil⟩ (fun i H' z => SqT.of (z.1 _ _ e1)) ?_ ?_
   ·rintro i x H' hx ⟨S, vs, hvs, hP'⟩
    refine zf0 ?_
    obtain ⟨t, ht, hxt⟩ := pget hP hx
    have htm : t ∈ ths := List.mem_of_getElem? ht
    obtain ⟨d1, d2, d3⟩ := hok t htm
    have hlv := plen hP'
    have hil := (List.getElem?_eq_some_iff.mp hx).1
    refine ⟨_, rfl, _, rfl, x, a, ns, t, rfl, (hxt.same S1).same S, d1, by omega, (S1.trans S) _ _ hA, hn, d2, fun p2 ws2 H3 S3 f3 e3 c3 => ?_⟩
    have hvs3 := S3 _ _ hvs
    have L3 := (zbj (H := H3) (l := D) (.lst (vs ++ [.ref p2]))).tup hvs3
    have ne : p2 ≠ D := fun z => by rw [z, hvs] at f3; cases f3
    refine ⟨vs, hvs3, ?_, Same.at (S.trans S3) hD _, vs ++ [.ref p2], zc, ?_⟩
    ·rw [hlv, List.length_take, sizeLine_eq]; omega
    ·have et : (ths.map (Tg.cards ns)).take (i + 1) = (ths.map (Tg.cards ns)).take i ++ [t.cards ns] := by
      rw [List.take_add_one, List.getElem?_map, ht]; rfl
     rw [et]
     refine psnoc (Paired.mapP hP' fun v cs z => z.mono ((But.of S3).trans (zbj _)) (S3.tup.trans L3)) ⟨p2, ws2, rfl, ne, ?_, c3.mono L3⟩
     rw [zl ne]; exact e3
   ·rintro H' ⟨S, vs, hvs, hP'⟩
    have hul := plen hP
    have et : (ths.map (Tg.cards ns)).take us.length = ths.map (Tg.cards ns) := by
     rw [List.take_of_length_le]; rw [List.length_map]; omega
    rw [et] at hP'
    have SH := S1.trans S
    rcases kind with ⟨rfl, t, rfl, ec⟩ | ⟨rfl, t, t2, rfl, ec⟩ | ⟨rfl, t, t2, rfl, ec⟩ | ⟨rfl, t, t2, t3, rfl, ec⟩ | ⟨rfl, t, rfl, ec⟩ | ⟨n5, n6, n7, n8, t, t2, k, rfl, ek, ec⟩
    ·
     subst ec
     cases hP' with
     | @cons v1 _ vs' _ h1 hr =>
      cases hr
      obtain ⟨p1, ws1, rfl, n1, e1', c1⟩ := h1
      have l1 := c1.len
      have hcl := hc
      simp only [List.length_append, List.length_cons, List.length_nil] at hcl
      refine ⟨_, rfl, rfl, _, rfl, qj (by decide +kernel) ?_⟩
      refine ⟨_, rfl, _, _, _, _, rfl, rfl, SqL.of hvs, at0, ?_⟩
      refine ⟨one, fun t1 ht1 => ⟨one, fun p4 hp4 => ?_⟩⟩
      obtain ⟨S4, f4, k4⟩ := oneL .flip ht1 hp4 rfl
      refine ⟨p1, p4, ws1, [.ref t1], rfl, rfl, S4 _ _ e1', f4, by rw [sizeLine_eq]; show _ + 1 ≤ _; omega, fun p5 hp5 => ?_⟩
      obtain ⟨S5, f5, k5⟩ := catL hp5 (c1.mono S4.tup) k4
      have S14 := SH.trans S4
      exact q p5 _ _ (S14.trans S5) (S14.free hp5) f5 k5
    ·
     subst ec
     cases hP' with
     | @cons v1 _ vs' _ h1 hr =>
      cases hr with
      | @cons v2 _ vs'' _ h2 hr =>
       cases hr
       obtain ⟨p1, ws1, rfl, n1, e1', c1⟩ := h1
       obtain ⟨p2, ws2, rfl, n2, e2', c2⟩ := h2
       have l1 := c1.len
       have l2 := c2.len
       have hcl := hc
       simp only [List.length_append, List.length_cons, List.length_nil] at hcl
       refine xi rfl (by decide +kernel) ?_ rfl
       refine ⟨_, rfl, rfl, _, rfl, qj (by decide +kernel) ?_⟩
       refine ⟨_, rfl, _, _, _, _, rfl, rfl, SqL.of hvs, at0, ?_⟩
       refine ⟨_, rfl, _, _, _, _, rfl, rfl, SqL.of hvs, zu (j := 1) rfl, _, _, rfl, .inl (SqL.of e2'), _, _, rfl, rfl, two, fun t1 ht1 => ⟨one, fun p4 hp4 => ?_⟩⟩
       obtain ⟨S4, f4, k4⟩ := oneL (.fork (((t2.cards ns).length : Int) + 1)) ht1 hp4 (by rw [← l2]; rfl)
       refine ⟨p1, p4, ws1, [.ref t1], rfl, rfl, S4 _ _ e1', f4, by rw [sizeLine_eq]; show _ + 1 ≤ _; omega, fun p5 hp5 => ?_⟩
       obtain ⟨S5, f5, k5⟩ := catL hp5 (c1.mono S4.tup) k4
       have S45 := S4.trans S5
       refine ⟨_, rfl, _, _, _, _, rfl, rfl, SqL.of (S45 _ _ hvs), zu (j := 1) rfl, ?_⟩
       refine ⟨p5, p2, _, ws2, rfl, rfl, f5, S45 _ _ e2', by rw [sizeLine_eq, List.length_append]; show _ + 1 + _ ≤ _; omega, fun p6 hp6 => ?_⟩
       obtain ⟨S6, f6, k6⟩ := catL hp6 k5 (c2.mono S45.tup)
       have S16 := SH.trans (S45.trans S6)
       generalize upd _ p6 (.lst (ws1 ++ [.ref t1] ++ ws2)) = H7 at S16 f6 k6
       refine ⟨two, fun ta hta => ⟨two, fun tb htb => ⟨two, fun p8 hp8 => ?_⟩⟩⟩
       have S8 : Same H7 (upd H7 ta (.tup [.str "skip", .int 1])) := ze hta _
       have S9 : Same (upd H7 ta (.tup [.str "skip", .int 1])) (upd (upd H7 ta (.tup [.str "skip", .int 1])) tb (.tup [.str "push", .int 0])) := ze htb _
       have S10 : Same (upd (upd H7 ta (.tup [.str "skip", .int 1])) tb (.tup [.str "push", .int 0])) (upd (upd (upd H7 ta (.tup [.str "skip", .int 1])) tb (.tup [.str "push", .int 0])) p8 (.lst [.ref ta, .ref tb])) := ze hp8 _
       have S810 := S8.trans (S9.trans S10)
       have e10 : upd (upd (upd H7 ta (.tup [.str "skip", .int 1])) tb (.tup [.str "push", .int 0])) p8 (.lst [.ref ta, .ref tb]) p8 = some (.lst [.ref ta, .ref tb]) := zc
       have c10 : Cds (upd (upd (upd H7 ta (.tup [.str "skip", .int 1])) tb (.tup [.str "push", .int 0])) p8 (.lst [.ref ta, .ref tb])) [.ref ta, .ref tb] [Cd.skip 1, Cd.push 0] :=
        .cons ⟨ta, rfl, S10 _ _ (S9 _ _ zc)⟩ (.cons ⟨tb, rfl, S10 _ _ zc⟩ .nil)
       generalize upd (upd (upd H7 ta (.tup [.str "skip", .int 1])) tb (.tup [.str "push", .int 0])) p8 (.lst [.ref ta, .ref tb]) = H10 at S810 e10 c10
       refine ⟨p6, p8, _, [.ref ta, .ref tb], rfl, rfl, S810 _ _ f6, e10, by rw [sizeLine_eq, List.length_append, List.length_append]; show _ + 1 + _ + 2 ≤ _; omega, fun p11 hp11 => ?_⟩
       obtain ⟨S11, f11, k11⟩ := catL hp11 (k6.mono S810.tup) c10
       have S110 := S16.trans S810
       exact q p11 _ _ (S110.trans S11) (S110.free hp11) f11 k11
    ·
     subst ec
     cases hP' with
     | @cons v1 _ vs' _ h1 hr =>
      cases hr with
      | @cons v2 _ vs'' _ h2 hr =>
       cases hr
       obtain ⟨p1, ws1, rfl, n1, e1', c1⟩ := h1
       obtain ⟨p2, ws2, rfl, n2, e2', c2⟩ := h2
       have l1 := c1.len
       have l2 := c2.len
       have hcl := hc
       simp only [ko, List.length_append, List.length_cons, List.length_nil] at hcl
       refine xi rfl (by decide +kernel) ?_ rfl
       refine xi rfl (by decide +kernel) ?_ rfl
       refine ⟨_, rfl, rfl, _, rfl, qj (by decide +kernel) ?_⟩
       refine ⟨_, rfl, _, _, _, _, rfl, rfl, SqL.of hvs, at0, _, _, rfl, .inl (SqL.of e1'), _, _, rfl, rfl, ?_⟩
       refine ⟨_, rfl, _, _, _, _, rfl, rfl, SqL.of hvs, zu (j := 1) rfl, _, _, rfl, .inl (SqL.of e2'), _, _, rfl, rfl, ?_⟩
       refine ⟨_, rfl, _, _, _, _, rfl, rfl, SqL.of hvs, at0, ?_⟩
       refine ⟨_, rfl, _, _, _, _, rfl, rfl, SqL.of hvs, zu (j := 1) rfl, ?_⟩
       refine ⟨p2, ws2, t2.cards ns, rfl, e2', c2, by omega, fun p3 ws3 H3 S3 f3 e3 c3 => ?_⟩
       have l3 := c3.len
       simp only [List.length_append, List.length_cons, List.length_nil] at l3
       refine ⟨p1, p3, ws1, ws3, rfl, rfl, S3 _ _ e1', e3, by rw [sizeLine_eq]; omega, fun p4 hp4 => ?_⟩
       obtain ⟨S4, f4, k4⟩ := catL hp4 (c1.mono S3.tup) c3
       refine ⟨_, rfl, two, fun t1 ht1 => ⟨one, fun p5 hp5 => ?_⟩⟩
       obtain ⟨S5, f5, k5⟩ := oneL (.back (((t.cards ns).length : Int) + 1 + ((t2.cards ns).length : Int))) ht1 hp5 (by rw [← l1, ← l2]; rfl)
       refine ⟨p4, p5, _, [.ref t1], rfl, rfl, S5 _ _ f4, f5, by rw [sizeLine_eq, List.length_append]; show _ + 1 ≤ _; omega, fun p6 hp6 => ?_⟩
       obtain ⟨S6, f6, k6⟩ := catL hp6 (k4.mono S5.tup) k5
       have S15 := SH.trans (S3.trans (S4.trans S5))
       refine q p6 _ _ (S15.trans S6) (S15.free hp6) f6 ?_
       simp only [ko, List.append_assoc, List.cons_append, List.nil_append] at k6 ⊢
       exact k6
    ·
     subst ec
     cases hP' with
     | @cons v1 _ vs' _ h1 hr =>
      cases hr with
      | @cons v2 _ vs'' _ h2 hr =>
       cases hr with
       | @cons v3 _ vs''' _ h3 hr =>
        cases hr
        obtain ⟨p1, ws1, rfl, n1, e1', c1⟩ := h1
        obtain ⟨p2, ws2, rfl, n2, e2', c2⟩ := h2
        obtain ⟨p3, ws3, rfl, n3, e3', c3⟩ := h3
        have l1 := c1.len
        have l2 := c2.len
        have l3 := c3.len
        have hcl := hc
        simp only [vm, List.length_append, List.length_cons, List.length_nil] at hcl
        refine xi rfl (by decide +kernel) ?_ rfl
        refine xi rfl (by decide +kernel) ?_ rfl
        refine xi rfl (by decide +kernel) ?_ rfl
        refine ⟨_, rfl, rfl, _, rfl, qj (by decide +kernel) ?_⟩
        refine ⟨_, rfl, _, _, _, _, rfl, rfl, SqL.of hvs, at0, ?_⟩
        refine ⟨_, rfl, _, _, _, _, rfl, rfl, SqL.of hvs, zu (j := 1) rfl, ?_⟩
        refine ⟨p2, ws2, t2.cards ns, rfl, e2', c2, by omega, fun p4 ws4 H4 S4 f4 e4 c4 => ?_⟩
        have l4 := c4.len
        simp only [List.length_append, List.length_cons, List.length_nil] at l4
        refine ⟨p1, p4, ws1, ws4, rfl, rfl, S4 _ _ e1', e4, by rw [sizeLine_eq]; omega, fun p5 hp5 => ?_⟩
        obtain ⟨S5, f5, k5⟩ := catL hp5 (c1.mono S4.tup) c4
        have S45 := S4.trans S5
        refine ⟨_, rfl, _, _, _, _, rfl, rfl, SqL.of (S45 _ _ hvs), zu (j := 2) rfl, _, _, rfl, .inl (SqL.of (S45 _ _ e3')), two, fun t1 ht1 => ⟨one, fun p6 hp6 => ?_⟩⟩
        obtain ⟨S6, f6, k6⟩ := oneL (.skip ((t3.cards ns).length : Int)) ht1 hp6 (by rw [← l3]; rfl)
        refine ⟨p5, p6, _, [.ref t1], rfl, rfl, S6 _ _ f5, f6, by rw [sizeLine_eq, List.length_append]; show _ + 1 ≤ _; omega, fun p7 hp7 => ?_⟩
        obtain ⟨S7, f7, k7⟩ := catL hp7 (k5.mono S6.tup) k6
        have S47 := S45.trans (S6.trans S7)
        refine ⟨_, rfl, _, _, _, _, rfl, rfl, SqL.of (S47 _ _ hvs), zu (j := 2) rfl, ?_⟩
        refine ⟨p7, p3, _, ws3, rfl, rfl, f7, S47 _ _ e3', by rw [sizeLine_eq, List.length_append, List.length_append]; show _ + 1 + _ ≤ _; omega, fun p8 hp8 => ?_⟩
        obtain ⟨S8, f8, k8⟩ := catL hp8 k7 (c3.mono S47.tup)
        have S17 := SH.trans S47
        refine q p8 _ _ (S17.trans S8) (S17.free hp8) f8 ?_
        simp only [vm, List.append_assoc, List.cons_append, List.nil_append] at k8 ⊢
        exact k8
    ·
     subst ec
     cases hP' with
     | @cons v1 _ vs' _ h1 hr =>
      cases hr
      obtain ⟨p1, ws1, rfl, n1, e1', c1⟩ := h1
      have l1 := c1.len
      have hcl := hc
      simp only [List.length_append, List.length_cons, List.length_nil] at hcl
      refine xi rfl (by decide +kernel) ?_ rfl
      refine xi rfl (by decide +kernel) ?_ rfl
      refine xi rfl (by decide +kernel) ?_ rfl
      refine xi rfl (by decide +kernel) ?_ rfl
      refine ⟨_, rfl, _, _, rfl, .inl (SqL.of hvs), rfl, _, rfl, qj (by simp) ?_⟩
      refine ⟨_, rfl, _, _, _, _, rfl, rfl, SqL.of hvs, at0, ?_⟩
      refine ⟨one, fun t1 ht1 => ⟨one, fun p4 hp4 => ?_⟩⟩
      obtain ⟨S4, f4, k4⟩ := oneL .say ht1 hp4 rfl
      refine ⟨p1, p4, ws1, [.ref t1], rfl, rfl, S4 _ _ e1', f4, by rw [sizeLine_eq]; show _ + 1 ≤ _; omega, fun p5 hp5 => ?_⟩
      obtain ⟨S5, f5, k5⟩ := catL hp5 (c1.mono S4.tup) k4
      have S14 := SH.trans S4
      exact q p5 _ _ (S14.trans S5) (S14.free hp5) f5 k5
    ·
     subst ec
     cases hP' with
     | @cons v1 _ vs' _ h1 hr =>
      cases hr with
      | @cons v2 _ vs'' _ h2 hr =>
       cases hr
       obtain ⟨p1, ws1, rfl, n1, e1', c1⟩ := h1
       obtain ⟨p2, ws2, rfl, n2, e2', c2⟩ := h2
       have l1 := c1.len
       have l2 := c2.len
       have hcl := hc
       simp only [List.length_append, List.length_cons, List.length_nil] at hcl
       refine xi rfl n5 ?_ rfl
       refine xi rfl n6 ?_ rfl
       refine xi rfl n7 ?_ rfl
       refine xi rfl n8 ?_ rfl
       refine ⟨_, rfl, _, _, rfl, .inl (SqL.of hvs), rfl, _, rfl, zo (by simp) ?_⟩
       refine ⟨_, rfl, _, _, _, _, rfl, rfl, SqL.of hvs, at0, ?_⟩
       refine ⟨_, rfl, _, _, _, _, rfl, rfl, SqL.of hvs, zu (j := 1) rfl, ?_⟩
       refine ⟨p1, p2, ws1, ws2, rfl, rfl, e1', e2', by rw [sizeLine_eq]; omega, fun p3 hp3 => ?_⟩
       obtain ⟨S3, f3, k3⟩ := catL hp3 c1 c2
       refine ⟨_, rfl, one, fun t1 ht1 => ⟨one, fun p4 hp4 => ?_⟩⟩
       obtain ⟨S4, f4, k4⟩ := oneL k ht1 hp4 ek.symm
       refine ⟨p3, p4, _, [.ref t1], rfl, rfl, S4 _ _ f3, f4, by rw [sizeLine_eq, List.length_append]; show _ + 1 ≤ _; omega, fun p5 hp5 => ?_⟩
       obtain ⟨S5, f5, k5⟩ := catL hp5 (k3.mono S4.tup) k4
       have S14 := SH.trans (S3.trans S4)
       exact q p5 _ _ (S14.trans S5) (S14.free hp5) f5 k5
end
open PySem L2 J
section
variable {P : Program} {w : World} {K : W.Frag} {mg : Str → Option Value} {base : Heap}
noncomputable def spStarts : Sp := fun vs H Q _ => ∃ (cell : Int) (a : Addr) (ns : List Str), vs = [.int cell, .ref a] ∧ H a = some (.lst (ns.map V.str)) ∧ ns.length ≤ 100 ∧
 ∀ (p : Addr) (ps : List Int) (H' : Hp), Same H H' → H p = none → H' p = some (.lst (ps.map V.int)) → ps.length = ns.length → Q (.ref p) H'
theorem ok_law_starts_of (T : Txt K mg) : FnOk P w K mg base CX0 1 T.f_law_starts_of T.fd_law_starts_of ["_law_cell", "_law_names"] spStarts := by
 refine T.law_starts_of.F.ok zau (fun vs H Q E h => ?_) (fun cdv A outer s H vs Q E hr h => ?_)
 ·obtain ⟨cell, a, ns, rfl, _⟩ := h; rfl
 obtain ⟨cell, a, ns, rfl, hS, hn, q⟩ := h
 refine ⟨_, (zf (zdv (i := 2) zau.nd rfl rfl rfl (js := [0]) (ys := ["_law_cell"]) (wx rfl T.b_range (za (qk qa rfl T.b_len PySem.boot_len (za (pv 1) zb)) zb)) (by rfl) (by rfl) (by decide +kernel) (fun _ _ _ _ => pts_nil) (fun _ _ _ _ => (zy v0 (zy jo (zy jg (zy wv (pv 1) zd) (zy vk zd (pv 0))) zd) zd)))
  (ve (zf9 (PW.pt (zbq (zj qi (zy jo (pv 0) zd) zd (zp _)) (za8 (zj (zax hr.units0) (pv 2) (ql zb) (zp _))))) (zg (zdw zd (zdy (pv 2) (zbs wz zd) zbn))) zv)
  (zg (zr (pv 2))))), ?_⟩
 try dsimp only[kx,kxb]
 have hl : (ns.map V.str).length = ns.length := List.length_map _
 refine ⟨_, rfl, _, _, rfl, .inl (SqL.of hS), _, rfl, by omega, by rw [hl]; omega, fun D hD => ?_⟩
 have hcnt : (((ns.map V.str).length : Nat) : Int).toNat = ns.length := by rw [hl]; omega
 rw [hcnt]
 refine comp_range (fun i H' => Same H H' ∧ ∃ ps : List Int, H' D = some (.lst (ps.map V.int)) ∧ ps.length = i) ⟨ze hD _, [], zc, rfl⟩ ?_ ?_
 ·rintro i H' hi ⟨S, ps, hps, hlen⟩
  refine zf0 ?_
  refine ⟨_, rfl, _, _, rfl, rfl, cdiv rfl, _, rfl, _, _, rfl, rfl, zaz rfl, _, _, rfl, rfl, _, _, rfl, rfl, (by show (0 : Int) < _; decide), _, _, rfl, rfl, ?_⟩
  refine ⟨_, hps, ?_, Same.at S hD _, _, upd_snocI, ?_⟩
  ·rw [List.length_map, hlen, sizeLine_eq]; omega
  ·rw [List.length_append, hlen]; rfl
 ·rintro H' ⟨S, ps, hps, hlen⟩
  refine ⟨fun σ' H'' => ∃ (ps : List Int), σ' = [some (.int cell), some (.ref a), some (.ref D)] ∧ Same H H'' ∧ H'' D = some (.lst (ps.map V.int)) ∧ ps.length = ns.length, ?_, ?_⟩
  ·refine ⟨fun H1 => Same H' H1 ∧ ps ≠ [], fun H1 => Same H' H1, ?_, ?_, ?_⟩
   ·refine ⟨_, rfl, _, _, rfl, rfl, (by show (0 : Int) < _; decide), rfl, _, rfl, ?_⟩
    refine ite2 (fun c => ?_) (fun c => ?_)
    ·refine ⟨_, rfl, Nat.zero_le _, fun p hp => ⟨_, _, _, rfl, rfl, SqL.of (ze hp _ _ _ hps), SqL.of zc, _, rfl, ?_⟩⟩
     cases ps with
     | nil => exact zo rfl (ze hp _)
     | cons _ _ => exact qj rfl ⟨ze hp _, by simp⟩
    ·exact iteF (Same.refl _)
   ·rintro H1 ⟨S1, hne⟩
    have hps1 := S1 _ _ hps
    have hpos : 0 < ps.length := List.length_pos_iff.mpr hne
    have hix : ixN (ps.map V.int).length (-1) = some (ps.length - 1) := by
     unfold ixN
     rw [List.length_map, if_neg (by decide), if_pos (by omega)]
     congr 1
     omega
    refine ⟨_, rfl, _, rfl, D, _, _, ps.length - 1, rfl, rfl, hps1, hix, ?_⟩
    refine ⟨ps.set (ps.length - 1) 1000000000033, rfl, Same.at (S.trans S1) hD _, ?_, by rw [List.length_set]; exact hlen⟩
    rw [zc, List.map_set]
   ·rintro H1 S1
    exact ⟨ps, rfl, S.trans S1, S1 _ _ hps, hlen⟩
  ·rintro σ' H'' ⟨ps, rfl, S, hps, hlen⟩
   exact ⟨_, rfl, q D ps H'' S hD hps hlen⟩
noncomputable def spWhole (K : W.Frag) : Sp := fun vs H Q _ => ∃ i : Int, vs = [.int i] ∧ Q (.bl true) H
theorem ok_law_whole (T : Txt K mg) : FnOk P w K mg base CX0 1 T.f_law_whole T.fd_law_whole ["_law_found"] (spWhole K) := by
 refine T.law_whole.F.ok sc_law_whole (fun vs H Q E h => ?_) (fun cdv A outer s H vs Q E hr h => ?_)
 ·obtain ⟨i, rfl, _⟩ := h; rfl
 obtain ⟨i, rfl, q⟩ := h
 refine ⟨_, (zg (zr (ze5 (qk jb rfl T.b_isinstance qt (za (pv 0) (za (j3 (v := .ty "int") rfl T.b_int zgf rfl) zb))) (ze3 (zga (qk jb rfl T.b_isinstance qt (za (pv 0) (za (j3 (v := .ty "bool") rfl T.b_bool bt_bool rfl) zb)))))))), ?_⟩
 try dsimp only[kx,kxb]
 refine ⟨_, rfl, _, _, _, _, rfl, .inl (.int i), (by decide +kernel : isT "int" "int" = some true), _, rfl, qj rfl ?_⟩
 exact ⟨_, rfl, _, _, _, _, rfl, .inl (.int i), (by decide +kernel : isT "int" "bool" = some false), _, rfl, q⟩
noncomputable def spAt (K : W.Frag) : Sp := fun vs H Q _ => ∃ (a : Addr) (ns : List Int) (k : Nat), vs = [.ref a, .int k] ∧ SqL K H a (ns.map V.int) ∧ ns.length ≤ 63 ∧ Q (.int (ns.getD k 0)) H
theorem ok_law_at (T : Txt K mg) : FnOk P w K mg base CX0 1 T.f_law_at T.fd_law_at ["_law_script", "_law_k"] (spAt K) := by
 refine T.law_at.F.ok sc_law_at (fun vs H Q E h => ?_) (fun cdv A outer s H vs Q E hr h => ?_)
 ·obtain ⟨a, ns, k, rfl, _⟩ := h; rfl
 obtain ⟨a, ns, k, rfl, hS, hn, q⟩ := h
 refine ⟨_, (zf (z0 (zj zbm (pv 1) (qk qa rfl T.b_len PySem.boot_len (za (pv 0) zb)) (zp _)) (zg (zr (zn qp (pv 0) (pv 1) (fun _ _ => rfl)))) zv)
  (zg (zr zd))), ?_⟩
 try dsimp only[kx,kxb]
 have hl : (ns.map V.int).length = ns.length := List.length_map _
 refine ⟨_, rfl, _, rfl, a, _, rfl, .inl hS, _, _, rfl, rfl, _, rfl, ?_⟩
 refine ite2 (fun c => ?_) (fun c => ?_)
 ·have c' : (k : Int) < ((ns.map V.int).length : Int) := of_decide_eq_true c
  rw [hl] at c'
  have hk : k < ns.length := by omega
  refine ⟨_, rfl, _, rfl, _, _, _, _, rfl, rfl, hS, zu (by rw [List.getElem?_map, List.getElem?_eq_getElem hk]; rfl), ?_⟩
  rw [List.getD_eq_getElem?_getD, List.getElem?_eq_getElem hk] at q
  exact q
 ·have c' : ¬ (k : Int) < ((ns.map V.int).length : Int) := of_decide_eq_false (Bool.eq_false_iff.mpr c)
  rw [hl] at c'
  rw [List.getD_eq_getElem?_getD, List.getElem?_eq_none (by omega)] at q
  exact q
noncomputable def spDraw : Sp := fun vs H Q _ => ∃ (n p m : Int), vs = [.int n, .int p, .int m] ∧ 0 < p ∧ 0 < m ∧ Q (.int (drw n p m)) H
theorem vf (T : Txt K mg) : FnOk P w K mg base CX0 1 T.f_law_draw T.fd_law_draw ["_law_number", "_law_prime", "_law_many"] spDraw := by
 refine T.law_draw.F.ok sc_law_draw (fun vs H Q E h => ?_) (fun cdv A outer s H vs Q E hr h => ?_)
 ·obtain ⟨n, p, m, rfl, _⟩ := h; rfl
 obtain ⟨n, p, m, rfl, hp, hm, q⟩ := h
 refine ⟨_, (zg (zr (zy jo (zy jo (zy vk (pv 0) zd) (pv 1)) (pv 2)))), ?_⟩
 try dsimp only[kx,kxb]
 exact ⟨_, rfl, _, _, rfl, rfl, zbe rfl, _, rfl, _, _, rfl, rfl, hp, _, rfl, _, _, rfl, rfl, hm, q⟩
noncomputable def spLeaf (K : W.Frag) : Sp := fun vs H Q _ => ∃ (salt p1 p2 : Int) (a : Addr) (sc : List Str), vs = [.int salt, .int p1, .int p2, .ref a] ∧ SqL K H a (sc.map V.str) ∧ 0 < p1 ∧ 0 < p2 ∧
 ∀ u H', Same H H' → qy H' u (qs salt p1 p2 sc) → Q u H'
theorem zdb (T : Txt K mg) : FnOk P w K mg base CX0 2 T.f_law_leaf T.fd_law_leaf ["_law_salt", "_law_prime", "_law_second", "_law_scope"] (spLeaf K) := by
 have G_law_draw := vf (P := P) (w := w) (base := base) T
 refine T.law_leaf.F.ok v9 (fun vs H Q E h => ?_) (fun cdv A outer s H vs Q E hr h => ?_)
 ·obtain ⟨salt, p1, p2, a, sc, rfl, _⟩ := h; rfl
 obtain ⟨salt, p1, p2, a, sc, rfl, hS, h1, h2, q⟩ := h
 refine ⟨_, (zf (zx (i := 4) v9.nd rfl (Or.inl rfl) (zk G_law_draw hr rfl T.law_draw.m T.law_draw.F.kp T.law_draw.b .nil zq (za (pv 0) (za (pv 1) (za (zy jg (qk qa rfl T.b_len PySem.boot_len (za (pv 3) zb)) zd) zb)))))
  (zf (z0 (zj zbm (pv 4) (qk qa rfl T.b_len PySem.boot_len (za (pv 3) zb)) (zp _)) (zg (zr (qb (za zi (za (zn qp (pv 3) (pv 4) (fun _ _ => rfl)) zb))))) zv)
  (zf (zx (i := 5) v9.nd rfl (Or.inl rfl) (zy v0 (zk G_law_draw hr rfl T.law_draw.m T.law_draw.F.kp T.law_draw.b .nil zq (za (pv 0) (za (pv 2) (za zd zb)))) zd))
  (ve (z0 (zj qi (pv 5) zd (zp _)) (zg (zx (i := 5) v9.nd rfl (Or.inl rfl) (zy jg (zy zgb zd zd) zd))) zv)
  (ve (z0 (zj qi (pv 5) zd (zp _)) (zg (zx (i := 5) v9.nd rfl (Or.inl rfl) (zy v0 (zy jo (zy vk (pv 0) zd) (zy zgb zd zd)) (zy vk zd (zy zgb zd zd))))) zv)
  (zg (zr (qb (za zi (za (pv 5) zb)))))))))), ?_⟩
 try dsimp only[kx,kxb]
 have eqi : ∀ {x y : Int}, decide (V.int x = V.int y) = true → x = y := fun c => by injection (of_decide_eq_true c)
 have nqi : ∀ {x y : Int}, ¬ decide (V.int x = V.int y) = true → ¬ x = y := fun c z => c (decide_eq_true (by rw [z]))
 have two : (2 : Nat) ≤ sizeLine := by decide
 have hl : (sc.map V.str).length = sc.length := List.length_map _
 have hm : (0 : Int) < ((sc.map V.str).length : Int) + 2 := by omega
 refine ⟨_, rfl, _, rfl, _, rfl, a, _, rfl, .inl hS, _, _, rfl, rfl, salt, p1, _, rfl, h1, hm, ?_⟩
 have d0 := wk (n := salt) (p := p1) hm
 rw [hl] at d0 ⊢
 refine ⟨_, rfl, _, rfl, _, _, rfl, .inl hS, _, _, rfl, rfl, _, rfl, ?_⟩
 rw [hl]
 refine ite2 (fun c => ?_) (fun c => ?_)
 ·have c1 : drw salt p1 ((sc.length : Int) + 2) < (sc.length : Int) := of_decide_eq_true c
  refine ⟨_, rfl, _, rfl, _, _, _, _, rfl, rfl, hS, zfd d0 c1, two, fun p hp => ?_⟩
  refine q _ _ (ze hp _) ?_
  have e : qs salt p1 p2 sc = .name ((sc[(drw salt p1 ((sc.length : Int) + 2)).toNat]?).getD "") := if_pos c1
  rw [e]
  exact .name zc
 ·have c1 : ¬ drw salt p1 ((sc.length : Int) + 2) < (sc.length : Int) := of_decide_eq_false (Bool.eq_false_iff.mpr c)
  have e : qs salt p1 p2 sc = .num (zd3 salt p2) := if_neg c1
  rw [e] at q
  refine ⟨_, rfl, _, rfl, salt, p2, 13, rfl, h2, by decide, _, _, rfl, rfl, ?_⟩
  refine ⟨fun σ' H' => σ' = [some (.int salt), some (.int p1), some (.int p2), some (.ref a), some (.int (drw salt p1 ((sc.length : Int) + 2))), some (.int (if drw salt p2 13 - 3 = 9 then 10 ^ 30 + 7 else drw salt p2 13 - 3))] ∧ H' = H, ?_, ?_⟩
  ·refine ⟨_, rfl, rfl, _, rfl, ?_⟩
   refine ite2 (fun c => ?_) (fun c => ?_)
   ·have c2 : drw salt p2 13 - 3 = 9 := eqi c
    refine ⟨_, _, rfl, rfl, ⟨by decide, by decide, by decide⟩, _, _, rfl, rfl, ?_, rfl⟩
    rw [if_pos c2]
    rfl
   ·have c2 : ¬ drw salt p2 13 - 3 = 9 := nqi c
    rw [if_neg c2]
    exact ⟨rfl, rfl⟩
  ·rintro σ' H' ⟨rfl, rfl⟩
   have fin : ∀ (m : Int), m = zd3 salt p2 → ∀ p, H' p = none → Q (.ref p) (upd H' p (.tup [.str "num", .int m])) := fun m em p hp => by
    subst em
    exact q _ _ (ze hp _) (.num zc)
   have eN : zd3 salt p2 = if drw salt p2 13 - 3 = 9 then 10 ^ 30 + 7 else if drw salt p2 13 - 3 = 8 then salt * 48271 % 10 ^ 30 - 5 * 10 ^ 29 else drw salt p2 13 - 3 := rfl
   refine ⟨fun σ' H'' => σ' = [some (.int salt), some (.int p1), some (.int p2), some (.ref a), some (.int (drw salt p1 ((sc.length : Int) + 2))), some (.int (zd3 salt p2))] ∧ H'' = H', ?_, ?_⟩
   ·refine ⟨_, rfl, rfl, _, rfl, ?_⟩
    refine ite2 (fun c => ?_) (fun c => ?_)
    ·have c2 : (if drw salt p2 13 - 3 = 9 then 10 ^ 30 + 7 else drw salt p2 13 - 3) = 8 := eqi c
     have c3 : drw salt p2 13 - 3 = 8 := by
      by_cases z : drw salt p2 13 - 3 = 9
      ·rw [if_pos z] at c2
       exact absurd c2 (by decide)
      ·rw [if_neg z] at c2
       exact c2
     refine ⟨_, rfl, _, _, rfl, rfl, zbe rfl, _, _, rfl, rfl, ⟨by decide, by decide, by decide⟩, _, _, rfl, rfl, (by show (0 : Int) < 10 ^ 30; decide), _, _, rfl, rfl, ⟨by decide, by decide, by decide⟩, _, _, rfl, rfl, zaz rfl, _, _, rfl, rfl, ?_, rfl⟩
     have eN' : zd3 salt p2 = salt * 48271 % 10 ^ 30 - 5 * 10 ^ 29 := by rw [eN, if_neg (by omega), if_pos c3]
     rw [eN']
     rfl
    ·have c2 : ¬ (if drw salt p2 13 - 3 = 9 then 10 ^ 30 + 7 else drw salt p2 13 - 3) = 8 := nqi c
     refine ⟨?_, rfl⟩
     rw [eN]
     by_cases z : drw salt p2 13 - 3 = 9
     ·rw [if_pos z, if_pos z]
     ·rw [if_neg z] at c2
      rw [if_neg z, if_neg z, if_neg c2]
   ·rintro σ' H'' ⟨rfl, rfl⟩
    exact ⟨_, rfl, two, fun p hp => fin _ rfl p hp⟩
end
open PySem L2 J
section
variable {P : Program} {w : World} {K : W.Frag} {mg : Str → Option Value} {base : Heap}
noncomputable def spSumOf (K : W.Frag) : Sp := fun vs H Q _ => ∃ (salt : Int) (a : Addr) (sc : List Str), vs = [.int salt, .ref a] ∧ SqL K H a (sc.map V.str) ∧ ∀ u H', Same H H' → qy H' u (sumF salt sc) → Q u H'
noncomputable def PTurn (H : Hp) (salt way less : Int) (a : Addr) (u2 : V) (one : Sm Str) (k : Nat) (σ : St) (H' : Hp) : Prop :=
 ∃ u o, σ = [some (.int salt), some (.ref a), some (.int way), some (.int less), some u, some u2, o, none] ∧ Same H H' ∧ qy H' u (turned one less k)
theorem zap (T : Txt K mg) : FnOk P w K mg base CX0 3 T.f_law_sum_of T.fd_law_sum_of ["_law_salt", "_law_scope"] (spSumOf K) := by
 have G_law_draw := (vf (P := P) (w := w) (base := base) T).mono (show 1 ≤ 2 by omega)
 have G_law_leaf := zdb (P := P) (w := w) (base := base) T
 refine T.law_sum_of.F.ok xx (fun vs H Q E h => ?_) (fun cdv A outer s H vs Q E hr h => ?_)
 ·obtain ⟨salt, a, sc, rfl, _⟩ := h; rfl
 obtain ⟨salt, a, sc, rfl, hS, q⟩ := h
 refine ⟨_, (zf (zx (i := 2) xx.nd rfl (Or.inl rfl) (zk G_law_draw hr rfl T.law_draw.m T.law_draw.F.kp T.law_draw.b .nil zq (za (pv 0) (za zd (za zd zb)))))
  (zf (zx (i := 3) xx.nd rfl (Or.inl rfl) (zk G_law_draw hr rfl T.law_draw.m T.law_draw.F.kp T.law_draw.b .nil zq (za (pv 0) (za zd (za zd zb)))))
  (zf (zx (i := 4) xx.nd rfl (Or.inl rfl) (zk G_law_leaf hr rfl T.law_leaf.m T.law_leaf.F.kp T.law_leaf.b .nil zq (za (pv 0) (za zd (za zd (za (pv 1) zb))))))
  (zf (zx (i := 5) xx.nd rfl (Or.inl rfl) (zk G_law_leaf hr rfl T.law_leaf.m T.law_leaf.F.kp T.law_leaf.b .nil zq (za (pv 0) (za zd (za zd (za (pv 1) zb))))))
  (zf (z0 (zj zbm (pv 2) zd (zp _)) (zg (zr (pv 4))) zv)
  (zf (z0 (zj qi (pv 2) zd (zp _)) (zg (zr (qb (za zi (za (pv 4) (za (pv 5) zb)))))) zv)
  (zf (z0 (zj qi (pv 2) zd (zp _)) (zg (zr (qb (za zi (za (pv 4) (za (pv 5) zb)))))) zv)
  (zf (z0 (zj qi (pv 2) zd (zp _)) (zg (zr (qb (za zi (za (pv 4) (za (qb (za zi (za (zy v0 (pv 3) zd) zb))) zb)))))) zv)
  (zf (z0 (zj qi (pv 2) zd (zp _)) (zf (zao PassesOwn.never rfl (wx rfl T.b_range (za (zy jg (pv 3) zd) zb)) (vj (i := 6) xx.nd rfl (Or.inl rfl)) (zg (zx (i := 4) xx.nd rfl (Or.inl rfl) (qb (za (zn qp (ql (za zi (za zi zb))) (zy jo (pv 6) zd) (fun _ _ => rfl)) (za (pv 4) (za (qb (za zi (za (pv 3) zb))) zb)))))))
  (zg (zr (pv 4)))) zv)
  (zf (z0 (zj qi (pv 2) zd (zp _)) (zf (zx (i := 7) xx.nd rfl (Or.inl rfl) (qb (za zi (za (qb (za zi (za (qb (za zi (za (pv 3) zb))) (za (qb (za zi (za (pv 5) (za (pv 4) zb)))) zb)))) (za (pv 5) zb)))))
  (zg (zr (qb (za zi (za (pv 7) (za (qb (za zi (za (pv 4) (za (qb (za zi (za (pv 3) zb))) zb)))) zb))))))) zv)
  (zg (zr (qb (za zi (za (qb (za zi (za (pv 4) (za (pv 5) zb)))) (za (qb (za zi (za (qb (za zi (za (pv 3) zb))) (za (pv 5) zb)))) zb)))))))))))))))), ?_⟩
 try dsimp only[kx,kxb]
 have two : (2 : Nat) ≤ sizeLine := by decide
 have three : (3 : Nat) ≤ sizeLine := by decide
 refine ⟨_, rfl, salt, 1051, 8, rfl, by decide, by decide, ?_⟩
 refine ⟨_, rfl, salt, 1061, 4, rfl, by decide, by decide, ?_⟩
 have w0 := wk (n := salt) (p := 1051) (show (0 : Int) < 8 by decide)
 have w8 := zar (n := salt) (p := 1051) (show (0 : Int) < 8 by decide)
 have l0 := wk (n := salt) (p := 1061) (show (0 : Int) < 4 by decide)
 have l4 := zar (n := salt) (p := 1061) (show (0 : Int) < 4 by decide)
 refine ⟨_, rfl, _, rfl, salt, 1009, 1013, a, sc, rfl, hS, by decide, by decide, fun u1 H1 S1 h1 => ?_⟩
 refine ⟨_, rfl, _, rfl, salt, 1019, 1021, a, sc, rfl, S1.seq hS, by decide, by decide, fun u2 H2 S2 h2 => ?_⟩
 have eF : sumF salt sc = (if drw salt 1051 8 < 2 then qs salt 1009 1013 sc else if drw salt 1051 8 = 2 then .op .add (qs salt 1009 1013 sc) (qs salt 1019 1021 sc) else if drw salt 1051 8 = 3 then .op .sub (qs salt 1009 1013 sc) (qs salt 1019 1021 sc)
  else if drw salt 1051 8 = 4 then .op .mul (qs salt 1009 1013 sc) (.num (drw salt 1061 4 - 1)) else if drw salt 1051 8 = 7 then turned (qs salt 1009 1013 sc) (drw salt 1061 4) (drw salt 1061 4 + 3).toNat
  else if drw salt 1051 8 = 6 then .op .sub (.op .add (.op .mul (.num (drw salt 1061 4)) (.op .sub (qs salt 1019 1021 sc) (qs salt 1009 1013 sc))) (qs salt 1019 1021 sc)) (.op .sub (qs salt 1009 1013 sc) (.num (drw salt 1061 4)))
  else .op .sub (.op .add (qs salt 1009 1013 sc) (qs salt 1019 1021 sc)) (.op .mul (.num (drw salt 1061 4)) (qs salt 1019 1021 sc))) := rfl
 rw [eF] at q
 have hu1 := h1.mono S2.tup
 have SH := S1.trans S2
 generalize drw salt 1051 8 = way at q w0 w8
 generalize drw salt 1061 4 = less at q l0 l4
 generalize qs salt 1009 1013 sc = one at q hu1 h1
 generalize qs salt 1019 1021 sc = tw at q h2
 have eqi : ∀ {x y : Int}, decide (V.int x = V.int y) = true → x = y := fun c => by injection (of_decide_eq_true c)
 have nqi : ∀ {x y : Int}, ¬ decide (V.int x = V.int y) = true → ¬ x = y := fun c z => c (decide_eq_true (by rw [z]))
 refine ⟨_, rfl, _, _, rfl, rfl, _, rfl, ?_⟩
 refine ite2 (fun c => ?_) (fun c => ?_)
 ·have c1 : way < 2 := of_decide_eq_true c
  rw [if_pos c1] at q
  exact ⟨_, rfl, q _ _ SH hu1⟩
 have c1 : ¬ way < 2 := of_decide_eq_false (Bool.eq_false_iff.mpr c)
 rw [if_neg c1] at q
 refine ⟨_, rfl, rfl, _, rfl, ?_⟩
 refine ite2 (fun c => ?_) (fun c => ?_)
 ·rw [if_pos (eqi c)] at q
  refine ⟨_, rfl, _, rfl, three, fun p hp => q _ _ (SH.trans (ze hp _)) (.op (o := .add) zc (hu1.mono (ze hp _).tup) (h2.mono (ze hp _).tup))⟩
 rw [if_neg (nqi c)] at q
 refine ⟨_, rfl, rfl, _, rfl, ?_⟩
 refine ite2 (fun c => ?_) (fun c => ?_)
 ·rw [if_pos (eqi c)] at q
  refine ⟨_, rfl, _, rfl, three, fun p hp => q _ _ (SH.trans (ze hp _)) (.op (o := .sub) zc (hu1.mono (ze hp _).tup) (h2.mono (ze hp _).tup))⟩
 rw [if_neg (nqi c)] at q
 refine ⟨_, rfl, rfl, _, rfl, ?_⟩
 refine ite2 (fun c => ?_) (fun c => ?_)
 ·rw [if_pos (eqi c)] at q
  refine ⟨_, rfl, _, rfl, _, _, rfl, rfl, two, fun p1 hp1 => ⟨three, fun p hp => ?_⟩⟩
  have Sa := ze hp1 (.tup [.str "num", .int (less - 1)])
  have Sb := Sa.trans (ze hp (.tup [.str "mul", u1, .ref p1]))
  exact q _ _ (SH.trans Sb) (.op (o := .mul) zc (hu1.mono Sb.tup) (.num (ze hp _ _ _ zc)))
 rw [if_neg (nqi c)] at q
 refine ⟨_, rfl, rfl, _, rfl, ?_⟩
 refine ite2 (fun c => ?_) (fun c => ?_)
 ·rw [if_pos (eqi c)] at q
  have hq : ((less + 3 : Int)).toNat = (less + 3).toNat := rfl
  refine ⟨_, rfl, _, _, rfl, rfl, _, rfl, by omega, by omega, ?_⟩
  refine za0 (PTurn H2 salt way less a u2 one) ⟨u1, none, rfl, fun _ _ z => z, hu1⟩ ?_ ?_
  ·rintro k σ H' hk ⟨u, o, rfl, S, hu⟩
   have hat : atI [V.str "add", V.str "sub"] ((0 + (k : Int)) % 2) = some (.str (if k % 2 = 0 then O3.add else O3.sub).w) := by
    have h2' : k % 2 = 0 ∨ k % 2 = 1 := by omega
    rcases h2' with z | z
    ·rw [if_pos z, show ((0 + (k : Int)) % 2) = 0 by omega]; rfl
    ·rw [if_neg (by omega), show ((0 + (k : Int)) % 2) = 1 by omega]; rfl
   refine ⟨two, fun l hl => ⟨_, rfl, _, _, rfl, rfl, (by show (0 : Int) < _; decide), _, _, _, _, rfl, rfl, SqL.of zc, hat, _, rfl, _, rfl, two, fun p1 hp1 => ⟨three, fun p hp => ?_⟩⟩⟩
   have Sa := ze hl (.lst [V.str "add", V.str "sub"])
   have Sb := Sa.trans (ze hp1 (.tup [.str "num", .int less]))
   have Sc := ze hp (.tup [.str (if k % 2 = 0 then O3.add else O3.sub).w, u, .ref p1])
   exact ⟨_, _, rfl, S.trans (Sb.trans Sc), .op zc (hu.mono (Sb.trans Sc).tup) (.num (Sc _ _ zc))⟩
  ·rintro σ H' ⟨u, o, rfl, S, hu⟩
   exact ⟨_, rfl, q _ _ (SH.trans S) hu⟩
 rw [if_neg (nqi c)] at q
 refine ⟨_, rfl, rfl, _, rfl, ?_⟩
 refine ite2 (fun c => ?_) (fun c => ?_)
 ·rw [if_pos (eqi c)] at q
  refine ⟨_, rfl, two, fun p1 hp1 => ⟨_, rfl, _, rfl, three, fun p2 hp2 => ⟨three, fun p3 hp3 => ⟨_, rfl, three, fun p4 hp4 => ?_⟩⟩⟩⟩
  have S3 := ze hp1 (.tup [.str "num", .int less])
  have S4 := ze hp2 (.tup [.str "sub", u2, u1])
  have S5 := ze hp3 (.tup [.str "mul", .ref p1, .ref p2])
  have S6 := ze hp4 (.tup [.str "add", .ref p3, u2])
  have S46 := S4.trans (S5.trans S6)
  have S36 := S3.trans S46
  have d : qy (upd (upd (upd (upd H2 p1 (.tup [.str "num", .int less])) p2 (.tup [.str "sub", u2, u1])) p3 (.tup [.str "mul", .ref p1, .ref p2])) p4 (.tup [.str "add", .ref p3, u2])) (.ref p4) (.op .add (.op .mul (.num less) (.op .sub tw one)) tw) :=
   .op zc (.op (o := .mul) (S6 _ _ zc) (.num (S46 _ _ zc)) (.op (o := .sub) ((S5.trans S6) _ _ zc) (h2.mono S36.tup) (hu1.mono S36.tup))) (h2.mono S36.tup)
  generalize upd (upd (upd (upd H2 p1 (.tup [.str "num", .int less])) p2 (.tup [.str "sub", u2, u1])) p3 (.tup [.str "mul", .ref p1, .ref p2])) p4 (.tup [.str "add", .ref p3, u2]) = H6 at S36 d
  refine ⟨_, rfl, _, rfl, _, rfl, two, fun p5 hp5 => ⟨three, fun p6 hp6 => ⟨three, fun p7 hp7 => ?_⟩⟩⟩
  have S7 := ze hp5 (.tup [.str "num", .int less])
  have S8 := ze hp6 (.tup [.str "sub", u1, .ref p5])
  have S9 := ze hp7 (.tup [.str "sub", .ref p4, .ref p6])
  have S79 := S7.trans (S8.trans S9)
  exact q _ _ (SH.trans (S36.trans S79)) (.op (o := .sub) zc (d.mono S79.tup) (.op (o := .sub) (S9 _ _ zc) (hu1.mono (S36.trans S79).tup) (.num ((S8.trans S9) _ _ zc))))
 rw [if_neg (nqi c)] at q
 refine ⟨_, rfl, _, rfl, three, fun p1 hp1 => ⟨_, rfl, two, fun p2 hp2 => ⟨_, rfl, three, fun p3 hp3 => ⟨three, fun p4 hp4 => ?_⟩⟩⟩⟩
 have S3 := ze hp1 (.tup [.str "add", u1, u2])
 have S4 := ze hp2 (.tup [.str "num", .int less])
 have S5 := ze hp3 (.tup [.str "mul", .ref p2, u2])
 have S6 := ze hp4 (.tup [.str "sub", .ref p1, .ref p3])
 have S46 := S4.trans (S5.trans S6)
 have S36 := S3.trans S46
 exact q _ _ (SH.trans S36) (.op (o := .sub) zc (.op (o := .add) (S46 _ _ zc) (hu1.mono S36.tup) (h2.mono S36.tup)) (.op (o := .mul) (S6 _ _ zc) (.num ((S5.trans S6) _ _ zc)) (h2.mono S36.tup)))
end
open PySem L2 J
section
variable {P : Program} {w : World} {K : W.Frag} {mg : Str → Option Value} {base : Heap}
noncomputable def spTestOf (K : W.Frag) : Sp := fun vs H Q _ => ∃ (salt : Int) (a : Addr) (sc : List Str), vs = [.int salt, .ref a] ∧ SqL K H a (sc.map V.str) ∧ ∀ u H', Same H H' → qu H' u (zah salt sc) → Q u H'
theorem ok_law_test_of (T : Txt K mg) : FnOk P w K mg base CX0 4 T.f_law_test_of T.fd_law_test_of ["_law_salt", "_law_scope"] (spTestOf K) := by
 have G_law_draw := (vf (P := P) (w := w) (base := base) T).mono (show 1 ≤ 3 by omega)
 have G_law_leaf := (zdb (P := P) (w := w) (base := base) T).mono (show 2 ≤ 3 by omega)
 have G_law_sum_of := zap (P := P) (w := w) (base := base) T
 refine T.law_test_of.F.ok jk (fun vs H Q E h => ?_) (fun cdv A outer s H vs Q E hr h => ?_)
 ·obtain ⟨salt, a, sc, rfl, _⟩ := h; rfl
 obtain ⟨salt, a, sc, rfl, hS, q⟩ := h
 refine ⟨_, (zf (zx (i := 2) jk.nd rfl (Or.inl rfl) (zk G_law_draw hr rfl T.law_draw.m T.law_draw.F.kp T.law_draw.b .nil zq (za (pv 0) (za zd (za zd zb)))))
  (zf (zx (i := 3) jk.nd rfl (Or.inl rfl) (zk G_law_leaf hr rfl T.law_leaf.m T.law_leaf.F.kp T.law_leaf.b .nil zq (za (pv 0) (za zd (za zd (za (pv 1) zb))))))
  (ve (z0 (zj qi (zk G_law_draw hr rfl T.law_draw.m T.law_draw.F.kp T.law_draw.b .nil zq (za (pv 0) (za zd (za zd zb)))) zd (zp _)) (zg (zx (i := 3) jk.nd rfl (Or.inl rfl) (zk G_law_sum_of hr rfl T.law_sum_of.m T.law_sum_of.F.kp T.law_sum_of.b .nil zq (za (pv 0) (za (pv 1) zb))))) zv)
  (zf (zx (i := 4) jk.nd rfl (Or.inl rfl) (qb (za zi (za (pv 3) (za (qb (za zi (za (zy v0 (zk G_law_draw hr rfl T.law_draw.m T.law_draw.F.kp T.law_draw.b .nil zq (za (pv 0) (za zd (za zd zb)))) zd) zb))) zb)))))
  (zf (z0 (zj qi (pv 2) zd (zp _)) (zg (zr (qb (za zi (za (pv 3) (za (zk G_law_leaf hr rfl T.law_leaf.m T.law_leaf.F.kp T.law_leaf.b .nil zq (za (pv 0) (za zd (za zd (za (pv 1) zb))))) zb)))))) zv)
  (zf (z0 (zj qi (pv 2) zd (zp _)) (zg (zr (qb (za zi (za (pv 4) zb))))) zv)
  (zf (z0 (zj qi (pv 2) zd (zp _)) (zf (zx (i := 5) jk.nd rfl (Or.inl rfl) (qb (za zi (za (pv 3) (za (zk G_law_leaf hr rfl T.law_leaf.m T.law_leaf.F.kp T.law_leaf.b .nil zq (za (pv 0) (za zd (za zd (za (pv 1) zb))))) zb)))))
  (zg (zr (qb (za zi (za (qb (za zi (za (pv 4) (za (pv 5) zb)))) (za (qb (za zi (za (qb (za zi (za (pv 5) (za (pv 4) zb)))) zb))) zb))))))) zv)
  (zf (z0 (zj qi (pv 2) zd (zp _)) (zg (zr (qb (za zi (za (qb (za zi (za (qb (za zi (za (pv 4) zb))) zb))) (za (qb (za zi (za (qb (za zi (za (zbs wz zd) zb))) (za (pv 3) zb)))) zb)))))) zv)
  (zg (zr (pv 4))))))))))), ?_⟩
 try dsimp only[kx,kxb]
 have two : (2 : Nat) ≤ sizeLine := by decide
 have three : (3 : Nat) ≤ sizeLine := by decide
 have eqi : ∀ {x y : Int}, decide (V.int x = V.int y) = true → x = y := fun c => by injection (of_decide_eq_true c)
 have nqi : ∀ {x y : Int}, ¬ decide (V.int x = V.int y) = true → ¬ x = y := fun c z => c (decide_eq_true (by rw [z]))
 refine ⟨_, rfl, salt, 1063, 7, rfl, by decide, by decide, ?_⟩
 refine ⟨_, rfl, _, rfl, salt, 1009, 1013, a, sc, rfl, hS, by decide, by decide, fun u1 H1 S1 h1 => ?_⟩
 refine ⟨fun σ' H' => ∃ u, σ' = [some (.int salt), some (.ref a), some (.int (drw salt 1063 7)), some u, none, none] ∧ Same H H' ∧ qy H' u (if drw salt 1097 3 = 1 then sumF salt sc else qs salt 1009 1013 sc), ?_, ?_⟩
 ·refine ⟨_, rfl, salt, 1097, 3, rfl, by decide, by decide, rfl, _, rfl, ?_⟩
  refine ite2 (fun c => ?_) (fun c => ?_)
  ·refine ⟨_, rfl, _, rfl, salt, a, sc, rfl, S1.seq hS, fun u2 H2 S2 h2 => ⟨u2, rfl, S1.trans S2, ?_⟩⟩
   rw [if_pos (eqi c)]
   exact h2
  ·refine ⟨u1, rfl, S1, ?_⟩
   rw [if_neg (nqi c)]
   exact h1
 rintro σ' H' ⟨u, rfl, S, hu⟩
 have eF : zah salt sc = (if drw salt 1063 7 = 3 then Ts.same (if drw salt 1097 3 = 1 then sumF salt sc else qs salt 1009 1013 sc) (qs salt 1019 1021 sc)
  else if drw salt 1063 7 = 4 then .not (Ts.less (if drw salt 1097 3 = 1 then sumF salt sc else qs salt 1009 1013 sc) (.num (drw salt 1069 9 - 1)))
  else if drw salt 1063 7 = 6 then .both (.both (Ts.less (if drw salt 1097 3 = 1 then sumF salt sc else qs salt 1009 1013 sc) (.num (drw salt 1069 9 - 1))) (Ts.same (if drw salt 1097 3 = 1 then sumF salt sc else qs salt 1009 1013 sc) (qs salt 1019 1021 sc)))
   (.not (.both (Ts.same (if drw salt 1097 3 = 1 then sumF salt sc else qs salt 1009 1013 sc) (qs salt 1019 1021 sc)) (Ts.less (if drw salt 1097 3 = 1 then sumF salt sc else qs salt 1009 1013 sc) (.num (drw salt 1069 9 - 1)))))
  else if drw salt 1063 7 = 5 then .both (.not (.not (Ts.less (if drw salt 1097 3 = 1 then sumF salt sc else qs salt 1009 1013 sc) (.num (drw salt 1069 9 - 1))))) (.less (.num (-6)) (if drw salt 1097 3 = 1 then sumF salt sc else qs salt 1009 1013 sc))
  else Ts.less (if drw salt 1097 3 = 1 then sumF salt sc else qs salt 1009 1013 sc) (.num (drw salt 1069 9 - 1))) := rfl
 rw [eF] at q
 generalize (if drw salt 1097 3 = 1 then sumF salt sc else qs salt 1009 1013 sc) = one at q hu
 refine ⟨_, rfl, _, rfl, salt, 1069, 9, rfl, by decide, by decide, _, _, rfl, rfl, two, fun p1 hp1 => ⟨three, fun p2 hp2 => ?_⟩⟩
 have Sa := ze hp1 (.tup [.str "num", .int (drw salt 1069 9 - 1)])
 have Sb := ze hp2 (.tup [.str "less", u, .ref p1])
 have hl : qu (upd (upd H' p1 (.tup [.str "num", .int (drw salt 1069 9 - 1)])) p2 (.tup [.str "less", u, .ref p1])) (.ref p2) (.less one (.num (drw salt 1069 9 - 1))) := .less zc (hu.mono (Sa.trans Sb).tup) (.num (Sb _ _ zc))
 have SS := S.trans (Sa.trans Sb)
 have hu2 := hu.mono (Sa.trans Sb).tup
 generalize upd (upd H' p1 (.tup [.str "num", .int (drw salt 1069 9 - 1)])) p2 (.tup [.str "less", u, .ref p1]) = H2 at hl SS hu2
 generalize (Ts.less one (.num (drw salt 1069 9 - 1))) = least at q hl
 refine ⟨_, rfl, rfl, _, rfl, ?_⟩
 refine ite2 (fun c => ?_) (fun c => ?_)
 ·rw [if_pos (eqi c)] at q
  refine ⟨_, rfl, _, rfl, _, rfl, salt, 1019, 1021, a, sc, rfl, SS.seq hS, by decide, by decide, fun u3 H3 S3 h3 => ⟨three, fun p3 hp3 => ?_⟩⟩
  have S4 := ze hp3 (.tup [.str "same", u, u3])
  exact q _ _ (SS.trans (S3.trans S4)) (.same zc (hu2.mono (S3.trans S4).tup) (h3.mono S4.tup))
 rw [if_neg (nqi c)] at q
 refine ⟨_, rfl, rfl, _, rfl, ?_⟩
 refine ite2 (fun c => ?_) (fun c => ?_)
 ·rw [if_pos (eqi c)] at q
  refine ⟨_, rfl, two, fun p3 hp3 => ?_⟩
  have S4 := ze hp3 (.tup [.str "not", .ref p2])
  exact q _ _ (SS.trans S4) (.not zc (hl.mono S4.tup))
 rw [if_neg (nqi c)] at q
 refine ⟨_, rfl, rfl, _, rfl, ?_⟩
 refine ite2 (fun c => ?_) (fun c => ?_)
 ·rw [if_pos (eqi c)] at q
  refine ⟨_, rfl, _, rfl, _, rfl, salt, 1019, 1021, a, sc, rfl, SS.seq hS, by decide, by decide, fun u3 H3 S3 h3 => ⟨three, fun p3 hp3 => ?_⟩⟩
  have S4 := ze hp3 (.tup [.str "same", u, u3])
  have ho : qu (upd H3 p3 (.tup [.str "same", u, u3])) (.ref p3) (.same one (qs salt 1019 1021 sc)) := .same zc (hu2.mono (S3.trans S4).tup) (h3.mono S4.tup)
  have SS4 := SS.trans (S3.trans S4)
  have hl4 := hl.mono (S3.trans S4).tup
  generalize upd H3 p3 (.tup [.str "same", u, u3]) = H4 at ho SS4 hl4
  refine ⟨_, rfl, _, rfl, three, fun p5 hp5 => ⟨_, rfl, _, rfl, three, fun p6 hp6 => ⟨two, fun p7 hp7 => ⟨three, fun p8 hp8 => ?_⟩⟩⟩⟩
  have S5 := ze hp5 (.tup [.str "both", .ref p2, .ref p3])
  have S6 := ze hp6 (.tup [.str "both", .ref p3, .ref p2])
  have S7 := ze hp7 (.tup [.str "not", .ref p6])
  have S8 := ze hp8 (.tup [.str "both", .ref p5, .ref p7])
  have S68 := S6.trans (S7.trans S8)
  have S58 := S5.trans S68
  exact q _ _ (SS4.trans S58) (.both zc (.both (S68 _ _ zc) (hl4.mono S58.tup) (ho.mono S58.tup)) (.not (S8 _ _ zc) (.both ((S7.trans S8) _ _ zc) (ho.mono S58.tup) (hl4.mono S58.tup))))
 rw [if_neg (nqi c)] at q
 refine ⟨_, rfl, rfl, _, rfl, ?_⟩
 refine ite2 (fun c => ?_) (fun c => ?_)
 ·rw [if_pos (eqi c)] at q
  refine ⟨_, rfl, two, fun p5 hp5 => ⟨two, fun p6 hp6 => ⟨_, rfl, two, fun p7 hp7 => ⟨_, rfl, three, fun p8 hp8 => ⟨three, fun p9 hp9 => ?_⟩⟩⟩⟩⟩
  have S5 := ze hp5 (.tup [.str "not", .ref p2])
  have S6 := ze hp6 (.tup [.str "not", .ref p5])
  have S7 := ze hp7 (.tup [.str "num", .int (-6)])
  have S8 := ze hp8 (.tup [.str "less", .ref p7, u])
  have S9 := ze hp9 (.tup [.str "both", .ref p6, .ref p8])
  have S79 := S7.trans (S8.trans S9)
  have S69 := S6.trans S79
  have S59 := S5.trans S69
  exact q _ _ (SS.trans S59) (.both zc (.not (S79 _ _ zc) (.not (S69 _ _ zc) (hl.mono S59.tup))) (.less (S9 _ _ zc) (.num ((S8.trans S9) _ _ zc)) (hu2.mono S59.tup)))
 rw [if_neg (nqi c)] at q
 exact ⟨_, rfl, q _ _ SS hl⟩
noncomputable def spHead (K : W.Frag) : Sp := fun vs H Q _ => ∃ (way salt : Int) (a : Addr) (sc : List Str), vs = [.int way, .int salt, .ref a] ∧ H a = some (.lst (sc.map V.str)) ∧ sc.length ≤ 1000 ∧
 ∀ u H', Same H H' → (∀ M, IsHd H' M u (wq way salt sc)) → Q u H'
theorem ok_law_head_of (T : Txt K mg) : FnOk P w K mg base CX0 5 T.f_law_head_of T.fd_law_head_of ["_law_way", "_law_salt", "_law_scope"] (spHead K) := by
 have G_law_draw := (vf (P := P) (w := w) (base := base) T).mono (show 1 ≤ 4 by omega)
 have G_law_sum_of := (zap (P := P) (w := w) (base := base) T).mono (show 3 ≤ 4 by omega)
 have G_law_test_of := ok_law_test_of (P := P) (w := w) (base := base) T
 refine T.law_head_of.F.ok w9 (fun vs H Q E h => ?_) (fun cdv A outer s H vs Q E hr h => ?_)
 ·obtain ⟨way, salt, a, sc, rfl, _⟩ := h; rfl
 obtain ⟨way, salt, a, sc, rfl, hS, hn, q⟩ := h
 refine ⟨_, (zf (z0 (zj qi (pv 0) zd (zp _)) (zg (zr (qb (za zi (za (zk G_law_test_of hr rfl T.law_test_of.m T.law_test_of.F.kp T.law_test_of.b .nil zq (za (pv 1) (za (pv 2) zb))) zb))))) zv)
  (zf (z0 (zj qi (pv 0) zd (zp _)) (zg (zr (qb (za zi (za (zk G_law_test_of hr rfl T.law_test_of.m T.law_test_of.F.kp T.law_test_of.b .nil zq (za (pv 1) (za (pv 2) zb))) zb))))) zv)
  (zf (zx (i := 3) w9.nd rfl (Or.inl rfl) (zy qr (kj zb2 (pv 2) zba (kh zd)) (ql (za zi (za zi zb)))))
  (zf (zx (i := 4) w9.nd rfl (Or.inl rfl) (zn qp (pv 3) (zk G_law_draw hr rfl T.law_draw.m T.law_draw.F.kp T.law_draw.b .nil zq (za (pv 1) (za zd (za (qk qa rfl T.b_len PySem.boot_len (za (pv 3) zb)) zb)))) (fun _ _ => rfl)))
  (zg (zr (qb (za zi (za (pv 4) (za (zk G_law_sum_of hr rfl T.law_sum_of.m T.law_sum_of.F.kp T.law_sum_of.b .nil zq (za (pv 1) (za (pv 2) zb))) zb)))))))))), ?_⟩
 try dsimp only[kx,kxb]
 have two : (2 : Nat) ≤ sizeLine := by decide
 have three : (3 : Nat) ≤ sizeLine := by decide
 have eqi : ∀ {x y : Int}, decide (V.int x = V.int y) = true → x = y := fun c => by injection (of_decide_eq_true c)
 have nqi : ∀ {x y : Int}, ¬ decide (V.int x = V.int y) = true → ¬ x = y := fun c z => c (decide_eq_true (by rw [z]))
 unfold wq at q
 refine ⟨_, rfl, rfl, _, rfl, ?_⟩
 refine ite2 (fun c => ?_) (fun c => ?_)
 ·rw [if_pos (eqi c)] at q
  refine ⟨_, rfl, _, rfl, salt, a, sc, rfl, SqL.of hS, fun u H1 S1 h1 => ⟨two, fun p hp => ?_⟩⟩
  have S2 := ze hp (.tup [.str "while", u])
  exact q _ _ (S1.trans S2) fun M => .whil zc (h1.mono S2.tup)
 rw [if_neg (nqi c)] at q
 refine ⟨_, rfl, rfl, _, rfl, ?_⟩
 refine ite2 (fun c => ?_) (fun c => ?_)
 ·rw [if_pos (eqi c)] at q
  refine ⟨_, rfl, _, rfl, salt, a, sc, rfl, SqL.of hS, fun u H1 S1 h1 => ⟨two, fun p hp => ?_⟩⟩
  have S2 := ze hp (.tup [.str "when", u])
  exact q _ _ (S1.trans S2) fun M => .when zc (h1.mono S2.tup)
 rw [if_neg (nqi c)] at q
 refine ⟨_, rfl, _, rfl, _, _, rfl, SqL.of hS, fun p1 hp1 => ⟨two, fun p2 hp2 => ?_⟩⟩
 have S1 := ze hp1 (.lst (cutV (sc.map V.str) none (some 3)))
 have S2 := ze hp2 (.lst [V.str "aa", V.str "quill"])
 have ecut := cut_take sc 3
 refine ⟨p1, p2, (sc.take 3).map V.str, [V.str "aa", V.str "quill"], rfl, rfl, S2 _ _ (by rw [zc]; exact congrArg (fun z => some (HO.lst z)) ecut), zc, by rw [sizeLine_eq, List.length_map, List.length_take]; show _ + 2 ≤ _; omega, fun p3 hp3 => ?_⟩
 have S3 := ze hp3 (.lst ((sc.take 3).map V.str ++ [V.str "aa", V.str "quill"]))
 have e3 : upd (upd (upd H p1 (.lst (cutV (sc.map V.str) none (some 3)))) p2 (.lst [V.str "aa", V.str "quill"])) p3 (.lst ((sc.take 3).map V.str ++ [V.str "aa", V.str "quill"])) p3 = some (.lst ((zbz sc).map V.str)) := by
  rw [zc]; unfold zbz; rw [List.map_append]; rfl
 have SS := S1.trans (S2.trans S3)
 generalize upd (upd (upd H p1 (.lst (cutV (sc.map V.str) none (some 3)))) p2 (.lst [V.str "aa", V.str "quill"])) p3 (.lst ((sc.take 3).map V.str ++ [V.str "aa", V.str "quill"])) = H3 at e3 SS
 have hjl : ((zbz sc).map V.str).length = (zbz sc).length := List.length_map _
 have hjp : (0 : Int) < ((zbz sc).length : Int) := by
  have : (zbz sc).length = (sc.take 3).length + 2 := by unfold zbz; rw [List.length_append]; rfl
  omega
 have hjp' : (0 : Int) < (((zbz sc).map V.str).length : Int) := by rw [hjl]; exact hjp
 refine ⟨_, rfl, _, rfl, _, rfl, _, _, rfl, .inl (SqL.of e3), salt, 1087, _, rfl, by decide, hjp', ?_⟩
 rw [hjl]
 refine ⟨_, _, _, _, rfl, rfl, SqL.of e3, zfd (wk hjp) (zar hjp), ?_⟩
 refine ⟨_, rfl, _, rfl, _, rfl, salt, a, sc, rfl, SqL.of (SS _ _ hS), fun u H4 S4 h4 => ⟨three, fun p hp => ?_⟩⟩
 have S5 := ze hp (.tup [.str "with", .str (jarF salt sc), u])
 exact q _ _ (SS.trans (S4.trans S5)) fun M => .wit zc (h4.mono S5.tup)
end
open PySem L2 J
section
variable {P : Program} {w : World} {K : W.Frag} {mg : Str → Option Value} {base : Heap}
noncomputable def spClose : Sp := fun vs H Q _ => ∃ (lb lh ls : Addr) (salt : Int) (H0 : Hp) (g : Gs) (vbs vhs : List V) (k : Nat), vs = [.ref lb, .ref lh, .ref ls, .int salt] ∧ GRel H0 H lb lh ls noM g vbs vhs ∧ g.hs ≠ [] ∧ g.Ok k ∧ k ≤ 1000 ∧ vbs.length ≤ 1100 ∧ vhs.length ≤ 1100 ∧
 ∀ H' vbs' vhs', GRel H0 H' lb lh ls noM (xr salt g) vbs' vhs' → Q .non H'
noncomputable def MClose (H0 : Hp) (lb lh ls p a4 : Addr) (salt : Int) (ut : V) (t : Ts) (b : Bk) (g : Gs) (vbs vhs : List V) (σ : St) (H' : Hp) : Prop :=
 σ = [some (.ref lb), some (.ref lh), some (.ref ls), some (.int salt), some (.ref a4), some (.ref p), some ut] ∧ GRel H0 H' lb lh ls (fun a => a = p) g vbs vhs ∧ qu H' ut t ∧ ∃ vs, H' p = some (.lst vs) ∧ IsBk H' (GM lb lh ls vbs fun a => a = p) vs (b.app (endF salt t))
theorem ok_law_close (T : Txt K mg) : FnOk P w K mg base CX0 2 T.f_law_close T.fd_law_close ["_law_blocks", "_law_heads", "_law_scope", "_law_salt"] spClose := by
 have G_law_draw := vf (P := P) (w := w) (base := base) T
 refine T.law_close.F.ok wr (fun vs H Q E h => ?_) (fun cdv A outer s H vs Q E hr h => ?_)
 ·obtain ⟨lb, lh, ls, salt, H0, g, vbs, vhs, k, rfl, _⟩ := h; rfl
 obtain ⟨lb, lh, ls, salt, H0, g, vbs, vhs, k, rfl, hG, hne, hok, hk, hv1, hv2, q⟩ := h
 refine ⟨_, (zf (zx (i := 4) wr.nd rfl (Or.inl rfl) (wg F.plainAttrs_list F.slot_list_pop F.type_list_pop wj (pv 1)))
  (zf (zx (i := 5) wr.nd rfl (Or.inl rfl) (wg F.plainAttrs_list F.slot_list_pop F.type_list_pop wj (pv 0)))
  (zg (z0 (zj qi (zn zm (pv 4) zd (fun _ _ => rfl)) zi (zp _)) (zf (qc (qx F.plainAttrs_list F.slot_list_append F.type_list_append qo (pv 1) (za (qb (za zi (za (zn zm (pv 4) zd (fun _ _ => rfl)) (za (pv 5) zb)))) zb)))
  (zg (qc (qx F.plainAttrs_list F.slot_list_append F.type_list_append qo (pv 0) (za (ql zb) zb))))) (zg (z0 (zj qi (zn zm (pv 4) zd (fun _ _ => rfl)) zi (zp _)) (zg (qc (qx F.plainAttrs_list F.slot_list_append F.type_list_append qo (zn qp (pv 0) (zbs wz zd) (fun _ _ => rfl)) (za (qb (za zi (za (zn zm (pv 4) zd (fun _ _ => rfl)) (za (zn zm (pv 4) zd (fun _ _ => rfl)) (za (pv 5) zb))))) zb)))) (zg (z0 (zj qi (zn zm (pv 4) zd (fun _ _ => rfl)) zi (zp _)) (zf (zx (i := 6) wr.nd rfl (Or.inl rfl) (zn zm (pv 4) zd (fun _ _ => rfl)))
  (ve (z0 (PW.pt (zbq (zj qi (zn zm (pv 6) zd (fun _ _ => rfl)) zi (zp _)) (zbq (zj qi (zn zm (zn zm (pv 6) zd (fun _ _ => rfl)) zd (fun _ _ => rfl)) zi (zp _)) (za8 (zj zfq (zk G_law_draw hr rfl T.law_draw.m T.law_draw.F.kp T.law_draw.b .nil zq (za (pv 3) (za zd (za zd zb)))) zd (zp _)))))) (zg (qc (qx F.plainAttrs_list F.slot_list_append F.type_list_append qo (pv 5) (za (qb (za zi (za (zn zm (zn zm (pv 6) zd (fun _ _ => rfl)) zd (fun _ _ => rfl)) (za (qb (za zi (za (zn zm (pv 6) zd (fun _ _ => rfl)) (za (qb (za zi (za zd zb))) zb)))) zb)))) zb)))) zv)
  (zg (qc (qx F.plainAttrs_list F.slot_list_append F.type_list_append qo (zn qp (pv 0) (zbs wz zd) (fun _ _ => rfl)) (za (qb (za zi (za (pv 6) (za (pv 5) zb)))) zb)))))) (zf (qc (wg F.plainAttrs_list F.slot_list_pop F.type_list_pop wj (pv 2)))
  (zg (qc (qx F.plainAttrs_list F.slot_list_append F.type_list_append qo (zn qp (pv 0) (zbs wz zd) (fun _ _ => rfl)) (za (qb (za zi (za (zn zm (pv 4) zd (fun _ _ => rfl)) (za (zn zm (pv 4) zd (fun _ _ => rfl)) (za (pv 5) zb))))) zb))))))))))))), ?_⟩
 try dsimp only[kx,kxb]
 have one : (1 : Nat) ≤ sizeLine := by decide
 have two : (2 : Nat) ≤ sizeLine := by decide
 have three : (3 : Nat) ≤ sizeLine := by decide
 have four : (4 : Nat) ≤ sizeLine := by decide
 obtain ⟨bs, hs, sc⟩ := g
 match hs, hne with
 | hd :: hs, _ =>
 match bs, hok.len with
 | b :: bs, hlen =>
 have hnn := hok.n
 simp only [Gs.n, List.map_cons, List.sum_cons] at hnn
 obtain ⟨vbs', p, vs, vhs', u, rfl, rfl, hG', hu, hp, hb, n1, n2, n3, h0, hnp⟩ := hG.pop
 have hvl : vs.length ≤ b.n := hb.len
 simp only [List.length_append, List.length_cons, List.length_nil] at hv1 hv2
 refine ⟨_, rfl, .inl ⟨rfl, _, SqL.of hG.eh⟩, _, _, _, rfl, rfl, hG.eh, xu _ _, ?_⟩
 rw [List.dropLast_concat]
 have eb1 : upd H lh (.lst vhs') lb = some (.lst (vbs' ++ [.ref p])) := by rw [zl hG.ne1]; exact hG.eb
 refine ⟨_, rfl, .inl ⟨rfl, _, SqL.of eb1⟩, _, _, _, rfl, rfl, eb1, xu _ _, ?_⟩
 rw [List.dropLast_concat]
 generalize upd (upd H lh (.lst vhs')) lb (.lst vbs') = H2 at hG' hu hp hb
 clear hG eb1
 have nM := GRel.not_M (H0 := H0) (H := H2) n1 n2 n3 hnp
 cases hu with
 | @when a4 ut t e ht =>
  refine ⟨_, rfl, _, _, _, _, rfl, rfl, SqT.of e, at0, rfl, _, rfl, qj (by decide +kernel) ?_⟩
  refine ⟨_, rfl, .inl ⟨rfl, _, SqL.of hG'.eh⟩, _, rfl, _, _, _, _, rfl, rfl, SqT.of e, rfl, _, rfl, three, fun p1 hp1 => ?_⟩
  have S3 : Same H2 (upd H2 p1 (.tup [.str "else", ut, .ref p])) := ze hp1 _
  have hG3 := (hG'.grow S3).close
  have hh : IsHd (upd H2 p1 (.tup [.str "else", ut, .ref p])) (GM lb lh ls vbs' noM) (.ref p1) (.els t b) :=
   .els zc (ht.mono S3.tup) nM (S3 _ _ hp) (hb.mono (.of S3) S3.tup fun a _ z => zam a z)
  generalize upd H2 p1 (.tup [.str "else", ut, .ref p]) = H3 at hG3 hh
  refine ⟨_, _, _, rfl, rfl, hG3.eh, by rw [sizeLine_eq]; omega, ?_⟩
  have eb4 : upd H3 lh (.lst (vhs' ++ [.ref p1])) lb = some (.lst vbs') := by rw [zl hG3.ne1]; exact hG3.eb
  refine ⟨_, rfl, .inl ⟨rfl, _, SqL.of eb4⟩, Nat.zero_le _, fun p2 hp2 => ?_⟩
  have nb2 : lb ≠ p2 := fun z => by rw [← z, eb4] at hp2; cases hp2
  refine ⟨_, _, _, rfl, rfl, (by rw [zl nb2]; exact eb4), by rw [sizeLine_eq]; omega, ?_⟩
  exact q _ _ _ (hG3.push hh hp2)
 | @els a4 p0 ut t vs0 b0 e ht nM0 hp0 hb0 =>
  match bs, hlen with
  | b1 :: bs, hlen =>
  obtain ⟨vb2, p1, vs1, rfl, hp1, hl1, hadd⟩ := hG'.close.top
  simp only [List.map_cons, List.sum_cons] at hnn
  refine ⟨_, rfl, _, _, _, _, rfl, rfl, SqT.of e, at0, rfl, _, rfl, zo (by decide +kernel) ?_⟩
  refine ⟨_, rfl, _, _, _, _, rfl, rfl, SqT.of e, at0, rfl, _, rfl, qj (by decide +kernel) ?_⟩
  refine ⟨_, rfl, _, rfl, _, _, _, _, rfl, rfl, SqL.of hG'.eb, za6 _ _, .inl ⟨rfl, _, SqL.of hp1⟩, _, rfl, _, _, _, _, rfl, rfl, SqT.of e, rfl, _, rfl, _, _, _, _, rfl, rfl, SqT.of e, rfl, _, rfl, four, fun p2 hp2 => ?_⟩
  have S3 : Same H2 (upd H2 p2 (.tup [.str "when", ut, .ref p0, .ref p])) := ze hp2 _
  refine ⟨_, _, _, rfl, rfl, S3 _ _ hp1, by rw [sizeLine_eq]; omega, ?_⟩
  refine q _ _ _ (hadd _ S3 [.ref p2] (.when t b0 b .nil) ?_)
  exact .when zc (ht.mono S3.tup) (fun z => nM0 (zam _ z)) (S3 _ _ hp0) (hb0.mono (.of S3) S3.tup fun a _ z => zam a z) nM (S3 _ _ hp) (hb.mono (.of S3) S3.tup fun a _ z => zam a z) .nil
 | @wit a4 x us sm e hs' =>
  match bs, hlen with
  | b1 :: bs, hlen =>
  simp only [List.map_cons, List.sum_cons] at hnn
  refine ⟨_, rfl, _, _, _, _, rfl, rfl, SqT.of e, at0, rfl, _, rfl, zo (by decide +kernel) ?_⟩
  refine ⟨_, rfl, _, _, _, _, rfl, rfl, SqT.of e, at0, rfl, _, rfl, zo (by decide +kernel) ?_⟩
  refine ⟨_, rfl, _, _, _, _, rfl, rfl, SqT.of e, at0, rfl, _, rfl, zo (by decide +kernel) ?_⟩
  have hwl := hok.wl
  simp only [Gs.w, List.map_cons, List.sum_cons, Hd.w] at hwl
  have hsne : sc ≠ [] := fun z => by rw [z] at hwl; simp at hwl
  have esn : sc = sc.dropLast ++ [sc.getLast hsne] := (List.dropLast_concat_getLast hsne).symm
  have es2 : H2 ls = some (.lst (sc.dropLast.map V.str ++ [.str (sc.getLast hsne)])) := by
   rw [hG'.es]
   conv => lhs; rw [esn]
   rw [List.map_append]
   rfl
  refine ⟨_, rfl, .inl ⟨rfl, _, SqL.of es2⟩, _, _, _, rfl, rfl, es2, xu _ _, ?_⟩
  rw [List.dropLast_concat]
  have hG3 := hG'.close.scope sc.dropLast
  have B3 : Out (GM lb lh ls vbs' noM) H2 (upd H2 ls (.lst (sc.dropLast.map V.str))) := zdm (.inr (.inr (.inl rfl))) _
  have L3 := zco es2 (.lst (sc.dropLast.map V.str))
  have hp3 : upd H2 ls (.lst (sc.dropLast.map V.str)) p = some (.lst vs) := by rw [zl n3]; exact hp
  have hb3 : IsBk (upd H2 ls (.lst (sc.dropLast.map V.str))) (GM lb lh ls vbs' noM) vs b := (hb.mono (M' := GM lb lh ls vbs' noM) (fun _ _ _ z => z) (fun _ _ z => z) fun a _ z => zam a z).mono B3 L3 fun _ _ z => z
  have e3 := L3 _ _ e
  have hs3 := hs'.mono L3
  generalize upd H2 ls (.lst (sc.dropLast.map V.str)) = H3 at hG3 hp3 hb3 e3 hs3
  obtain ⟨vb2, p1, vs1, rfl, hp1, hl1, hadd⟩ := hG3.top
  refine ⟨_, rfl, _, rfl, _, _, _, _, rfl, rfl, SqL.of hG3.eb, za6 _ _, .inl ⟨rfl, _, SqL.of hp1⟩, _, rfl, _, _, _, _, rfl, rfl, SqT.of e3, rfl, _, rfl, _, _, _, _, rfl, rfl, SqT.of e3, rfl, _, rfl, four, fun p2 hp2 => ?_⟩
  have S4 : Same H3 (upd H3 p2 (.tup [.str "with", .str x, us, .ref p])) := ze hp2 _
  refine ⟨_, _, _, rfl, rfl, S4 _ _ hp1, by rw [sizeLine_eq]; omega, ?_⟩
  refine q _ _ _ (hadd _ S4 [.ref p2] (.wit x sm b .nil) ?_)
  exact .wit zc (hs3.mono S4.tup) nM (S4 _ _ hp3) (hb3.mono (.of S4) S4.tup fun _ _ z => z) .nil
 | @whil a4 ut t e ht =>
  match bs, hlen with
  | b1 :: bs, hlen =>
  simp only [List.map_cons, List.sum_cons] at hnn
  refine ⟨_, rfl, _, _, _, _, rfl, rfl, SqT.of e, at0, rfl, _, rfl, zo (by decide +kernel) ?_⟩
  refine ⟨_, rfl, _, _, _, _, rfl, rfl, SqT.of e, at0, rfl, _, rfl, zo (by decide +kernel) ?_⟩
  refine ⟨_, rfl, _, _, _, _, rfl, rfl, SqT.of e, at0, rfl, _, rfl, qj (by decide +kernel) ?_⟩
  refine ⟨_, rfl, _, _, _, _, rfl, rfl, SqT.of e, rfl, ?_⟩
  refine ⟨MClose H0 lb lh ls p a4 salt ut t b ⟨b1 :: bs, hs, sc⟩ vbs' vhs', ?_, ?_⟩
  ·have idle : endF salt t = .nil → MClose H0 lb lh ls p a4 salt ut t b ⟨b1 :: bs, hs, sc⟩ vbs' vhs' [some (.ref lb), some (.ref lh), some (.ref ls), some (.int salt), some (.ref a4), some (.ref p), some ut] H2 := fun en =>
    ⟨rfl, hG', ht, vs, hp, by rw [en, Bk.app_nil]; exact hb⟩
   cases ht with
   | @less at1 u1 u2 s1 s2 et h1 h2 =>
    refine ⟨_, rfl, _, _, _, _, rfl, rfl, SqT.of et, at0, rfl, _, rfl, qj (by decide +kernel) ?_⟩
    cases h1 with
    | @num an i en => exact ⟨_, rfl, _, _, _, _, rfl, rfl, SqT.of et, rfl, _, _, _, _, rfl, rfl, SqT.of en, at0, rfl, _, rfl, zo (by decide +kernel) (iteF (idle rfl))⟩
    | @op an o v1 v2 t1 t2 en g1 g2 => exact ⟨_, rfl, _, _, _, _, rfl, rfl, SqT.of et, rfl, _, _, _, _, rfl, rfl, SqT.of en, at0, rfl, _, rfl, zo (by cases o <;> decide +kernel) (iteF (idle rfl))⟩
    | @name an x en =>
     refine ⟨_, rfl, _, _, _, _, rfl, rfl, SqT.of et, rfl, _, _, _, _, rfl, rfl, SqT.of en, at0, rfl, _, rfl, qj (by decide +kernel) ?_⟩
     refine ⟨_, rfl, salt, 1093, 4, rfl, by decide, by decide, _, _, rfl, rfl, _, rfl, ?_⟩
     refine ite2 (fun c => ?_) (fun c => ?_)
     ·have c1 : drw salt 1093 4 > 0 := of_decide_eq_true c
      have een : endF salt (.less (.name x) s2) = .set x (.op .add (.name x) (.num 1)) .nil := if_pos c1
      refine ⟨_, rfl, .inl ⟨rfl, _, SqL.of hp⟩, _, rfl, _, _, _, _, rfl, rfl, SqT.of et, rfl, _, _, _, _, rfl, rfl, SqT.of en, rfl, _, rfl, _, _, _, _, rfl, rfl, SqT.of et, rfl, two, fun q1 hq1 => ⟨three, fun q2 hq2 => ⟨three, fun q3 hq3 => ?_⟩⟩⟩
      have S3 := ze hq1 (.tup [.str "num", .int 1])
      have S4 := ze hq2 (.tup [.str "add", .ref an, .ref q1])
      have S5 := ze hq3 (.tup [.str "set", .str x, .ref q2])
      have S35 := S3.trans (S4.trans S5)
      have hw : IsBk (upd (upd (upd H2 q1 (.tup [.str "num", .int 1])) q2 (.tup [.str "add", .ref an, .ref q1])) q3 (.tup [.str "set", .str x, .ref q2])) (GM lb lh ls vbs' fun a => a = p) [.ref q3] (.set x (.op .add (.name x) (.num 1)) .nil) :=
       .set zc (.op (o := .add) (S5 _ _ zc) (.name (S35 _ _ en)) (.num ((S4.trans S5) _ _ zc))) .nil
      have hG5 := hG'.grow S35
      have hp5 := S35 _ _ hp
      have hb5 := hb.mono (M' := GM lb lh ls vbs' fun a => a = p) (.of S35) S35.tup fun _ _ z => z
      have ht5 : qu (upd (upd (upd H2 q1 (.tup [.str "num", .int 1])) q2 (.tup [.str "add", .ref an, .ref q1])) q3 (.tup [.str "set", .str x, .ref q2])) (.ref at1) (.less (.name x) s2) := .less (S35 _ _ et) (.name (S35 _ _ en)) (h2.mono S35.tup)
      generalize upd (upd (upd H2 q1 (.tup [.str "num", .int 1])) q2 (.tup [.str "add", .ref an, .ref q1])) q3 (.tup [.str "set", .str x, .ref q2]) = H5 at hw hG5 hp5 hb5 ht5
      refine ⟨_, _, _, rfl, rfl, hp5, by rw [sizeLine_eq]; omega, ?_⟩
      obtain ⟨r1, r2, r3⟩ := hG5.more n1 n2 n3 h0 hnp hp5 hb5 hw
      refine ⟨rfl, r1, ht5.mono (zco hp5 _), _, zc, ?_⟩
      rw [een]
      exact r2
     ·have c1 : ¬ drw salt 1093 4 > 0 := of_decide_eq_false (Bool.eq_false_iff.mpr c)
      exact idle (if_neg c1)
   | @same at1 u1 u2 s1 s2 et h1 h2 => exact ⟨_, rfl, _, _, _, _, rfl, rfl, SqT.of et, at0, rfl, _, rfl, zo (by decide +kernel) (iteF (idle rfl))⟩
   | @not at1 u1 t1 et h1 => exact ⟨_, rfl, _, _, _, _, rfl, rfl, SqT.of et, at0, rfl, _, rfl, zo (by decide +kernel) (iteF (idle rfl))⟩
   | @both at1 u1 u2 s1 s2 et h1 h2 => exact ⟨_, rfl, _, _, _, _, rfl, rfl, SqT.of et, at0, rfl, _, rfl, zo (by decide +kernel) (iteF (idle rfl))⟩
  ·rintro σ' H3 ⟨rfl, hG3, ht3, vs3, hp3, hb3⟩
   obtain ⟨vb2, p1, vs1, rfl, hp1, hl1, hadd⟩ := hG3.close.top
   refine ⟨_, rfl, _, rfl, _, _, _, _, rfl, rfl, SqL.of hG3.eb, za6 _ _, .inl ⟨rfl, _, SqL.of hp1⟩, _, rfl, _, rfl, three, fun p2 hp2 => ?_⟩
   have S4 : Same H3 (upd H3 p2 (.tup [.str "while", ut, .ref p])) := ze hp2 _
   refine ⟨_, _, _, rfl, rfl, S4 _ _ hp1, by rw [sizeLine_eq]; omega, ?_⟩
   refine q _ _ _ (hadd _ S4 [.ref p2] (.whil t (b.app (endF salt t)) .nil) ?_)
   exact .whil zc (ht3.mono S4.tup) nM (S4 _ _ hp3) (hb3.mono (.of S4) S4.tup fun a _ z => zam a z) .nil
end
open PySem L2 J
section
variable {P : Program} {w : World} {K : W.Frag} {mg : Str → Option Value} {base : Heap}
noncomputable def spGrown (K : W.Frag) : Sp := fun vs H Q _ => ∃ (a b c : Addr) (cells : List Int) (ns more : List Str), vs = [.ref a, .ref b, .ref c] ∧ SqL K H a (cells.map V.int) ∧ cells.length ≤ 100 ∧ H b = some (.lst (ns.map V.str)) ∧ ns.length ≤ 9 ∧ H c = some (.lst (more.map V.str)) ∧ more.length ≤ 9 ∧
 ∀ r pn pb vs H', Same H H' → H' r = some (.tup [.ref pn, .ref pb]) → H' pn = some (.lst (ns.map V.str)) → H' pb = some (.lst vs) → IsBk H' noM vs (v6 cells ns more) → Q (.ref r) H'
noncomputable def PGrown (H : Hp) (a b c lb lh ls : Addr) (more : List Str) (cells : List Int) (gF : Gs) (k : Nat) (σ : St) (H' : Hp) : Prop :=
 ∃ o6 o7 o8 o9 o10 g vbs vhs, σ = [some (.ref a), some (.ref b), some (.ref c), some (.ref lb), some (.ref lh), some (.ref ls), o6, o7, o8, o9, o10] ∧ GRel H H' lb lh ls noM g vbs vhs ∧ g.Ok k ∧ gF = zae more k (cells.drop k) g
noncomputable def WGrown (H : Hp) (a b c lb lh ls : Addr) (gF : Gs) (m : Nat) (σ : St) (H' : Hp) : Prop :=
 ∃ o6 o7 o8 o9 o10 g vbs vhs j, σ = [some (.ref a), some (.ref b), some (.ref c), some (.ref lb), some (.ref lh), some (.ref ls), o6, o7, o8, o9, o10] ∧ GRel H H' lb lh ls noM g vbs vhs ∧ g.Ok 100 ∧ wm 400 gF = wm j g ∧ g.wt ≤ j ∧ m = g.wt
theorem ok_law_grown (T : Txt K mg) : FnOk P w K mg base CX0 6 T.f_law_grown T.fd_law_grown ["_law_cells", "_law_names", "_law_more"] (spGrown K) := by
 have G_law_draw := (vf (P := P) (w := w) (base := base) T).mono (show 1 ≤ 5 by omega)
 have G_law_sum_of := (zap (P := P) (w := w) (base := base) T).mono (show 3 ≤ 5 by omega)
 have G_law_head_of := ok_law_head_of (P := P) (w := w) (base := base) T
 have G_law_close := (ok_law_close (P := P) (w := w) (base := base) T).mono (show 2 ≤ 5 by omega)
 refine T.law_grown.F.ok xw (fun vs H Q E h => ?_) (fun cdv A outer s H vs Q E hr h => ?_)
 ·obtain ⟨a, b, c, cells, ns, more, rfl, _⟩ := h; rfl
 obtain ⟨a, b, c, cells, ns, more, rfl, hC, hcl, hN, hnl, hM, hml, q⟩ := h
 refine ⟨_, (zf (zx (i := 3) xw.nd rfl (Or.inl rfl) (ql (za (ql zb) zb)))
  (zf (zx (i := 4) xw.nd rfl (Or.inl rfl) (ql zb))
  (zf (zx (i := 5) xw.nd rfl (Or.inl rfl) (j0 jf rfl T.b_list j4 (za (pv 1) zb)))
  (zf (zao PassesOwn.never rfl (wx rfl T.b_range (za (qk qa rfl T.b_len PySem.boot_len (za (pv 0) zb)) zb)) (vj (i := 6) xw.nd rfl (Or.inl rfl)) (zf (zx (i := 7) xw.nd rfl (Or.inl rfl) (zy jo (zn qp (pv 0) (pv 6) (fun _ _ => rfl)) zd))
  (zf (zx (i := 8) xw.nd rfl (Or.inl rfl) (zy jg (zn qp (pv 0) (pv 6) (fun _ _ => rfl)) (zy vk zd (pv 6))))
  (zf (zx (i := 9) xw.nd rfl (Or.inl rfl) (zy qr (pv 5) (pv 2)))
  (zg (z0 (zj zbm (pv 7) zd (zp _)) (zf (qc (qx F.plainAttrs_list F.slot_list_append F.type_list_append qo (pv 4) (za (zk G_law_head_of hr rfl T.law_head_of.m T.law_head_of.F.kp T.law_head_of.b .nil zq (za (pv 7) (za (pv 8) (za (pv 9) zb)))) zb)))
  (zf (qc (qx F.plainAttrs_list F.slot_list_append F.type_list_append qo (pv 3) (za (ql zb) zb)))
  (zg (z0 (zj qi (pv 7) zd (zp _)) (zg (qc (qx F.plainAttrs_list F.slot_list_append F.type_list_append qo (pv 5) (za (zn zm (zn qp (pv 4) (zbs wz zd) (fun _ _ => rfl)) zd (fun _ _ => rfl)) zb)))) zv)))) (zg (zf9 (PW.pt (zbq (zj zbm (pv 7) zd (zp _)) (za8 (zj (zax hr.units0) (pv 4) (ql zb) (zp _))))) (zg (qc (zk G_law_close hr rfl T.law_close.m T.law_close.F.kp T.law_close.b .nil zq (za (pv 3) (za (pv 4) (za (pv 5) (za (pv 8) zb))))))) (zg (zf9 (PW.pt (zbq (zj zbm (pv 7) zd (zp _)) (za8 (zj (zax hr.units0) (pv 9) (ql zb) (zp _))))) (zf (zx (i := 10) xw.nd rfl (Or.inl rfl) (zn qp (pv 9) (zk G_law_draw hr rfl T.law_draw.m T.law_draw.F.kp T.law_draw.b .nil zq (za (pv 8) (za zd (za (qk qa rfl T.b_len PySem.boot_len (za (pv 9) zb)) zb)))) (fun _ _ => rfl)))
  (zg (qc (qx F.plainAttrs_list F.slot_list_append F.type_list_append qo (zn qp (pv 3) (zbs wz zd) (fun _ _ => rfl)) (za (qb (za zi (za (pv 10) (za (zk G_law_sum_of hr rfl T.law_sum_of.m T.law_sum_of.F.kp T.law_sum_of.b .nil zq (za (pv 8) (za (pv 9) zb))) zb)))) zb))))) (zg (qc (qx F.plainAttrs_list F.slot_list_append F.type_list_append qo (zn qp (pv 3) (zbs wz zd) (fun _ _ => rfl)) (za (qb (za zi (za (zk G_law_sum_of hr rfl T.law_sum_of.m T.law_sum_of.F.kp T.law_sum_of.b .nil zq (za (pv 8) (za (pv 9) zb))) zb))) zb))))))))))))))
  (zf (zbr PassesOwn.never (zj (zax hr.units0) (pv 4) (ql zb) (zp _)) (zg (qc (zk G_law_close hr rfl T.law_close.m T.law_close.F.kp T.law_close.b .nil zq (za (pv 3) (za (pv 4) (za (pv 5) (za zd zb))))))))
  (zg (zr (qb (za (j0 jf rfl T.b_list j4 (za (pv 1) zb)) (za (zn qp (pv 3) zd (fun _ _ => rfl)) zb)))))))))), ?_⟩
 try dsimp only[kx,kxb]
 have one : (1 : Nat) ≤ sizeLine := by decide
 have two : (2 : Nat) ≤ sizeLine := by decide
 have three : (3 : Nat) ≤ sizeLine := by decide
 refine ⟨Nat.zero_le _, fun p0 hp0 => ⟨one, fun lb hlb => ?_⟩⟩
 refine ⟨Nat.zero_le _, fun lh hlh => ?_⟩
 have S1 := ze hp0 (.lst [])
 have S2 := ze hlb (.lst [.ref p0])
 have S3 := ze hlh (.lst [])
 refine ⟨_, rfl, _, _, rfl, .inl (SqL.of (S3 _ _ (S2 _ _ (S1 _ _ hN)))), fun ls hls => ?_⟩
 have S4 := ze hls (.lst (ns.map V.str))
 have eb1 : upd (upd H p0 (.lst [])) lb (.lst [.ref p0]) lb = some (.lst [.ref p0]) := zc
 have nb : H lb = none := S1.free hlb
 have nh : H lh = none := (S1.trans S2).free hlh
 have nls : H ls = none := (S1.trans (S2.trans S3)).free hls
 have ne1 : lb ≠ lh := fun z => by rw [← z, eb1] at hlh; cases hlh
 have ne2 : lb ≠ ls := fun z => by rw [← z, S3 _ _ eb1] at hls; cases hls
 have ne3 : lh ≠ ls := fun z => by rw [← z, zc] at hls; cases hls
 have hp1 : upd H p0 (.lst []) p0 = some (.lst []) := zc
 have np1 : p0 ≠ lb := fun z => by rw [← z, hp1] at hlb; cases hlb
 have np2 : p0 ≠ lh := fun z => by rw [← z, S2 _ _ hp1] at hlh; cases hlh
 have np3 : p0 ≠ ls := fun z => by rw [← z, S3 _ _ (S2 _ _ hp1)] at hls; cases hls
 have hG0 : GRel H (upd (upd (upd (upd H p0 (.lst [])) lb (.lst [.ref p0])) lh (.lst [])) ls (.lst (ns.map V.str))) lb lh ls noM ⟨[.nil], [], ns⟩ [.ref p0] [] :=
  ⟨S1.trans (S2.trans (S3.trans S4)), nb, nh, nls, ne1, ne2, ne3, S4 _ _ (S3 _ _ eb1), S4 _ _ zc, zc, by simp, .cons ⟨p0, [], rfl, np1, np2, np3, hp0, S4 _ _ (S3 _ _ (S2 _ _ hp1)), .nil⟩ .nil, .nil⟩
 generalize upd (upd (upd (upd H p0 (.lst [])) lb (.lst [.ref p0])) lh (.lst [])) ls (.lst (ns.map V.str)) = H4 at hG0
 have hcl' : (cells.map V.int).length = cells.length := List.length_map _
 refine ⟨_, rfl, _, _, rfl, .inl (hG0.S.seq hC), _, rfl, by omega, by rw [hcl']; omega, ?_⟩
 have hcnt : (((cells.map V.int).length : Nat) : Int).toNat = cells.length := by rw [hcl']; omega
 rw [hcnt]
 have ok0 : (⟨[.nil], [], ns⟩ : Gs).Ok 0 := ⟨rfl, by simp [Gs.wt], by simp [Gs.n, Gs.wt, Bk.n], by show ns.length ≤ 9 + 0; omega, by simp [Gs.w]⟩
 refine za0 (PGrown H a b c lb lh ls more cells (zae more 0 cells ⟨[.nil], [], ns⟩)) ⟨none, none, none, none, none, _, _, _, rfl, hG0, ok0, rfl⟩ ?_ ?_
 ·rintro k σ H1 hk ⟨o6, o7, o8, o9, o10, g, vbs, vhs, rfl, hG, hok, hF⟩
  have hat : atI (cells.map V.int) (0 + (k : Int)) = some (.int cells[k]) := by
   rw [Int.zero_add]; exact zu (by rw [List.getElem?_map, List.getElem?_eq_getElem hk]; rfl)
  have hdrop : cells.drop k = cells[k] :: cells.drop (k + 1) := List.drop_eq_getElem_cons hk
  rw [hdrop] at hF
  have hF' : zae more 0 cells ⟨[.nil], [], ns⟩ = zae more (k + 1) (cells.drop (k + 1)) (v8 more k cells[k] g) := hF
  have hok' := zdq (more := more) (cell := cells[k]) hok
  have fin : ∀ σ' H' vbs' vhs', (∃ o6 o7 o8 o9 o10, σ' = [some (.ref a), some (.ref b), some (.ref c), some (.ref lb), some (.ref lh), some (.ref ls), o6, o7, o8, o9, o10]) → GRel H H' lb lh ls noM (v8 more k cells[k] g) vbs' vhs' → PGrown H a b c lb lh ls more cells (zae more 0 cells ⟨[.nil], [], ns⟩) (k + 1) σ' H' := fun σ' H' vbs' vhs' ⟨o6, o7, o8, o9, o10, e⟩ z => ⟨o6, o7, o8, o9, o10, _, _, _, e, z, hok', hF'⟩
  have hbl := plen hG.bs
  have hhl := plen hG.hs
  rw [List.length_reverse] at hbl hhl
  have hlen := hok.len
  have hwt := hok.wt
  have hnn := hok.n
  have hsc := hok.sc
  have hhs : g.hs.length ≤ g.wt := by
   have : ∀ l : List Hd, l.length ≤ (l.map Hd.wt).sum := fun l => by
    induction l with
    | nil => exact Nat.le_refl _
    | cons x l ih =>
     have : 1 ≤ x.wt := by cases x <;> simp [Hd.wt]
     rw [List.map_cons, List.sum_cons, List.length_cons]; omega
   exact this _
  refine ⟨_, rfl, _, rfl, _, _, _, _, rfl, rfl, hG.S.seq hC, hat, _, _, rfl, rfl, (by show (0 : Int) < _; decide), ?_⟩
  refine ⟨_, rfl, _, rfl, _, _, _, _, rfl, rfl, hG.S.seq hC, hat, _, rfl, _, _, rfl, rfl, zaz rfl, _, _, rfl, rfl, ?_⟩
  have hMl := hG.S _ _ hM
  refine ⟨_, rfl, _, rfl, ls, c, _, _, rfl, rfl, hG.es, hMl, by rw [sizeLine_eq, List.length_map, List.length_map]; omega, fun pn hpn => ?_⟩
  have Sn := ze hpn (.lst (g.sc.map V.str ++ more.map V.str))
  have en : upd H1 pn (.lst (g.sc.map V.str ++ more.map V.str)) pn = some (.lst ((g.sc ++ more).map V.str)) := by rw [zc, List.map_append]
  have hGn := hG.grow Sn
  generalize upd H1 pn (.lst (g.sc.map V.str ++ more.map V.str)) = H2 at en hGn
  have hnearl : (g.sc ++ more).length ≤ 1000 := by rw [List.length_append]; omega
  have esalt : cells[k] + 7919 * (0 + (k : Int)) = cells[k] + 7919 * (k : Int) := by rw [Int.zero_add]
  dsimp only
  rw [esalt]
  have eF : v8 more k cells[k] g = (if cells[k] % 9 < 3 then ⟨.nil :: g.bs, wq (cells[k] % 9) (cells[k] + 7919 * (k : Int)) (g.sc ++ more) :: g.hs, if cells[k] % 9 = 2 then g.sc ++ [jarF (cells[k] + 7919 * (k : Int)) (g.sc ++ more)] else g.sc⟩
   else if cells[k] % 9 < 6 ∧ g.hs ≠ [] then xr (cells[k] + 7919 * (k : Int)) g
   else if cells[k] % 9 < 8 ∧ g.sc ++ more ≠ [] then addF (.set (((g.sc ++ more)[(drw (cells[k] + 7919 * (k : Int)) 1091 ((g.sc ++ more).length : Int)).toNat]?).getD "") (sumF (cells[k] + 7919 * (k : Int)) (g.sc ++ more)) .nil) g
   else addF (.say (sumF (cells[k] + 7919 * (k : Int)) (g.sc ++ more)) .nil) g) := rfl
  rw [eF] at fin
  clear hok' hF hF' eF
  have w0 : 0 ≤ cells[k] % 9 := by omega
  generalize cells[k] % 9 = way at fin w0
  generalize cells[k] + 7919 * (k : Int) = salt at fin
  refine ⟨_, rfl, _, _, rfl, rfl, _, rfl, ?_⟩
  refine ite2 (fun c1 => ?_) (fun c1 => ?_)
  ·have c1' : way < 3 := of_decide_eq_true c1
   rw [if_pos c1'] at fin
   refine ⟨_, rfl, .inl ⟨rfl, _, SqL.of hGn.eh⟩, _, rfl, _, rfl, _, rfl, way, salt, pn, g.sc ++ more, rfl, en, hnearl, fun u H3 S3 hu => ?_⟩
   have hG3 := hGn.grow S3
   refine ⟨_, _, _, rfl, rfl, hG3.eh, by rw [sizeLine_eq]; omega, ?_⟩
   have eb4 : upd H3 lh (.lst (vhs ++ [u])) lb = some (.lst vbs) := by rw [zl hG3.ne1]; exact hG3.eb
   refine ⟨_, rfl, .inl ⟨rfl, _, SqL.of eb4⟩, Nat.zero_le _, fun p2 hp2 => ?_⟩
   have nb2 : lb ≠ p2 := fun z => by rw [← z, eb4] at hp2; cases hp2
   refine ⟨_, _, _, rfl, rfl, (by rw [zl nb2]; exact eb4), by rw [sizeLine_eq]; omega, ?_⟩
   have hG4 := hG3.push (hu _) hp2
   generalize upd (upd (upd H3 lh (.lst (vhs ++ [u]))) p2 (.lst [])) lb (.lst (vbs ++ [.ref p2])) = H4' at hG4
   refine ⟨_, rfl, rfl, _, rfl, ?_⟩
   refine ite2 (fun c2 => ?_) (fun c2 => ?_)
   ·have c2' : way = 2 := by injection (of_decide_eq_true c2)
    have eh2 : wq way salt (g.sc ++ more) = .wit (jarF salt (g.sc ++ more)) (sumF salt (g.sc ++ more)) := by
     unfold wq; rw [if_neg (by omega), if_neg (by omega)]
    rw [if_pos c2', eh2] at fin
    rw [eh2] at hG4
    have hsl := hG4.hs
    rw [List.reverse_append] at hsl
    cases hsl with
    | cons h1 _ =>
     cases h1 with
     | @wit aw x us sm ew hsm =>
      refine ⟨_, rfl, .inl ⟨rfl, _, SqL.of hG4.es⟩, _, rfl, _, rfl, _, _, _, _, rfl, rfl, SqL.of hG4.eh, za6 _ _, _, _, _, _, rfl, rfl, SqT.of ew, rfl, ?_⟩
      refine ⟨_, _, _, rfl, rfl, hG4.es, by rw [sizeLine_eq, List.length_map]; show g.sc.length < _; omega, ?_⟩
      have hS5 := hG4.scope (g.sc ++ [jarF salt (g.sc ++ more)])
      rw [List.map_append] at hS5
      exact fin _ _ _ _ ⟨_, _, _, _, _, rfl⟩ hS5
   ·have c2' : ¬ way = 2 := fun z => c2 (decide_eq_true (by rw [z]))
    rw [if_neg c2'] at fin
    exact fin _ _ _ _ ⟨_, _, _, _, _, rfl⟩ hG4
  have c1' : ¬ way < 3 := of_decide_eq_false (Bool.eq_false_iff.mpr c1)
  rw [if_neg c1'] at fin
  refine ⟨fun H' => Same H2 H' ∧ way < 6 ∧ g.hs ≠ [], fun H' => Same H2 H' ∧ ¬ (way < 6 ∧ g.hs ≠ []), ?_, ?_, ?_⟩
  ·refine ⟨_, rfl, _, _, rfl, rfl, _, rfl, ?_⟩
   refine ite2 (fun c2 => ?_) (fun c2 => ?_)
   ·refine ⟨_, rfl, Nat.zero_le _, fun p hp => ⟨_, _, _, rfl, rfl, SqL.of (ze hp _ _ _ hGn.eh), SqL.of zc, _, rfl, ?_⟩⟩
    have c2' : way < 6 := of_decide_eq_true c2
    by_cases hh : g.hs = []
    ·have : vhs = [] := List.length_eq_zero_iff.mp (by rw [hhl, hh]; rfl)
     subst this
     exact zo rfl ⟨ze hp _, fun z => z.2 hh⟩
    ·have : vhs.isEmpty = false := by
      cases vhs with
      | nil => exact absurd (List.length_eq_zero_iff.mp (by rw [← hhl]; rfl)) hh
      | cons _ _ => rfl
     exact qj (by rw [this]; rfl) ⟨ze hp _, c2', hh⟩
   ·have c2' : ¬ way < 6 := of_decide_eq_false (Bool.eq_false_iff.mpr c2)
    exact iteF ⟨fun _ _ z => z, fun z => c2' z.1⟩
  ·rintro H3 ⟨S3, c2, hh⟩
   rw [if_pos ⟨c2, hh⟩] at fin
   refine ⟨_, rfl, _, rfl, _, rfl, _, rfl, lb, lh, ls, salt, H, g, vbs, vhs, k, rfl, hGn.grow S3, hh, hok, by omega, by omega, by omega, fun H' vbs' vhs' z => ?_⟩
   exact fin _ _ _ _ ⟨_, _, _, _, _, rfl⟩ z
  ·rintro H3 ⟨S3, c2⟩
   rw [if_neg c2] at fin
   have hG3 := hGn.grow S3
   have en3 := S3 _ _ en
   obtain ⟨bs, hs, sc⟩ := g
   match bs, hlen with
   | b1 :: bs, hlen =>
   obtain ⟨vb2, p1, vs1, evb, hp1, hl1, hadd⟩ := hG3.top
   subst evb
   simp only [Gs.n, List.map_cons, List.sum_cons] at hnn
   refine ⟨fun H' => Same H3 H' ∧ way < 8 ∧ sc ++ more ≠ [], fun H' => Same H3 H' ∧ ¬ (way < 8 ∧ sc ++ more ≠ []), ?_, ?_, ?_⟩
   ·refine ⟨_, rfl, _, _, rfl, rfl, _, rfl, ?_⟩
    refine ite2 (fun c2 => ?_) (fun c2 => ?_)
    ·refine ⟨_, rfl, Nat.zero_le _, fun p hp => ⟨_, _, _, rfl, rfl, SqL.of (ze hp _ _ _ en3), SqL.of zc, _, rfl, ?_⟩⟩
     have c2' : way < 8 := of_decide_eq_true c2
     cases hh : sc ++ more with
     | nil =>
      exact zo rfl ⟨ze hp _, fun z => z.2 rfl⟩
     | cons _ _ =>
      exact qj rfl ⟨ze hp _, c2', by simp⟩
    ·have c2' : ¬ way < 8 := of_decide_eq_false (Bool.eq_false_iff.mpr c2)
     exact iteF ⟨fun _ _ z => z, fun z => c2' z.1⟩
   ·rintro H4 ⟨S4, c3, hh⟩
    rw [if_pos ⟨c3, hh⟩] at fin
    have en4 := S4 _ _ en3
    have hlp : (0 : Int) < ((sc ++ more).length : Int) := by
     have : (sc ++ more).length ≠ 0 := fun z => hh (List.length_eq_zero_iff.mp z)
     omega
    have hml2 : ((sc ++ more).map V.str).length = (sc ++ more).length := List.length_map _
    have hlp' : (0 : Int) < (((sc ++ more).map V.str).length : Int) := by rw [hml2]; exact hlp
    refine ⟨_, rfl, _, rfl, _, rfl, _, _, rfl, .inl (SqL.of en4), salt, 1091, _, rfl, by decide, hlp', ?_⟩
    rw [hml2]
    refine ⟨_, _, _, _, rfl, rfl, SqL.of en4, zfd (wk hlp) (zar hlp), ?_⟩
    refine ⟨_, rfl, _, rfl, _, _, _, _, rfl, rfl, SqL.of (S4 _ _ hG3.eb), za6 _ _, .inl ⟨rfl, _, SqL.of (S4 _ _ hp1)⟩, _, rfl, _, rfl, _, rfl, salt, pn, sc ++ more, rfl, SqL.of en4, fun u H5 S5 hu => ⟨three, fun p2 hp2 => ?_⟩⟩
    have S6 := ze hp2 (.tup [.str "set", .str (((sc ++ more)[(drw salt 1091 ((sc ++ more).length : Int)).toNat]?).getD ""), u])
    have S36 := S4.trans (S5.trans S6)
    refine ⟨_, _, _, rfl, rfl, S36 _ _ hp1, by rw [sizeLine_eq]; omega, ?_⟩
    refine fin _ _ _ _ ⟨_, _, _, _, _, rfl⟩ (hadd _ S36 [.ref p2] _ ?_)
    exact .set zc (hu.mono S6.tup) .nil
   ·rintro H4 ⟨S4, c3⟩
    rw [if_neg c3] at fin
    have en4 := S4 _ _ en3
    refine ⟨_, rfl, _, rfl, _, _, _, _, rfl, rfl, SqL.of (S4 _ _ hG3.eb), za6 _ _, .inl ⟨rfl, _, SqL.of (S4 _ _ hp1)⟩, _, rfl, _, rfl, salt, pn, sc ++ more, rfl, SqL.of en4, fun u H5 S5 hu => ⟨two, fun p2 hp2 => ?_⟩⟩
    have S6 := ze hp2 (.tup [.str "say", u])
    have S36 := S4.trans (S5.trans S6)
    refine ⟨_, _, _, rfl, rfl, S36 _ _ hp1, by rw [sizeLine_eq]; omega, ?_⟩
    refine fin _ _ _ _ ⟨_, _, _, _, _, rfl⟩ (hadd _ S36 [.ref p2] _ ?_)
    exact .say zc (hu.mono S6.tup) .nil
 ·rintro σ H1 ⟨o6, o7, o8, o9, o10, g, vbs, vhs, rfl, hG, hok, hF⟩
  rw [List.drop_length] at hF
  have hF' : zae more 0 cells ⟨[.nil], [], ns⟩ = g := hF
  have ok100 : g.Ok 100 := ⟨hok.len, by have := hok.wt; omega, by have := hok.n; omega, by have := hok.sc; omega, hok.wl⟩
  have eG : v6 cells ns more = (match (wm 400 g).bs with | b :: _ => b | [] => .nil) := by
   unfold v6
   rw [hF']
   all_goals rfl
  refine ⟨WGrown H a b c lb lh ls g, ⟨g.wt, o6, o7, o8, o9, o10, g, vbs, vhs, 400, rfl, hG, ok100, rfl, by have := ok100.wt; omega, rfl⟩, ?_⟩
  rintro m σ H2 ⟨o6, o7, o8, o9, o10, g2, vbs2, vhs2, j, rfl, hG2, hok2, hj, hwj, rfl⟩
  have hbl := plen hG2.bs
  have hhl := plen hG2.hs
  rw [List.length_reverse] at hbl hhl
  have hlen := hok2.len
  have hwt := hok2.wt
  have hhs : g2.hs.length ≤ g2.wt := by
   have : ∀ l : List Hd, l.length ≤ (l.map Hd.wt).sum := fun l => by
    induction l with
    | nil => exact Nat.le_refl _
    | cons x l ih =>
     have : 1 ≤ x.wt := by cases x <;> simp [Hd.wt]
     rw [List.map_cons, List.sum_cons, List.length_cons]; omega
   exact this _
  refine ⟨_, rfl, Nat.zero_le _, fun p hp => ⟨_, _, _, rfl, rfl, SqL.of (ze hp _ _ _ hG2.eh), SqL.of zc, _, rfl, ?_⟩⟩
  have hG3 := hG2.grow (ze hp (.lst []))
  generalize upd H2 p (.lst []) = H3 at hG3
  by_cases hh : g2.hs = []
  ·have ev : vhs2 = [] := List.length_eq_zero_iff.mp (by rw [hhl, hh]; rfl)
   subst ev
   refine zo rfl ?_
   rw [zbi j g2 hh] at hj
   rw [hj] at eG
   obtain ⟨bs, hs, sc⟩ := g2
   match bs, hlen with
   | [b1], hlen =>
    have eG' : v6 cells ns more = b1 := eG
    have hb1 := hG3.bs
    obtain ⟨vb2, v, evb, hv, hr2⟩ := prev hb1
    have ev2 : vb2 = [] := by
     have := plen hr2
     rw [List.length_reverse] at this
     exact List.length_eq_zero_iff.mp (by rw [this]; rfl)
    subst ev2
    subst evb
    obtain ⟨pb, vs, rfl, n1, n2, n3, h0, ep, hb⟩ := hv
    refine ⟨_, rfl, _, _, rfl, .inl (SqL.of (hG3.S _ _ hN)), fun pl hpl => ?_⟩
    have S4 := ze hpl (.lst (ns.map V.str))
    refine ⟨_, rfl, _, _, _, _, rfl, rfl, SqL.of (S4 _ _ hG3.eb), at0, two, fun r hr' => ?_⟩
    have S5 := ze hr' (.tup [.ref pl, .ref pb])
    have S45 := S4.trans S5
    refine q r pl pb vs _ (hG3.S.trans S45) zc (S5 _ _ zc) (S45 _ _ ep) ?_
    rw [eG']
    exact hb.mono (.of S45) S45.tup fun _ _ z => z.elim
   | [], hlen => simp at hlen
   | _ :: _ :: _, hlen => rw [hh] at hlen; simp at hlen
  ·have ev : vhs2.isEmpty = false := by
    cases vhs2 with
    | nil => exact absurd (List.length_eq_zero_iff.mp (by rw [← hhl]; rfl)) hh
    | cons _ _ => rfl
   refine qj (by rw [ev]; rfl) ?_
   refine ⟨fun σ' H'' => ∃ m', m' < g2.wt ∧ WGrown H a b c lb lh ls g m' σ' H'', fun σ' H'' z => z, ?_⟩
   obtain ⟨okc, wtc⟩ := za3 (salt := 1) hok2 hh
   refine ⟨_, rfl, _, rfl, _, rfl, lb, lh, ls, 1, H, g2, vbs2, vhs2, 100, rfl, hG3, hh, hok2, by omega, by omega, by omega, fun H' vbs' vhs' z => ?_⟩
   match j, hwj, hj with
   | 0, hwj, _ => omega
   | j + 1, hwj, hj =>
    exact ⟨(xr 1 g2).wt, by omega, o6, o7, o8, o9, o10, xr 1 g2, vbs', vhs', j, rfl, z, okc, hj, by omega, rfl⟩
end
open PySem L2 J
section
variable {P : Program} {w : World} {K : W.Frag} {mg : Str → Option Value} {base : Heap}
noncomputable def spNames : Sp := fun vs H Q _ => ∃ cell : Int, vs = [.int cell] ∧ ∀ (p : Addr) (ns : List Str) (H' : Hp), Same H H' → H p = none → H' p = some (.lst (ns.map V.str)) → ns.length ≤ 9 → (∀ x ∈ ns, x.length ≤ 100) → Q (.ref p) H'
noncomputable def PNames1 (H : Hp) (cell : Int) (D : Addr) (k : Nat) (σ : St) (H' : Hp) : Prop :=
 ∃ o2 o3 o4 ys, σ = [some (.int cell), some (.ref D), o2, o3, o4, none, none, none] ∧ Same H H' ∧ H' D = some (.lst (List.map V.str ys)) ∧ ys.length = k ∧ ∀ x ∈ ys, x.length ≤ 100
noncomputable def PNames2 (H : Hp) (cell size spot : Int) (D : Addr) (n k : Nat) (σ : St) (H' : Hp) : Prop :=
 ∃ o2 o3 o4 ys, σ = [some (.int cell), some (.ref D), o2, o3, o4, some (.int size), some (.int spot), some (.str "abcdefghijklmnopqrstuvwxyz")] ∧ Same H H' ∧ H' D = some (.lst (List.map V.str ys)) ∧ ys.length = n ∧ ∀ x ∈ ys, x.length ≤ 100
theorem nk3 {k : Nat} (h : k < 9) : 0 ≤ (0 + (k : Int)) / 4 ∧ (0 + (k : Int)) / 4 ≤ 2 := by omega
theorem nrl {i : Int} (h0 : 0 ≤ i) (h2 : i ≤ 2) : (repS "g" (i * 3)).length ≤ 6 := by
 have h : i = 0 ∨ i = 1 ∨ i = 2 := by omega
 rcases h with h | h | h <;> rw [h] <;> decide +kernel
theorem n8 (c : Int) : c % 8 = 0 ∨ c % 8 = 1 ∨ c % 8 = 2 ∨ c % 8 = 3 ∨ c % 8 = 4 ∨ c % 8 = 5 ∨ c % 8 = 6 ∨ c % 8 = 7 := by omega
theorem n26 (c : Int) : 0 ≤ c % 26 ∧ c % 26 < 26 := by omega
theorem ok_law_names_of (T : Txt K mg) : FnOk P w K mg base CX0 1 T.f_law_names_of T.fd_law_names_of ["_law_cell"] spNames := by
 refine T.law_names_of.F.ok qw (fun vs H Q E h => ?_) (fun cdv A outer s H vs Q E hr h => ?_)
 ·obtain ⟨cell, rfl, _⟩ := h; rfl
 obtain ⟨cell, rfl, q⟩ := h
 refine ⟨_, (zf (zx (i := 1) qw.nd rfl (Or.inl rfl) (ql zb))
  (zf (zao PassesOwn.never rfl (wx rfl T.b_range (za (zn qp (ql (za zd (za zd (za zd (za zd (za zd (za zd (za zd (za zd zb))))))))) (zy jo (pv 0) zd) (fun _ _ => rfl)) zb)) (vj (i := 2) qw.nd rfl (Or.inl rfl)) (zf (zx (i := 3) qw.nd rfl (Or.inl rfl) (zn ix_str zi (zy jo (zy jg (zy wv (pv 0) zd) (zy vk (zy vk zd (pv 2)) (j0 zev rfl T.b_int zgf (za (wu zfq (zy jo (pv 0) zd) zd (zp _)) zb)))) zd) (fun _ _ => rfl)))
  (zf (zx (i := 4) qw.nd rfl (Or.inl rfl) (zy zbb (zn qp (ql (za zi (za zi (za zi (za zi zb))))) (zy jo (pv 2) zd) (fun _ _ => rfl)) (zy op_rep_str zi (zy vk (zy wv (pv 2) zd) zd))))
  (zg (qc (qx F.plainAttrs_list F.slot_list_append F.type_list_append qo (pv 1) (za (zy zbb (pv 3) (zn qp (ql (za (pv 4) (za zi zb))) (j0 zev rfl T.b_int zgf (za (wu qi (zy jo (pv 0) zd) zd (zp _)) zb)) (fun _ _ => rfl))) zb)))))))
  (ve (z0 (PW.pt (zbq (zj qi (zy jo (zy wv (pv 0) zd) zd) zd (zp _)) (za8 (zj zfq (zy jo (pv 0) zd) zd (zp _))))) (zf (zx (i := 5) qw.nd rfl (Or.inl rfl) (zy jg zd (zy jo (zy wv (pv 0) zd) zd)))
  (zf (zx (i := 6) qw.nd rfl (Or.inl rfl) (zy jo (zy wv (pv 0) zd) (pv 5)))
  (zf (zx (i := 7) qw.nd rfl (Or.inl rfl) zi)
  (zg (zao PassesOwn.never rfl (wx rfl T.b_range (za (qk qa rfl T.b_len PySem.boot_len (za (pv 1) zb)) zb)) (vj (i := 2) qw.nd rfl (Or.inl rfl)) (zf (zx (i := 3) qw.nd rfl (Or.inl rfl) (zn ix_str (pv 7) (zy jo (zy jg (zy wv (pv 0) zd) (zy vk zd (pv 2))) zd) (fun _ _ => rfl)))
  (zg (zdw (zy zbb (zy zbb (kj sl_str zi zba (kh (pv 6))) (pv 3)) (kj sl_str zi (kh (zy jg (pv 6) zd)) (kh (pv 5)))) (zdy (pv 1) (pv 2) zbn))))))))) zv)
  (zg (zr (pv 1)))))), ?_⟩
 try dsimp only[kx,kxb]
 have two : (2 : Nat) ≤ sizeLine := by decide
 have four : (4 : Nat) ≤ sizeLine := by decide
 have eight : (8 : Nat) ≤ sizeLine := by decide
 refine ⟨Nat.zero_le _, fun D hD => ?_⟩
 have S0 := ze hD (.lst [])
 have eD : upd H D (.lst []) D = some (.lst (List.map V.str [])) := zc
 generalize upd H D (.lst []) = H1 at S0 eD
 have hn : ∃ n : Nat, n ≤ 9 ∧ atI [V.int 0, V.int 1, V.int 2, V.int 3, V.int 4, V.int 5, V.int 6, V.int 9] (cell % 8) = some (.int n) := by
  have h8 : cell % 8 = 0 ∨ cell % 8 = 1 ∨ cell % 8 = 2 ∨ cell % 8 = 3 ∨ cell % 8 = 4 ∨ cell % 8 = 5 ∨ cell % 8 = 6 ∨ cell % 8 = 7 := n8 cell
  rcases h8 with h | h | h | h | h | h | h | h <;> rw [h]
  ·exact ⟨0, by decide, rfl⟩
  ·exact ⟨1, by decide, rfl⟩
  ·exact ⟨2, by decide, rfl⟩
  ·exact ⟨3, by decide, rfl⟩
  ·exact ⟨4, by decide, rfl⟩
  ·exact ⟨5, by decide, rfl⟩
  ·exact ⟨6, by decide, rfl⟩
  ·exact ⟨9, by decide, rfl⟩
 obtain ⟨n, hn9, hat⟩ := hn
 refine ⟨eight, fun pr hpr => ⟨_, rfl, _, _, rfl, rfl, (by show (0 : Int) < _; decide), _, _, _, _, rfl, rfl, SqL.of zc, hat, _, rfl, by omega, by omega, ?_⟩⟩
 have hcnt : ((n : Nat) : Int).toNat = n := rfl
 rw [hcnt]
 have S1 := ze hpr (.lst [V.int 0, V.int 1, V.int 2, V.int 3, V.int 4, V.int 5, V.int 6, V.int 9])
 refine za0 (PNames1 H cell D) ⟨none, none, none, [], rfl, S0.trans S1, S1 _ _ eD, rfl, fun x hx => by simp at hx⟩ ?_ ?_
 ·rintro k σ H2 hk ⟨o2, o3, o4, ys, rfl, S, hys, hlen, hsm⟩
  obtain ⟨ch, hch⟩ := atI_any (l := (PySem.Str.ofString "abcdefghijklmnopqrstuvwxyz").cps.toList) (i := (cell / 5 + 7 * (0 + (k : Int)) * (if decide (0 < cell % 3) = true then 1 else 0)) % 26) (n26 _).1 (by
   have : (PySem.Str.ofString "abcdefghijklmnopqrstuvwxyz").cps.toList.length = 26 := by decide +kernel
   rw [this]; exact (n26 _).2)
  refine ⟨_, rfl, _, _, rfl, rfl, cdiv rfl, _, rfl, _, _, rfl, rfl, zaz rfl, _, rfl, _, _, rfl, rfl, (by show (0 : Int) < _; decide), _, _, rfl, rfl, .inr ⟨_, rfl, _, _, rfl, rfl, (by split <;> exact zbe rfl), _, _, rfl, rfl, _, _, rfl, rfl, (by show (0 : Int) < _; decide), _, _, ch, rfl, rfl, by decide, hch, ?_⟩⟩
  have hm : ∃ z : Str, z.length ≤ 7 ∧ atI [V.str "", V.str "g", V.str "gh", V.str "ghijklm"] ((0 + (k : Int)) % 4) = some (.str z) := by
   have h4 : (0 + (k : Int)) % 4 = 0 ∨ (0 + (k : Int)) % 4 = 1 ∨ (0 + (k : Int)) % 4 = 2 ∨ (0 + (k : Int)) % 4 = 3 := by omega
   rcases h4 with h | h | h | h <;> rw [h]
   ·exact ⟨_, by decide, rfl⟩
   ·exact ⟨_, by decide, rfl⟩
   ·exact ⟨_, by decide, rfl⟩
   ·exact ⟨_, by decide, rfl⟩
  obtain ⟨z, hz, hzat⟩ := hm
  have hk3 : 0 ≤ (0 + (k : Int)) / 4 ∧ (0 + (k : Int)) / 4 ≤ 2 := nk3 (by omega)
  have hrl : (repS "g" ((0 + (k : Int)) / 4 * 3)).length ≤ 6 := nrl hk3.1 hk3.2
  refine ⟨four, fun p1 hp1 => ⟨_, rfl, _, _, rfl, rfl, (by show (0 : Int) < _; decide), _, _, _, _, rfl, rfl, SqL.of zc, hzat, _, rfl, _, _, rfl, rfl, cdiv rfl, _, _, rfl, rfl, zbe rfl, _, _, rfl, rfl, ⟨by omega, by omega, by decide⟩, by rw [sizeLine_eq]; omega, _, _, rfl, rfl, by rw [sizeLine_eq]; omega, ?_⟩⟩
  have S2 := ze hp1 (.lst [V.str "", V.str "g", V.str "gh", V.str "ghijklm"])
  have hys2 := S2 _ _ hys
  have SS := S.trans S2
  generalize upd H2 p1 (.lst [V.str "", V.str "g", V.str "gh", V.str "ghijklm"]) = H3 at hys2 SS
  have hml : (z ++ repS "g" ((0 + (k : Int)) / 4 * 3)).length ≤ 13 := by rw [Str.length_append]; omega
  generalize z ++ repS "g" ((0 + (k : Int)) / 4 * 3) = mo at hml
  have hw : ∃ y : Str, y.length ≤ 13 ∧ atI [V.str mo, V.str ""] (if decide (V.int (cell % 3) = V.int 2) = true then 1 else 0) = some (.str y) := by
   split
   ·exact ⟨_, by decide, rfl⟩
   ·exact ⟨mo, hml, rfl⟩
  obtain ⟨y, hy, hyat⟩ := hw
  refine ⟨_, rfl, .inl ⟨rfl, _, SqL.of hys2⟩, _, rfl, _, rfl, two, fun p2 hp2 => ⟨_, rfl, _, _, rfl, rfl, (by show (0 : Int) < _; decide), rfl, .inr ⟨_, rfl, _, _, _, _, rfl, rfl, SqL.of zc, hyat, _, _, rfl, rfl, ?_, ?_⟩⟩⟩
  ·rw [sizeLine_eq]; show 1 + y.length ≤ _; omega
  have S3 := ze hp2 (.lst [V.str mo, V.str ""])
  refine ⟨_, _, _, rfl, rfl, S3 _ _ hys2, by rw [List.length_map, hlen, sizeLine_eq]; omega, ?_⟩
  refine ⟨_, _, _, ys ++ [⟨#[ch]⟩ ++ y], rfl, Same.at (SS.trans S3) (by first | exact hD | exact S0.free hD) _, ?_, ?_, ?_⟩
  ·rw [zc, List.map_append]; rfl
  ·rw [List.length_append, hlen]; rfl
  ·intro x hx
   rcases List.mem_append.mp hx with hx | hx
   ·exact hsm x hx
   ·have := List.mem_singleton.mp hx
    subst this
    rw [Str.length_append]
    show 1 + y.length ≤ 100
    omega
 ·rintro σ H2 ⟨o2, o3, o4, ys, rfl, S, hys, hlen, hsm⟩
  refine ⟨fun σ' H' => ∃ o2 o3 o4 o5 o6 o7 ys, σ' = [some (.int cell), some (.ref D), o2, o3, o4, o5, o6, o7] ∧ Same H H' ∧ H' D = some (.lst (List.map V.str ys)) ∧ ys.length = n ∧ ∀ x ∈ ys, x.length ≤ 100, ?_, ?_⟩
  ·refine ⟨_, rfl, _, _, rfl, rfl, cdiv rfl, _, _, rfl, rfl, (by show (0 : Int) < _; decide), rfl, _, rfl, ?_⟩
   have hB : ∃ (o2' o3' o4' o5' o6' o7' : Option V) (ys' : List Str), [some (V.int cell), some (.ref D), o2, o3, o4, none, none, none] = [some (V.int cell), some (.ref D), o2', o3', o4', o5', o6', o7'] ∧ Same H H2 ∧ H2 D = some (.lst (List.map V.str ys')) ∧ ys'.length = n ∧ ∀ x ∈ ys', x.length ≤ 100 := ⟨_, _, _, _, _, _, ys, rfl, S, hys, hlen, hsm⟩
   ·refine ite2 (fun c => ?_) (fun c => iteF hB)
    refine ⟨_, rfl, _, _, rfl, rfl, (by show (0 : Int) < _; decide), _, _, rfl, rfl, _, rfl, ?_⟩
    refine ite2 (fun c => ?_) (fun c => hB)
    clear hB
    have hpos : (0 : Int) < 1 + cell / 480 % 6 := by omega
    refine ⟨_, rfl, _, _, rfl, rfl, cdiv rfl, _, _, rfl, rfl, (by show (0 : Int) < _; decide), _, _, rfl, rfl, ?_⟩
    refine ⟨_, rfl, _, _, rfl, rfl, cdiv rfl, _, rfl, _, _, rfl, rfl, hpos, ?_⟩
    refine ⟨_, rfl, _, _, rfl, .inl (SqL.of hys), _, rfl, by omega, by rw [List.length_map]; omega, ?_⟩
    have hcnt2 : (((List.map V.str ys).length : Nat) : Int).toNat = n := by rw [List.length_map, hlen]; rfl
    rw [hcnt2]
    refine za0 (PNames2 H cell (1 + cell / 480 % 6) (cell / 2880 % (1 + cell / 480 % 6)) D n) ⟨_, _, _, ys, rfl, S, hys, hlen, hsm⟩ ?_ ?_
    ·rintro k σ H3 hk ⟨o2, o3, o4, ys, rfl, S, hys, hlen, hsm⟩
     obtain ⟨ch, hch⟩ := atI_any (l := (PySem.Str.ofString "abcdefghijklmnopqrstuvwxyz").cps.toList) (i := (cell / 5 + 7 * (0 + (k : Int))) % 26) (n26 _).1 (by
      have : (PySem.Str.ofString "abcdefghijklmnopqrstuvwxyz").cps.toList.length = 26 := by decide +kernel
      rw [this]; exact (n26 _).2)
     refine ⟨_, rfl, _, rfl, _, _, rfl, rfl, cdiv rfl, _, rfl, _, _, rfl, rfl, zaz rfl, _, _, rfl, rfl, _, _, rfl, rfl, (by show (0 : Int) < _; decide), _, _, ch, rfl, rfl, by decide, hch, ?_⟩
     refine ⟨_, rfl, _, rfl, _, rfl, by decide, _, rfl, _, _, rfl, rfl, ?_, ?_⟩
     ·exact Nat.le_trans (Nat.add_le_add_right (Txt.slice_le _ _ _) _) (by show (PySem.Str.ofString "ghijkl").length + 1 ≤ sizeLine; decide)
     refine ⟨_, rfl, _, _, rfl, rfl, _, rfl, _, rfl, _, rfl, _, rfl, by decide, _, _, rfl, rfl, ?_, ?_⟩
     ·have l1 := Txt.slice_le "ghijkl" none (some (cell / 2880 % (1 + cell / 480 % 6)))
      have l2 := Txt.slice_le "ghijkl" (some (cell / 2880 % (1 + cell / 480 % 6) + 1)) (some (1 + cell / 480 % 6))
      have l3 : (PySem.Str.ofString "ghijkl").length = 6 := by decide
      have l4 : (⟨#[ch]⟩ : Str).length = 1 := rfl
      rw [Str.length_append, sizeLine_eq]
      rw [l3] at l1 l2
      omega
     refine ⟨_, rfl, _, rfl, D, _, _, k, rfl, rfl, hys, ?_, ?_⟩
     ·unfold ixN
      rw [List.length_map, hlen]
      simp
      omega
     refine ⟨_, _, _, ys.set k (Txt.slice "ghijkl" none (some (cell / 2880 % (1 + cell / 480 % 6))) ++ ⟨#[ch]⟩ ++ Txt.slice "ghijkl" (some (cell / 2880 % (1 + cell / 480 % 6) + 1)) (some (1 + cell / 480 % 6))), rfl, Same.at S hD _, ?_, by rw [List.length_set, hlen], ?_⟩
     ·rw [zc, List.map_set]
     ·intro x hx
      rcases List.mem_or_eq_of_mem_set hx with hx | hx
      ·exact hsm x hx
      ·subst hx
       have l1 := Txt.slice_le "ghijkl" none (some (cell / 2880 % (1 + cell / 480 % 6)))
       have l2 := Txt.slice_le "ghijkl" (some (cell / 2880 % (1 + cell / 480 % 6) + 1)) (some (1 + cell / 480 % 6))
       have l3 : (PySem.Str.ofString "ghijkl").length = 6 := by decide
       have l4 : (⟨#[ch]⟩ : Str).length = 1 := rfl
       rw [Str.length_append, Str.length_append]
       rw [l3] at l1 l2
       omega
    ·rintro σ H3 ⟨o2, o3, o4, ys, rfl, S, hys, hlen, hsm⟩
     exact ⟨_, _, _, _, _, _, ys, rfl, S, hys, hlen, hsm⟩
  ·rintro σ' H' ⟨o2, o3, o4, o5, o6, o7, ys, rfl, S, hys, hlen, hsm⟩
   exact ⟨_, rfl, q D ys H' S hD hys (by omega) hsm⟩
end
open PySem L2 J
section
variable {P : Program} {w : World} {K : W.Frag} {mg : Str → Option Value} {base : Heap}
noncomputable def spAlike (K : W.Frag) : Sp := fun vs H Q _ => ∃ (u v : V) (n : Nat), vs = [u, v] ∧ AlkL K H [u] [v] n ∧ n ≤ 10000000 ∧ ∀ H', Same H H' → Q (.bl true) H'
noncomputable def WAlike (K : W.Frag) (H : Hp) (u v : V) (l r : Addr) (n m : Nat) (σ : St) (H' : Hp) : Prop :=
 ∃ left right o4 o5, σ = [some u, some v, some (.ref l), some (.ref r), o4, o5] ∧ Same H H' ∧ H' l = some (.lst left) ∧ H' r = some (.lst right) ∧ AlkL K H left right m ∧ m ≤ n
theorem ok_law_alike (T : Txt K mg) : FnOk P w K mg base CX0 2 T.f_law_alike T.fd_law_alike ["_law_found", "_law_due"] (spAlike K) := by
 have G_law_whole := ok_law_whole (P := P) (w := w) (base := base) T
 refine T.law_alike.F.ok vi (fun vs H Q E h => ?_) (fun cdv A outer s H vs Q E hr h => ?_)
 ·obtain ⟨u, v, n, rfl, _⟩ := h; rfl
 obtain ⟨u, v, n, rfl, ha, hn, q⟩ := h
 refine ⟨_, (zf (zx (i := 2) vi.nd rfl (Or.inl rfl) (ql (za (pv 0) zb)))
  (zf (zx (i := 3) vi.nd rfl (Or.inl rfl) (ql (za (pv 1) zb)))
  (zf (zbr PassesOwn.never (zj (zax hr.units0) (pv 3) (ql zb) (zp _)) (zf (zx (i := 4) vi.nd rfl (Or.inl rfl) (wg F.plainAttrs_list F.slot_list_pop F.type_list_pop wj (pv 2)))
  (zf (zx (i := 5) vi.nd rfl (Or.inl rfl) (wg F.plainAttrs_list F.slot_list_pop F.type_list_pop wj (pv 3)))
  (zg (z0 (ki (qk call_isiTP rfl T.b_isinstance qt (za (pv 5) (za (qb (za (j3 (v := .ty "list") rfl T.b_list j4 rfl) (za (j3 (v := .ty "tuple") rfl T.b_tuple zc1 rfl) zb))) zb)))) (zf (z0 (zj zdz (qk jb rfl T.b_isinstance qt (za (pv 4) (za (j3 (v := .ty "list") rfl T.b_list j4 rfl) zb))) (qk jb rfl T.b_isinstance qt (za (pv 5) (za (j3 (v := .ty "list") rfl T.b_list j4 rfl) zb))) (zp _)) (zg (zr zb9)) zv)
  (zf (z0 (PW.pt (zct (zj zdz (qk jb rfl T.b_isinstance qt (za (pv 4) (za (j3 (v := .ty "tuple") rfl T.b_tuple zc1 rfl) zb))) (qk jb rfl T.b_isinstance qt (za (pv 5) (za (j3 (v := .ty "tuple") rfl T.b_tuple zc1 rfl) zb))) (zp _)) (zbp (zj zdz (qk qa rfl T.b_len PySem.boot_len (za (pv 4) zb)) (qk qa rfl T.b_len PySem.boot_len (za (pv 5) zb)) (zp _))))) (zg (zr zb9)) zv)
  (zf (qc (qx F.plainAttrs_list F.slot_list_extend F.type_list_extend qz (pv 2) (za (pv 4) zb)))
  (zg (qc (qx F.plainAttrs_list F.slot_list_extend F.type_list_extend qz (pv 3) (za (pv 5) zb))))))) (zg (z0 (ki (qk jb rfl T.b_isinstance qt (za (pv 5) (za (j3 (v := .ty "str") rfl T.b_str bt_str rfl) zb)))) (zg (z0 (PW.pt (zct (za9 (ki (qk jb rfl T.b_isinstance qt (za (pv 4) (za (j3 (v := .ty "str") rfl T.b_str bt_str rfl) zb))))) (zbp (zj zdz (pv 4) (pv 5) (zp _))))) (zg (zr zb9)) zv)) (zg (z0 (PW.pt (zct (za9 (ki (zk G_law_whole hr rfl T.law_whole.m T.law_whole.F.kp T.law_whole.b .nil zq (za (pv 4) zb)))) (zbp (zj zdz (pv 4) (pv 5) (zp _))))) (zg (zr zb9)) zv)))))))))
  (zg (zr zb9))))), ?_⟩
 try dsimp only[kx,kxb]
 have one : (1 : Nat) ≤ sizeLine := by decide
 refine ⟨_, rfl, one, fun l hl => ?_⟩
 refine ⟨_, rfl, one, fun r hr' => ?_⟩
 have S1 : Same H (upd H l (.lst [u])) := ze hl _
 have S2 : Same (upd H l (.lst [u])) (upd (upd H l (.lst [u])) r (.lst [v])) := ze hr' _
 have hlr : l ≠ r := zt zc hr'
 have hrH : H r = none := S1.free hr'
 refine ⟨WAlike K H u v l r n, ⟨n, [u], [v], none, none, rfl, S1.trans S2, S2 _ _ zc, zc, ha, Nat.le_refl _⟩, ?_⟩
 rintro m σ H' ⟨left, right, o4, o5, rfl, S, hL, hR, hk, hm⟩
 refine ⟨_, rfl, Nat.zero_le _, fun p hp => ?_⟩
 have Sp : Same H' (upd H' p (.lst [])) := ze hp _
 refine ⟨_, _, _, rfl, rfl, SqL.of (Sp _ _ hR), SqL.of zc, _, rfl, ?_⟩
 rcases hk.last with ⟨rfl, rfl⟩ | ⟨xs', ys', x, y, m1, k1, rfl, rfl, h1, h2, rfl⟩
 ·exact zo rfl (q _ (S.trans Sp))
 refine qj (by simp) ?_
 refine ⟨fun σ' H'' => ∃ m', m' < m1 + k1 ∧ WAlike K H u v l r n m' σ' H'', fun σ' H'' z => z, ?_⟩
 have SH1 : Same H (upd H' p (.lst [])) := S.trans Sp
 have hL1 := Sp _ _ hL
 have hR1 := Sp _ _ hR
 generalize upd H' p (.lst []) = H1 at SH1 hL1 hR1
 refine ⟨_, rfl, .inl ⟨rfl, _, SqL.of hL1⟩, _, _, _, rfl, rfl, hL1, xu xs' x, ?_⟩
 refine ⟨_, rfl, .inl ⟨rfl, _, SqL.of (by rw [zl hlr.symm]; exact hR1)⟩, _, _, _, rfl, rfl, (by rw [zl hlr.symm]; exact hR1), xu ys' y, ?_⟩
 rw [List.dropLast_concat, List.dropLast_concat]
 have SH3 : Same H (upd (upd H1 l (.lst xs')) r (.lst ys')) := Same.at (Same.at SH1 hl _) hrH _
 have hL3 : upd (upd H1 l (.lst xs')) r (.lst ys') l = some (.lst xs') := by rw [zl hlr]; exact zc
 have hR3 : upd (upd H1 l (.lst xs')) r (.lst ys') r = some (.lst ys') := zc
 generalize upd (upd H1 l (.lst xs')) r (.lst ys') = H3 at SH3 hL3 hR3
 have two : (2 : Nat) ≤ sizeLine := by decide
 refine ⟨_, rfl, two, fun p3 hp3 => ?_⟩
 have S3 : Same H3 (upd H3 p3 (.tup [V.ty "list", V.ty "tuple"])) := ze hp3 _
 have SH4 := SH3.trans S3
 have hL4 := S3 _ _ hL3
 have hR4 := S3 _ _ hR3
 have hT4 : upd H3 p3 (.tup [V.ty "list", V.ty "tuple"]) p3 = some (.tup (["list", "tuple"].map V.ty)) := zc
 cases h2 with
 | int i =>
  refine ⟨_, "int", _, ["list", "tuple"], false, rfl, .inl (.int i), hT4, by decide +kernel, _, rfl, zo rfl ?_⟩
  refine ⟨_, rfl, _, "int", _, false, rfl, .inl (.int i), by decide +kernel, _, rfl, zo rfl ?_⟩
  refine ⟨_, rfl, i, rfl, _, rfl, zo rfl ?_⟩
  refine ⟨_, rfl, _, rfl, rfl, _, rfl, zo (by simp) ?_⟩
  exact ⟨m1, by omega, xs', ys', _, _, rfl, SH4, hL4, hR4, h1, by omega⟩
 | str z =>
  refine ⟨_, "str", _, ["list", "tuple"], false, rfl, .inl (.str z), hT4, by decide +kernel, _, rfl, zo rfl ?_⟩
  refine ⟨_, rfl, _, "str", _, true, rfl, .inl (.str z), by decide +kernel, _, rfl, qj rfl ?_⟩
  refine ⟨_, rfl, _, "str", _, true, rfl, .inl (.str z), by decide +kernel, _, rfl, zo rfl ?_⟩
  refine ⟨_, rfl, _, rfl, rfl, _, rfl, zo (by simp) ?_⟩
  exact ⟨m1, by omega, xs', ys', _, _, rfl, SH4, hL4, hR4, h1, by omega⟩
 | @tup a b us vs k e1 e2 h3 =>
  have f1 := e1.mono SH4.tup
  have f2 := e2.mono SH4.tup
  have lens := h3.len
  have lens1 := h1.len
  refine ⟨_, "tuple", _, ["list", "tuple"], true, rfl, .inr ⟨rfl, _, _, rfl, f2⟩, hT4, by decide +kernel, _, rfl, qj rfl ?_⟩
  refine ⟨_, rfl, _, "tuple", _, false, rfl, .inr ⟨rfl, _, _, rfl, f1⟩, by decide +kernel, _, rfl, _, "tuple", _, false, rfl, .inr ⟨rfl, _, _, rfl, f2⟩, by decide +kernel, rfl, _, rfl, zo rfl ?_⟩
  refine ⟨_, rfl, _, "tuple", _, true, rfl, .inr ⟨rfl, _, _, rfl, f1⟩, by decide +kernel, _, rfl, _, "tuple", _, true, rfl, .inr ⟨rfl, _, _, rfl, f2⟩, by decide +kernel, rfl, _, rfl, zo rfl ?_⟩
  refine ⟨_, rfl, _, _, rfl, .inr (f1.sq), _, rfl, _, _, rfl, .inr (f2.sq), rfl, _, rfl, zo (by rw [lens.1]; simp) ?_⟩
  refine ⟨_, rfl, .inl ⟨rfl, _, SqL.of hL4⟩, _, rfl, _, _, _, _, rfl, rfl, hL4, .inr f1, (by rw [sizeLine_eq]; omega), ?_⟩
  have rl : r ≠ l := hlr.symm
  refine ⟨_, rfl, .inl ⟨rfl, _, SqL.of (by rw [zl rl]; exact hR4)⟩, _, rfl, _, _, _, _, rfl, rfl, (by rw [zl rl]; exact hR4), .inr (f2.mono ((zbj (l := l) _).tup hL4)), (by rw [sizeLine_eq]; omega), ?_⟩
  refine ⟨m1 + k, by omega, xs' ++ us, ys' ++ vs, _, _, rfl, Same.at (Same.at SH4 hl _) hrH _, ?_, zc, h1.app h3, by omega⟩
  rw [zl hlr]; exact zc
 | @lst a b us vs k e1 e2 h3 =>
  have f1 := SH4 _ _ e1
  have f2 := SH4 _ _ e2
  have lens := h3.len
  have lens1 := h1.len
  refine ⟨_, "list", _, ["list", "tuple"], true, rfl, .inl (.lst f2), hT4, by decide +kernel, _, rfl, qj rfl ?_⟩
  refine ⟨_, rfl, _, "list", _, true, rfl, .inl (.lst f1), by decide +kernel, _, rfl, _, "list", _, true, rfl, .inl (.lst f2), by decide +kernel, rfl, _, rfl, zo rfl ?_⟩
  refine ⟨_, rfl, _, "list", _, false, rfl, .inl (.lst f1), by decide +kernel, _, rfl, _, "list", _, false, rfl, .inl (.lst f2), by decide +kernel, rfl, _, rfl, zo rfl ?_⟩
  refine ⟨_, rfl, _, _, rfl, .inl (SqL.of f1), _, rfl, _, _, rfl, .inl (SqL.of f2), rfl, _, rfl, zo (by rw [lens.1]; simp) ?_⟩
  refine ⟨_, rfl, .inl ⟨rfl, _, SqL.of hL4⟩, _, rfl, _, _, _, _, rfl, rfl, hL4, .inl f1, (by rw [sizeLine_eq]; omega), ?_⟩
  have bl : b ≠ l := zt e2 hl
  have rl : r ≠ l := hlr.symm
  refine ⟨_, rfl, .inl ⟨rfl, _, SqL.of (by rw [zl rl]; exact hR4)⟩, _, rfl, _, _, _, _, rfl, rfl, (by rw [zl rl]; exact hR4), .inl (by rw [zl bl]; exact f2), (by rw [sizeLine_eq]; omega), ?_⟩
  refine ⟨m1 + k, by omega, xs' ++ us, ys' ++ vs, _, _, rfl, Same.at (Same.at SH4 hl _) hrH _, ?_, zc, h1.app h3, by omega⟩
  rw [zl hlr]; exact zc
theorem isk1 {H : Hp} {u v : V} {s : Sm Str} (h : qy H u s) (g : qy H v s) : ∃ n, n + 2 ≤ 5 * s.lv ∧ zce K H u v n := by
 obtain ⟨n, hn, al⟩ := (qy.k (K := K) h).alk (qy.k g)
 exact ⟨n, hn, al.toL⟩
theorem isk2 {H : Hp} {u v : V} {t : Ts} (h : qu H u t) (g : qu H v t) : ∃ n, n ≤ 5 * t.sz ∧ zce K H u v n := (qu.k (K := K) h).alk (qu.k g)
noncomputable def _root_.J.Bk.ak : Bk → Nat
 | .nil => 0
 | .set _ a r => 5 * a.lv + 10 + r.ak
 | .say a r => 5 * a.lv + 10 + r.ak
 | .when t b c r => 5 * t.sz + 10 + b.ak + c.ak + r.ak
 | .whil t b r => 5 * t.sz + 10 + b.ak + r.ak
 | .wit _ a b r => 5 * a.lv + 10 + b.ak + r.ak
theorem bk_alk {H : Hp} {vs : List V} {b : Bk} (h : IsBk H noM vs b) : ∀ {ws : List V}, IsBk H noM ws b → ∃ n, n ≤ b.ak ∧ AlkL K H vs ws n := by
 induction h with
 | nil => intro ws g; cases g; exact ⟨0, Nat.le_refl _, .nil⟩
 | @set a x u s vs r e hs _ ih =>
  intro ws g
  cases g with
  | @set a' _ u' _ vs' _ e' hs' g' =>
   obtain ⟨n, hn, al⟩ := ih g'
   obtain ⟨m, hm, al1⟩ := isk1 (K := K) hs hs'
   refine ⟨_, ?_, .tup (.inl e) (.inl e') (.str (.str (.cons1 al1 .nil))) al⟩
   show m + 0 + 1 + 1 + n + 1 ≤ 5 * s.lv + 10 + r.ak
   omega
 | @say a u s vs r e hs _ ih =>
  intro ws g
  cases g with
  | @say a' u' _ vs' _ e' hs' g' =>
   obtain ⟨n, hn, al⟩ := ih g'
   obtain ⟨m, hm, al1⟩ := isk1 (K := K) hs hs'
   refine ⟨_, ?_, .tup (.inl e) (.inl e') (.str (.cons1 al1 .nil)) al⟩
   show m + 0 + 1 + n + 1 ≤ 5 * s.lv + 10 + r.ak
   omega
 | @when a p q u t vb vc vs b c r e ht n1 e1 _ n2 e2 _ _ i1 i2 i3 =>
  intro ws g
  cases g with
  | @when a' p' q' u' _ vb' vc' vs' _ _ _ e' ht' n1' e1' g1 n2' e2' g2 g' =>
   obtain ⟨n, hn, al⟩ := i3 g'
   obtain ⟨nb, hnb, alb⟩ := i1 g1
   obtain ⟨nc, hnc, alc⟩ := i2 g2
   obtain ⟨m, hm, al1⟩ := isk2 (K := K) ht ht'
   refine ⟨_, ?_, .tup (.inl e) (.inl e') (.str (.cons1 al1 (.lst e1 e1' alb (.lst e2 e2' alc .nil)))) al⟩
   show m + (nb + (nc + 0 + 1) + 1) + 1 + n + 1 ≤ 5 * t.sz + 10 + b.ak + c.ak + r.ak
   omega
 | @whil a p u t vb vs b r e ht n1 e1 _ _ i1 i3 =>
  intro ws g
  cases g with
  | @whil a' p' u' _ vb' vs' _ _ e' ht' n1' e1' g1 g' =>
   obtain ⟨n, hn, al⟩ := i3 g'
   obtain ⟨nb, hnb, alb⟩ := i1 g1
   obtain ⟨m, hm, al1⟩ := isk2 (K := K) ht ht'
   refine ⟨_, ?_, .tup (.inl e) (.inl e') (.str (.cons1 al1 (.lst e1 e1' alb .nil))) al⟩
   show m + (nb + 0 + 1) + 1 + n + 1 ≤ 5 * t.sz + 10 + b.ak + r.ak
   omega
 | @wit a p x u s vb vs b r e ht n1 e1 _ _ i1 i3 =>
  intro ws g
  cases g with
  | @wit a' p' _ u' _ vb' vs' _ _ e' ht' n1' e1' g1 g' =>
   obtain ⟨n, hn, al⟩ := i3 g'
   obtain ⟨nb, hnb, alb⟩ := i1 g1
   obtain ⟨m, hm, al1⟩ := isk1 (K := K) ht ht'
   refine ⟨_, ?_, .tup (.inl e) (.inl e') (.str (.str (.cons1 al1 (.lst e1 e1' alb .nil)))) al⟩
   show m + (nb + 0 + 1) + 1 + 1 + n + 1 ≤ 5 * s.lv + 10 + b.ak + r.ak
   omega
theorem zc3 {s : Sm Str} (h : (Th.s s).fit) : s.lv ≤ 100 := by
 have h1 := s.words_len
 have h2 : s.words.length ≤ 190 := h.2.2.1
 omega
theorem zag : ∀ t : Ts, t.sz ≤ t.words.length
 | .less a b => by
  have h1 := a.words_len
  have h2 := b.words_len
  have h3 := a.lv_pos
  have h4 := b.lv_pos
  show a.lv + b.lv + 1 ≤ (a.words ++ b.words).length + 1
  rw [List.length_append]
  omega
 | .same a b => by
  have h1 := a.words_len
  have h2 := b.words_len
  have h3 := a.lv_pos
  have h4 := b.lv_pos
  show a.lv + b.lv + 1 ≤ (a.words ++ b.words).length + 1
  rw [List.length_append]
  omega
 | .not t => by have := zag t; show t.sz + 1 ≤ t.words.length + 1; omega
 | .both t u => by
  have h1 := zag t
  have h2 := zag u
  show t.sz + u.sz + 1 ≤ (t.words ++ u.words).length + 1
  rw [List.length_append]
  omega
theorem zeg {t : Ts} (h : (Th.t t).fit) : t.sz ≤ 190 := by
 have h1 := zag t
 have h2 : t.words.length ≤ 190 := h.2.2.1
 omega
theorem zcc : ∀ {b : Bk}, b.fit → b.ak ≤ 1000 * b.n
 | .nil, _ => Nat.le_refl _
 | .set _ a r, h => by
  have h1 := zcc h.2.2
  have h2 := zc3 h.2.1
  show 5 * a.lv + 10 + r.ak ≤ 1000 * (r.n + 1)
  omega
 | .say a r, h => by
  have h1 := zcc h.2
  have h2 := zc3 h.1
  show 5 * a.lv + 10 + r.ak ≤ 1000 * (r.n + 1)
  omega
 | .when t b c r, h => by
  have h1 := zcc h.2.1
  have h2 := zcc h.2.2.1
  have h3 := zcc h.2.2.2
  have h4 := zeg h.1
  show 5 * t.sz + 10 + b.ak + c.ak + r.ak ≤ 1000 * (b.n + c.n + r.n + 1)
  omega
 | .whil t b r, h => by
  have h1 := zcc h.2.1
  have h3 := zcc h.2.2
  have h4 := zeg h.1
  show 5 * t.sz + 10 + b.ak + r.ak ≤ 1000 * (b.n + r.n + 1)
  omega
 | .wit _ a b r, h => by
  have h1 := zcc h.2.2.1
  have h3 := zcc h.2.2.2
  have h4 := zc3 h.2.1
  show 5 * a.lv + 10 + b.ak + r.ak ≤ 1000 * (b.n + r.n + 1)
  omega
end
open PySem L2 J
section
variable {P : Program} {w : World} {K : W.Frag} {mg : Str → Option Value} {base : Heap}
theorem oil_nat {x : Int} {m : Int} {n : Nat} (h0 : 0 ≤ x) (h1 : x < m) (hm : m ≤ (n : Int) + 1) : ∃ o : Nat, o ≤ n ∧ x = (o : Int) := ⟨x.toNat, by omega, by omega⟩
theorem wfW_done {f : WFin} (h : decide (V.str (wfW f) = V.str "done") = true) : f.word = true := by
 cases hw : f.word with
 | true => rfl
 | false =>
  have : wfW f = "dry" := by unfold wfW; rw [hw]; rfl
  rw [this] at h
  exact absurd h (by decide +kernel)
noncomputable def spLaw (K : W.Frag) : Sp := fun vs H Q _ => ∃ (a : Addr) (ns : List Int), vs = [.ref a] ∧ SqL K H a (ns.map V.int) ∧ ns.length ≤ 63 ∧ ∀ H', Q (.bl true) H'
theorem ok_law (T : Txt K mg) : FnOk P w K mg base CX0 160 T.f_law T.fd_law ["_law_script"] (spLaw K) := by
 have G_law_at := (ok_law_at (P := P) (w := w) (base := base) T).mono (show 1 ≤ 159 by omega)
 have G_law_names_of := (ok_law_names_of (P := P) (w := w) (base := base) T).mono (show 1 ≤ 159 by omega)
 have G_law_starts_of := (ok_law_starts_of (P := P) (w := w) (base := base) T).mono (show 1 ≤ 159 by omega)
 have G_law_grown := (ok_law_grown (P := P) (w := w) (base := base) T).mono (show 6 ≤ 159 by omega)
 have G_law_walk := (ok_law_walk (P := P) (w := w) (base := base) T).mono (show 24 ≤ 159 by omega)
 have G_cards_of := (ok_cards_of (P := P) (w := w) (base := base) T 64).mono (show 89 ≤ 159 by omega)
 have G_law_cards_for := (zay (P := P) (w := w) (base := base) T 149).mono (show 151 ≤ 159 by omega)
 have G_followed := (ok_followed (P := P) (w := w) (base := base) T 64).mono (show 92 ≤ 159 by omega)
 have G_ran := (ok_ran (P := P) (w := w) (base := base) T).mono (show 6 ≤ 159 by omega)
 have G_law_alike := (ok_law_alike (P := P) (w := w) (base := base) T).mono (show 2 ≤ 159 by omega)
 refine T.law.F.ok wf (fun vs H Q E h => ?_) (fun cdv A outer s H vs Q E hr h => ?_)
 ·obtain ⟨a, ns, rfl, _⟩ := h; rfl
 obtain ⟨a, sc, rfl, hS, h63, q⟩ := h
 refine ⟨_, (zf (zx (i := 1) wf.nd rfl (Or.inl rfl) (zk G_law_names_of hr rfl T.law_names_of.m T.law_names_of.F.kp T.law_names_of.b .nil zq (za (zk G_law_at hr rfl T.law_at.m T.law_at.F.kp T.law_at.b .nil zq (za (pv 0) (za zd zb))) zb)))
  (zf (zx (i := 2) wf.nd rfl (Or.inl rfl) (zk G_law_starts_of hr rfl T.law_starts_of.m T.law_starts_of.F.kp T.law_starts_of.b .nil zq (za (zk G_law_at hr rfl T.law_at.m T.law_at.F.kp T.law_at.b .nil zq (za (pv 0) (za zd zb))) (za (pv 1) zb))))
  (zf (zx (i := 3) wf.nd rfl (Or.inl rfl) (zy jo (zk G_law_at hr rfl T.law_at.m T.law_at.F.kp T.law_at.b .nil zq (za (pv 0) (za zd zb))) zd))
  (ve (z0 (zj qi (zy jo (zy wv (zk G_law_at hr rfl T.law_at.m T.law_at.F.kp T.law_at.b .nil zq (za (pv 0) (za zd zb))) zd) zd) zd (zp _)) (zg (zx (i := 3) wf.nd rfl (Or.inl rfl) (zy jo (zy wv (zk G_law_at hr rfl T.law_at.m T.law_at.F.kp T.law_at.b .nil zq (za (pv 0) (za zd zb))) zd) zd))) zv)
  (zf (zx (i := 4) wf.nd rfl (Or.inl rfl) (zk G_law_grown hr rfl T.law_grown.m T.law_grown.F.kp T.law_grown.b .nil zq (za (kj zb2 (pv 0) (kh zd) (kh zd)) (za (pv 1) (za (ql zb) zb)))))
  (zf (zx (i := 5) wf.nd rfl (Or.inl rfl) (zk G_law_walk hr rfl T.law_walk.m T.law_walk.F.kp T.law_walk.b .nil zq (za (pv 4) (za (pv 2) (za (pv 3) zb)))))
  (zf (zx (i := 6) wf.nd rfl (Or.inl rfl) (zk G_law_grown hr rfl T.law_grown.m T.law_grown.F.kp T.law_grown.b .nil zq (za (kj zb2 (pv 0) (kh zd) (kh zd)) (za (pv 1) (za (ql zb) zb)))))
  (zf (zx (i := 7) wf.nd rfl (Or.inl rfl) (j0 jf rfl T.b_list j4 (za (pv 2) zb)))
  (zf (zx (i := 8) wf.nd rfl (Or.inl rfl) (zk G_cards_of hr rfl T.cards_of.m T.cards_of.F.kp T.cards_of.b .nil zq (za (pv 6) zb)))
  (zf (zx (i := 9) wf.nd rfl (Or.inl rfl) (zk G_law_cards_for hr rfl T.law_cards_for.m T.law_cards_for.F.kp T.law_cards_for.b .nil zq (za (zn zm (pv 4) zd (fun _ _ => rfl)) (za (pv 1) zb))))
  (zf (z0 (PW.pt (zct (za9 (ki (qk jb rfl T.b_isinstance qt (za (pv 8) (za (j3 (v := .ty "list") rfl T.b_list j4 rfl) zb))))) (zbp (za9 (ki (zk G_law_alike hr rfl T.law_alike.m T.law_alike.F.kp T.law_alike.b .nil zq (za (pv 8) (za (pv 9) zb)))))))) (zg (zr zb9)) zv)
  (zf (z0 (za9 (ki (zk G_law_alike hr rfl T.law_alike.m T.law_alike.F.kp T.law_alike.b .nil zq (za (zk G_followed hr rfl T.followed.m T.followed.F.kp T.followed.b .nil zq (za (pv 6) (za (pv 7) (za (pv 3) zb)))) (za (pv 5) zb))))) (zg (zr zb9)) zv)
  (zf (zx (i := 10) wf.nd rfl (Or.inl rfl) (zk G_ran hr rfl T.ran.m T.ran.F.kp T.ran.b .nil zq (za (pv 8) (za (pv 7) (za (pv 3) zb)))))
  (zf (z0 (PW.pt (zct (za9 (ki (qk jb rfl T.b_isinstance qt (za (pv 10) (za (j3 (v := .ty "tuple") rfl T.b_tuple zc1 rfl) zb))))) (zct (zj zdz (qk qa rfl T.b_len PySem.boot_len (za (pv 10) zb)) zd (zp _)) (zbp (za9 (ki (qk jb rfl T.b_isinstance qt (za (zn zm (pv 10) zd (fun _ _ => rfl)) (za (j3 (v := .ty "list") rfl T.b_list j4 rfl) zb))))))))) (zg (zr zb9)) zv)
  (zf (z0 (PW.pt (zbq (zj qi (zn zm (pv 5) zd (fun _ _ => rfl)) zi (zp _)) (za8 (zj zdz (qk qa rfl T.b_len PySem.boot_len (za (zn zm (pv 10) zd (fun _ _ => rfl)) zb)) (qk qa rfl T.b_len PySem.boot_len (za (pv 2) zb)) (zp _))))) (zg (zr zb9)) zv)
  (zf (z0 (za9 (ki (zk G_law_alike hr rfl T.law_alike.m T.law_alike.F.kp T.law_alike.b .nil zq (za (qb (za (zn zm (pv 10) zd (fun _ _ => rfl)) (za (zn zm (pv 10) zd (fun _ _ => rfl)) (za (kj zb2 (zn zm (pv 10) zd (fun _ _ => rfl)) zba (kh (qk qa rfl T.b_len PySem.boot_len (za (pv 2) zb)))) (za (zn zm (pv 10) zd (fun _ _ => rfl)) zb))))) (za (pv 5) zb))))) (zg (zr zb9)) zv)
  (zg (zr (ze5 (zk G_law_alike hr rfl T.law_alike.m T.law_alike.F.kp T.law_alike.b .nil zq (za (pv 6) (za (pv 4) zb))) (ze3 (zk G_law_alike hr rfl T.law_alike.m T.law_alike.F.kp T.law_alike.b .nil zq (za (pv 7) (za (pv 2) zb))))))))))))))))))))))), ?_⟩
 try dsimp only[kx,kxb]
 have four : (4 : Nat) ≤ sizeLine := by decide
 refine ⟨_, rfl, a, sc, 0, rfl, hS, h63, ?_⟩
 refine ⟨_, rfl, fun p1 ns H1 S1 f1 e1 hi hln => ?_⟩
 refine ⟨_, rfl, a, sc, 1, rfl, S1.seq hS, h63, _, rfl, ?_⟩
 refine ⟨_, p1, ns, rfl, e1, by omega, fun p2 ps H2 S2 f2 e2 hpl => ?_⟩
 have S12 := S1.trans S2
 have e12 := S2 _ _ e1
 refine ⟨_, rfl, a, sc, 2, rfl, S12.seq hS, h63, _, _, rfl, rfl, (by show (0 : Int) < _; decide), ?_⟩
 refine ⟨fun σ' H' => H' = H2 ∧ ∃ oil : Nat, oil ≤ 480 ∧ σ' = [some (.ref a), some (.ref p1), some (.ref p2), some (.int (oil : Int)), none, none, none, none, none, none, none], ?_, ?_⟩
 ·refine ⟨_, rfl, a, sc, 2, rfl, S12.seq hS, h63, _, _, rfl, rfl, cdiv rfl, _, _, rfl, rfl, (by show (0 : Int) < _; decide), rfl, _, rfl, ?_⟩
  refine ite2 (fun c => ?_) (fun c => ?_)
  ·refine ⟨_, rfl, a, sc, 2, rfl, S12.seq hS, h63, _, _, rfl, rfl, cdiv rfl, _, _, rfl, rfl, (by show (0 : Int) < _; decide), rfl, ?_⟩
   obtain ⟨o, ho, eo⟩ := oil_nat (x := sc.getD 2 0 / 480 % 481) (m := 481) (n := 480) (by omega) (by omega) (by omega)
   exact ⟨o, ho, by rw [← eo]; rfl⟩
  ·obtain ⟨o, ho, eo⟩ := oil_nat (x := sc.getD 2 0 % 60) (m := 60) (n := 480) (by omega) (by omega) (by omega)
   exact ⟨rfl, o, ho, by rw [← eo]; rfl⟩
 rintro σ' H' ⟨rfl, oil, hoil, rfl⟩
 obtain ⟨cs, ecs, hcs⟩ := cutV_ints sc (some 3) (some 83)
 refine ⟨_, rfl, _, rfl, _, rfl, _, _, rfl, S12.seq hS, fun pc fpc => ?_⟩
 have S3 : Same H' (upd H' pc (.lst (cutV (sc.map V.int) (some 3) (some 83)))) := ze fpc _
 have ec : upd H' pc (.lst (cutV (sc.map V.int) (some 3) (some 83))) pc = some (.lst (cs.map V.int)) := by rw [zc, ecs]
 generalize upd H' pc (.lst (cutV (sc.map V.int) (some 3) (some 83))) = H3 at S3 ec
 refine ⟨_, rfl, Nat.zero_le _, fun pm hpm => ?_⟩
 have S4 := ze hpm (.lst [])
 have em : upd H3 pm (.lst []) pm = some (.lst (([] : List Str).map V.str)) := zc
 have ec4 := S4 _ _ ec
 have S34 := S3.trans S4
 generalize upd H3 pm (.lst []) = H4 at S34 em ec4
 refine ⟨pc, p1, pm, cs, ns, [], rfl, SqL.of ec4, by omega, S34 _ _ e12, hi, em, by simp, fun r pn pb ws H5 S5 er epn epb hB => ?_⟩
 have S25 := S34.trans S5
 have hgd := grown_dp (cells := cs) (names := ns) (more := [])
 have hgn := grown_n (cells := cs) (more := []) hi
 have hgl := grown_lin (cells := cs) hi (by omega)
 have hgf := grown_fit (cells := cs) (more := []) hln (by simp)
 have hak := zcc hgf
 have hcl := Bk.cards_le ns _ hgl
 generalize hb : v6 cs ns [] = b at hB hgd hgn hgl hgf hak hcl
 obtain ⟨m, f, hW, hE⟩ := zcm (ns0 := ns) oil (r := wis b) (ns := ns) (ps := ps) (s := []) (by have := xz (ns0 := ns) (w := []) hgl .nil; rw [List.append_nil] at this; exact this) hpl
 refine ⟨_, rfl, _, rfl, _, rfl, ?_⟩
 refine ⟨r, pb, pn, p2, ws, ns, b, ps, oil, m, f, rfl, er, epb, hB, hgl, by omega, epn, by omega, S25 _ _ e2, hpl, by omega, hW, hE, fun qd lsd ltd H6 S6 ed esd etd => ?_⟩
 have S26 := S25.trans S6
 refine ⟨_, rfl, _, rfl, _, rfl, _, _, rfl, (S12.trans S26).seq hS, fun pc2 fpc2 => ?_⟩
 have S7 : Same H6 (upd H6 pc2 (.lst (cutV (sc.map V.int) (some 3) (some 83)))) := ze fpc2 _
 have ec7 : upd H6 pc2 (.lst (cutV (sc.map V.int) (some 3) (some 83))) pc2 = some (.lst (cs.map V.int)) := by rw [zc, ecs]
 generalize upd H6 pc2 (.lst (cutV (sc.map V.int) (some 3) (some 83))) = H7 at S7 ec7
 refine ⟨_, rfl, Nat.zero_le _, fun pm2 hpm2 => ?_⟩
 have S8 := ze hpm2 (.lst [])
 have em8 : upd H7 pm2 (.lst []) pm2 = some (.lst (([] : List Str).map V.str)) := zc
 have ec8 := S8 _ _ ec7
 have S68 := S7.trans S8
 generalize upd H7 pm2 (.lst []) = H8 at S68 em8 ec8
 have S28 := S26.trans S68
 refine ⟨pc2, p1, pm2, cs, ns, [], rfl, SqL.of ec8, by omega, S28 _ _ e12, hi, em8, by simp, fun r2 pn2 pb2 ws2 H9 S9 er2 epn2 epb2 hB2 => ?_⟩
 rw [hb] at hB2
 have S29 := S28.trans S9
 have S59 : Same H5 H9 := S6.trans (S68.trans S9)
 have S69 : Same H6 H9 := S68.trans S9
 refine ⟨_, rfl, _, _, rfl, .inl (SqL.of (S29 _ _ e2)), fun lp hlp => ?_⟩
 have S10 := ze hlp (.lst (ps.map V.int))
 have elp : upd H9 lp (.lst (ps.map V.int)) lp = some (.lst (ps.map V.int)) := zc
 generalize upd H9 lp (.lst (ps.map V.int)) = HA at S10 elp
 have S9A := S10
 have S2A := S29.trans S10
 refine ⟨_, rfl, r2, pb2, pn2, ws2, ns, b, rfl, S9A _ _ er2, S9A _ _ epb2, hB2.same S9A, by omega, hgl, by omega, S9A _ _ epn2, by omega, fun kc wc HB SB fB eB cB => ?_⟩
 have S9B := S9A.trans SB
 have S2B := S2A.trans SB
 have S5B := S59.trans S9B
 refine ⟨_, rfl, _, _, _, _, rfl, rfl, SqT.of (S5B _ _ er), zu (j := 1) rfl, _, rfl, ?_⟩
 refine ⟨.ref pb, p1, ns, .bk b, rfl, ⟨pb, ws, rfl, S5B _ _ epb, hB.same S5B⟩, (by show 2 * b.dp + 21 ≤ 149; omega), (by show (b.cards ns).length ≤ _; omega), S2B _ _ e12, by omega, hgl, fun kl wl HC SC fC eC cC => ?_⟩
 have eBC := SC _ _ eB
 have cBC := cB.mono SC.tup
 obtain ⟨n1, hn1, al1⟩ := Cds.alk (K := K) cBC cC
 refine ⟨_, rfl, _, "list", _, true, rfl, .inl (.lst eBC), by decide +kernel, _, rfl, zo rfl ?_⟩
 have hn1' : n1 ≤ 3 * (b.cards ns).length := hn1
 refine ⟨_, rfl, _, rfl, _, _, _, rfl, .lst eBC eC al1 .nil, by omega, fun HD SD => ⟨_, rfl, zo rfl ?_⟩⟩
 have SAD := SB.trans (SC.trans SD)
 have S9D := S9A.trans SAD
 refine ⟨_, rfl, _, rfl, _, rfl, ?_⟩
 refine ⟨r2, pb2, pn2, lp, ws2, ns, b, ps, oil, m, f, rfl, S9D _ _ er2, S9D _ _ epb2, hB2.same S9D, by omega, hgl, by omega, S9D _ _ epn2, by omega, SAD _ _ elp, hpl, by omega, hW, fun qf lsf ltf HE SE ef esf etf hle => ?_⟩
 have S6E := S69.trans (S9D.trans SE)
 have htl := hE.sl
 have hpt : (f.pots.take ns.length).length ≤ ns.length := List.length_take_le _ _
 refine ⟨_, rfl, _, _, _, rfl, .tup (.inl ef) (.inl (S6E _ _ ed)) (.str (.lst esf (S6E _ _ esd) (AlkL.ints _) (.lst etf (S6E _ _ etd) (AlkL.ints _) (.int .nil)))) .nil, by simp only [List.length_nil] at htl; omega, fun HF SF => ⟨_, rfl, zo rfl ?_⟩⟩
 have SDF := SE.trans SF
 have SCF := SD.trans SDF
 have SAF := SAD.trans SDF
 have hsim := sim (cs := b.cards ns) hW 0 (by have := ji (w := []) (k := 0) hgl (Seg.self _) (.done (by rw [Nat.zero_add]; exact .refl)); rw [List.append_nil] at this; exact this) hpl (by omega) (by simp only [List.length_nil]; omega)
 obtain ⟨nr, hrun⟩ := hsim
 refine ⟨_, rfl, _, rfl, _, rfl, ?_⟩
 refine ⟨kc, lp, wc, b.cards ns, ps, oil, nr, _, rfl, SCF _ _ eBC, cBC.mono SCF.tup, SAF _ _ elp, hrun, fun rm ldm lpm HG SG em2 esm epm => ?_⟩
 have S6G := S6E.trans (SF.trans SG)
 have S2G : Same H' HG := S26.trans S6G
 refine ⟨_, rfl, _, "tuple", _, true, rfl, .inr ⟨rfl, _, _, rfl, .inl em2⟩, by decide +kernel, _, rfl, zo rfl ?_⟩
 refine ⟨_, rfl, _, _, rfl, .inr (SqT.of em2), rfl, _, rfl, zo (by simp) ?_⟩
 refine ⟨_, rfl, _, _, _, _, rfl, rfl, SqT.of em2, zu (j := 2) rfl, _, "list", _, true, rfl, .inl (.lst epm), by decide +kernel, _, rfl, zo rfl ?_⟩
 have edG := S6G _ _ ed
 refine' cut (fun hB => ?f) ?b
 case f =>
  refine ⟨_, rfl, _, _, _, _, rfl, rfl, SqT.of edG, at0, rfl, _, rfl, ?_⟩
  refine ite2 (fun c => ?_) (fun c => iteF hB)
  have hfw := hE.pl (wfW_done c)
  refine ⟨_, rfl, _, _, _, _, rfl, rfl, SqT.of em2, zu (j := 2) rfl, _, _, rfl, .inl (SqL.of epm), _, rfl, _, _, rfl, .inl (SqL.of (S2G _ _ e2)), rfl, _, rfl, zo ?_ hB⟩
  rw [List.length_map, List.length_map, hpl, show (f.pots).length = ns.length from hfw]
  simp
 refine ⟨_, rfl, _, _, _, _, rfl, rfl, SqT.of em2, at0, _, rfl, _, _, _, _, rfl, rfl, SqT.of em2, zu (j := 1) rfl, _, rfl, _, _, _, _, rfl, rfl, SqT.of em2, zu (j := 2) rfl, _, rfl, _, _, rfl, .inl (SqL.of (S2G _ _ e2)), ?_⟩
 rw [List.length_map, hpl]
 refine ⟨_, rfl, _, _, rfl, SqL.of epm, fun p8 hp8 => ?_⟩
 have S8b := ze hp8 (.lst (cutV (f.pots.map V.int) none (some (ns.length : Int))))
 have e8b : upd HG p8 (.lst (cutV (f.pots.map V.int) none (some (ns.length : Int)))) p8 = some (.lst ((f.pots.take ns.length).map V.int)) := by rw [zc, zfa]
 generalize upd HG p8 (.lst (cutV (f.pots.map V.int) none (some (ns.length : Int)))) = HI at S8b e8b
 refine ⟨_, rfl, _, _, _, _, rfl, rfl, SqT.of (S8b _ _ em2), zu (j := 3) rfl, four, fun p9 hp9 => ?_⟩
 have eoil : ((oil : Int) - (f.left : Int)) = ((oil - f.left : Nat) : Int) := by omega
 have alI : ∀ Hx : Hp, AlkL K Hx [V.int ((oil : Int) - (f.left : Int))] [V.int ((oil - f.left : Nat) : Int)] (0 + 1) := fun Hx => by rw [eoil]; exact .int .nil
 have edI := S8b _ _ edG
 have esI := S8b _ _ esm
 have esdI := S8b _ _ (S6G _ _ esd)
 have etdI := S8b _ _ (S6G _ _ etd)
 refine ⟨_, rfl, _, _, _, rfl, .tup (.inl zc) (.inl (ze hp9 _ _ _ edI)) (.str (.lst (ze hp9 _ _ _ esI) (ze hp9 _ _ _ esdI) (AlkL.ints _) (.lst (ze hp9 _ _ _ e8b) (ze hp9 _ _ _ etdI) (AlkL.ints _) (alI _)))) .nil, by simp only [List.length_nil] at htl; dsimp only; omega, fun HK SK => ⟨_, rfl, zo rfl ?_⟩⟩
 have SIK := (ze hp9 _).trans SK
 have S9K : Same H9 HK := S9D.trans (SE.trans (SF.trans (SG.trans (S8b.trans SIK))))
 have S5K := S59.trans S9K
 have SAK : Same HA HK := SAF.trans (SG.trans (S8b.trans SIK))
 obtain ⟨n2, hn2, al2⟩ := bk_alk (K := K) (hB2.same S9K) (hB.same S5K)
 refine ⟨_, rfl, _, rfl, _, _, _, rfl, .tup (.inl (S9K _ _ er2)) (.inl (S5K _ _ er)) (.lst (S9K _ _ epn2) (S5K _ _ epn) (AlkL.strs ns) (.lst (S9K _ _ epb2) (S5K _ _ epb) al2 .nil)) .nil, by omega, fun HL SL => ⟨_, rfl, qj rfl ?_⟩⟩
 have SAL := SAK.trans SL
 refine ⟨_, rfl, _, rfl, _, _, _, rfl, .lst (SAL _ _ elp) ((S2A.trans SAL) _ _ e2) (AlkL.ints ps) .nil, by omega, fun HM SM => q _⟩
end
open PySem L2 J
theorem txt_mk {K : W.Frag} {h : Heap} {mg : Str → Option Value} (X : K.In h) (G : h.Ns mainGlobals mg)
  {cCourse : Addr}
  {cMachine : Addr}
  {f1 : Addr} {od1 an1 : Option Addr} {sl1 : Array (Option Value)} {oc1 kV1 dc1 pm1 cd1 ct1 : Value}
  {f2 : Addr} {od2 an2 : Option Addr} {sl2 : Array (Option Value)} {oc2 kV2 dc2 pm2 cd2 ct2 : Value}
  {f3 : Addr} {od3 an3 : Option Addr} {sl3 : Array (Option Value)} {oc3 kV3 dc3 pm3 cd3 ct3 : Value}
  {f4 : Addr} {od4 an4 : Option Addr} {sl4 : Array (Option Value)} {oc4 kV4 dc4 pm4 cd4 ct4 : Value}
  {f5 : Addr} {od5 an5 : Option Addr} {sl5 : Array (Option Value)} {oc5 kV5 dc5 pm5 cd5 ct5 : Value}
  {f6 : Addr} {od6 an6 : Option Addr} {sl6 : Array (Option Value)} {oc6 kV6 dc6 pm6 cd6 ct6 : Value}
  {f7 : Addr} {od7 an7 : Option Addr} {sl7 : Array (Option Value)} {oc7 kV7 dc7 pm7 cd7 ct7 : Value}
  {f8 : Addr} {od8 an8 : Option Addr} {sl8 : Array (Option Value)} {oc8 kV8 dc8 pm8 cd8 ct8 : Value}
  {f9 : Addr} {od9 an9 : Option Addr} {sl9 : Array (Option Value)} {oc9 kV9 dc9 pm9 cd9 ct9 : Value}
  {f10 : Addr} {od10 an10 : Option Addr} {sl10 : Array (Option Value)} {oc10 kV10 dc10 pm10 cd10 ct10 : Value}
  {f11 : Addr} {od11 an11 : Option Addr} {sl11 : Array (Option Value)} {oc11 kV11 dc11 pm11 cd11 ct11 : Value}
  {f12 : Addr} {od12 an12 : Option Addr} {sl12 : Array (Option Value)} {oc12 kV12 dc12 pm12 cd12 ct12 : Value}
  {f13 : Addr} {od13 an13 : Option Addr} {sl13 : Array (Option Value)} {oc13 kV13 dc13 pm13 cd13 ct13 : Value}
  {f14 : Addr} {od14 an14 : Option Addr} {sl14 : Array (Option Value)} {oc14 kV14 dc14 pm14 cd14 ct14 : Value}
  {f15 : Addr} {od15 an15 : Option Addr} {sl15 : Array (Option Value)} {oc15 kV15 dc15 pm15 cd15 ct15 : Value}
  {f16 : Addr} {od16 an16 : Option Addr} {sl16 : Array (Option Value)} {oc16 kV16 dc16 pm16 cd16 ct16 : Value}
  {f17 : Addr} {od17 an17 : Option Addr} {sl17 : Array (Option Value)} {oc17 kV17 dc17 pm17 cd17 ct17 : Value}
  {f18 : Addr} {od18 an18 : Option Addr} {sl18 : Array (Option Value)} {oc18 kV18 dc18 pm18 cd18 ct18 : Value}
  {f19 : Addr} {od19 an19 : Option Addr} {sl19 : Array (Option Value)} {oc19 kV19 dc19 pm19 cd19 ct19 : Value}
  {f20 : Addr} {od20 an20 : Option Addr} {sl20 : Array (Option Value)} {oc20 kV20 dc20 pm20 cd20 ct20 : Value}
  {f21 : Addr} {od21 an21 : Option Addr} {sl21 : Array (Option Value)} {oc21 kV21 dc21 pm21 cd21 ct21 : Value}
  {f22 : Addr} {od22 an22 : Option Addr} {sl22 : Array (Option Value)} {oc22 kV22 dc22 pm22 cd22 ct22 : Value}
  {f23 : Addr} {od23 an23 : Option Addr} {sl23 : Array (Option Value)} {oc23 kV23 dc23 pm23 cd23 ct23 : Value}
  {f24 : Addr} {od24 an24 : Option Addr} {sl24 : Array (Option Value)} {oc24 kV24 dc24 pm24 cd24 ct24 : Value}
  {f25 : Addr} {od25 an25 : Option Addr} {sl25 : Array (Option Value)} {oc25 kV25 dc25 pm25 cd25 ct25 : Value}
  {f26 : Addr} {od26 an26 : Option Addr} {sl26 : Array (Option Value)} {oc26 kV26 dc26 pm26 cd26 ct26 : Value}
  {f27 : Addr} {od27 an27 : Option Addr} {sl27 : Array (Option Value)} {oc27 kV27 dc27 pm27 cd27 ct27 : Value}
  {f28 : Addr} {od28 an28 : Option Addr} {sl28 : Array (Option Value)} {oc28 kV28 dc28 pm28 cd28 ct28 : Value}
  {f29 : Addr} {od29 an29 : Option Addr} {sl29 : Array (Option Value)} {oc29 kV29 dc29 pm29 cd29 ct29 : Value}
  {f30 : Addr} {od30 an30 : Option Addr} {sl30 : Array (Option Value)} {oc30 kV30 dc30 pm30 cd30 ct30 : Value}
  {f31 : Addr} {od31 an31 : Option Addr} {sl31 : Array (Option Value)} {oc31 kV31 dc31 pm31 cd31 ct31 : Value}
  {f32 : Addr} {od32 an32 : Option Addr} {sl32 : Array (Option Value)} {oc32 kV32 dc32 pm32 cd32 ct32 : Value}
  {f33 : Addr} {od33 an33 : Option Addr} {sl33 : Array (Option Value)} {oc33 kV33 dc33 pm33 cd33 ct33 : Value}
  {f34 : Addr} {od34 an34 : Option Addr} {sl34 : Array (Option Value)} {oc34 kV34 dc34 pm34 cd34 ct34 : Value}
  {f35 : Addr} {od35 an35 : Option Addr} {sl35 : Array (Option Value)} {oc35 kV35 dc35 pm35 cd35 ct35 : Value}
  {f36 : Addr} {od36 an36 : Option Addr} {sl36 : Array (Option Value)} {oc36 kV36 dc36 pm36 cd36 ct36 : Value}
  {f37 : Addr} {od37 an37 : Option Addr} {sl37 : Array (Option Value)} {oc37 kV37 dc37 pm37 cd37 ct37 : Value}
  {f38 : Addr} {od38 an38 : Option Addr} {sl38 : Array (Option Value)} {oc38 kV38 dc38 pm38 cd38 ct38 : Value}
  {f39 : Addr} {od39 an39 : Option Addr} {sl39 : Array (Option Value)} {oc39 kV39 dc39 pm39 cd39 ct39 : Value}
  {f40 : Addr} {od40 an40 : Option Addr} {sl40 : Array (Option Value)} {oc40 kV40 dc40 pm40 cd40 ct40 : Value}
  {f41 : Addr} {od41 an41 : Option Addr} {sl41 : Array (Option Value)} {oc41 kV41 dc41 pm41 cd41 ct41 : Value}
  {f42 : Addr} {od42 an42 : Option Addr} {sl42 : Array (Option Value)} {oc42 kV42 dc42 pm42 cd42 ct42 : Value}
  {f43 : Addr} {od43 an43 : Option Addr} {sl43 : Array (Option Value)} {oc43 kV43 dc43 pm43 cd43 ct43 : Value}
  {f44 : Addr} {od44 an44 : Option Addr} {sl44 : Array (Option Value)} {oc44 kV44 dc44 pm44 cd44 ct44 : Value}
  {f45 : Addr} {od45 an45 : Option Addr} {sl45 : Array (Option Value)} {oc45 kV45 dc45 pm45 cd45 ct45 : Value}
  {f46 : Addr} {od46 an46 : Option Addr} {sl46 : Array (Option Value)} {oc46 kV46 dc46 pm46 cd46 ct46 : Value}
  {f47 : Addr} {od47 an47 : Option Addr} {sl47 : Array (Option Value)} {oc47 kV47 dc47 pm47 cd47 ct47 : Value}
  {f48 : Addr} {od48 an48 : Option Addr} {sl48 : Array (Option Value)} {oc48 kV48 dc48 pm48 cd48 ct48 : Value}
  {f49 : Addr} {od49 an49 : Option Addr} {sl49 : Array (Option Value)} {oc49 kV49 dc49 pm49 cd49 ct49 : Value}
  {f50 : Addr} {od50 an50 : Option Addr} {sl50 : Array (Option Value)} {oc50 kV50 dc50 pm50 cd50 ct50 : Value}
  {f51 : Addr} {od51 an51 : Option Addr} {sl51 : Array (Option Value)} {oc51 kV51 dc51 pm51 cd51 ct51 : Value}
  {f52 : Addr} {od52 an52 : Option Addr} {sl52 : Array (Option Value)} {oc52 kV52 dc52 pm52 cd52 ct52 : Value}
  {f53 : Addr} {od53 an53 : Option Addr} {sl53 : Array (Option Value)} {oc53 kV53 dc53 pm53 cd53 ct53 : Value}
  {f54 : Addr} {od54 an54 : Option Addr} {sl54 : Array (Option Value)} {oc54 kV54 dc54 pm54 cd54 ct54 : Value}
  {f55 : Addr} {od55 an55 : Option Addr} {sl55 : Array (Option Value)} {oc55 kV55 dc55 pm55 cd55 ct55 : Value}
  {f56 : Addr} {od56 an56 : Option Addr} {sl56 : Array (Option Value)} {oc56 kV56 dc56 pm56 cd56 ct56 : Value}
  {f57 : Addr} {od57 an57 : Option Addr} {sl57 : Array (Option Value)} {oc57 kV57 dc57 pm57 cd57 ct57 : Value}
  (aCCourse : W.nsIn K mainGlobals "Course" = some (some (.ref cCourse))) (pgCourse : W.plainGet K cCourse Str.empty = true) (hdCourse : W.hasDictIn K cCourse = true) (poCourse : W.plainOver K cCourse = true) (saCourse : W.findIn K (.ref cCourse) "__setattr__" = some (some (.builtin "object.__setattr__"))) (mkCourse : W.makesIn K cCourse = true) (kcCourse : W.keepIn K (.ref cCourse) = true)
  (naCourse_row : W.findIn K (.ref cCourse) "row" = some none)
  (naCourse_held : W.findIn K (.ref cCourse) "held" = some none)
  (naCourse_said : W.findIn K (.ref cCourse) "said" = some none)
  (naCourse_oil : W.findIn K (.ref cCourse) "oil" = some none)
  (naCourse_used : W.findIn K (.ref cCourse) "used" = some none)
  (naCourse_ahead : W.findIn K (.ref cCourse) "ahead" = some none)
  (aCMachine : W.nsIn K mainGlobals "Machine" = some (some (.ref cMachine))) (pgMachine : W.plainGet K cMachine Str.empty = true) (hdMachine : W.hasDictIn K cMachine = true) (poMachine : W.plainOver K cMachine = true) (saMachine : W.findIn K (.ref cMachine) "__setattr__" = some (some (.builtin "object.__setattr__"))) (mkMachine : W.makesIn K cMachine = true) (kcMachine : W.keepIn K (.ref cMachine) = true)
  (naMachine_cards : W.findIn K (.ref cMachine) "cards" = some none)
  (naMachine_pile : W.findIn K (.ref cMachine) "pile" = some none)
  (naMachine_left : W.findIn K (.ref cMachine) "left" = some none)
  (naMachine_place : W.findIn K (.ref cMachine) "place" = some none)
  (naMachine_said : W.findIn K (.ref cMachine) "said" = some none)
  (a1 : W.nsIn K mainGlobals "_wall" = some (some (.ref f1))) (l1 : K.lookup f1 = some ⟨oc1, od1, .func (W.fnOf "_wall" "_wall" (qg zdt) (qe zdt) (zh zdt) .none kV1 dc1 pm1 an1 cd1 ct1), sl1⟩) (c1 : W.codeIn K cd1 "_wall" = true) (k1 : W.keepIn K (.ref f1) = true)
  (a2 : W.nsIn K mainGlobals "place_of" = some (some (.ref f2))) (l2 : K.lookup f2 = some ⟨oc2, od2, .func (W.fnOf "place_of" "place_of" (qg vo) (qe vo) (zh vo) .none kV2 dc2 pm2 an2 cd2 ct2), sl2⟩) (c2 : W.codeIn K cd2 "place_of" = true) (k2 : W.keepIn K (.ref f2) = true)
  (a3 : W.nsIn K mainGlobals "reckoned" = some (some (.ref f3))) (l3 : K.lookup f3 = some ⟨oc3, od3, .func (W.fnOf "reckoned" "reckoned" (qg vn) (qe vn) (zh vn) .none kV3 dc3 pm3 an3 cd3 ct3), sl3⟩) (c3 : W.codeIn K cd3 "reckoned" = true) (k3 : W.keepIn K (.ref f3) = true)
  (a4 : W.nsIn K mainGlobals "worth" = some (some (.ref f4))) (l4 : K.lookup f4 = some ⟨oc4, od4, .func (W.fnOf "worth" "worth" (qg zb3) (qe zb3) (zh zb3) .none kV4 dc4 pm4 an4 cd4 ct4), sl4⟩) (c4 : W.codeIn K cd4 "worth" = true) (k4 : W.keepIn K (.ref f4) = true)
  (a5 : W.nsIn K mainGlobals "holds" = some (some (.ref f5))) (l5 : K.lookup f5 = some ⟨oc5, od5, .func (W.fnOf "holds" "holds" (qg zb4) (qe zb4) (zh zb4) .none kV5 dc5 pm5 an5 cd5 ct5), sl5⟩) (c5 : W.codeIn K cd5 "holds" = true) (k5 : W.keepIn K (.ref f5) = true)
  (a6 : W.nsIn K mainGlobals "names_used" = some (some (.ref f6))) (l6 : K.lookup f6 = some ⟨oc6, od6, .func (W.fnOf "names_used" "names_used" (qg ke) (qe ke) (zh ke) .none kV6 dc6 pm6 an6 cd6 ct6), sl6⟩) (c6 : W.codeIn K cd6 "names_used" = true) (k6 : W.keepIn K (.ref f6) = true)
  (a7 : W.nsIn K mainGlobals "sum_cards" = some (some (.ref f7))) (l7 : K.lookup f7 = some ⟨oc7, od7, .func (W.fnOf "sum_cards" "sum_cards" (qg kq) (qe kq) (zh kq) .none kV7 dc7 pm7 an7 cd7 ct7), sl7⟩) (c7 : W.codeIn K cd7 "sum_cards" = true) (k7 : W.keepIn K (.ref f7) = true)
  (a8 : W.nsIn K mainGlobals "both_cards" = some (some (.ref f8))) (l8 : K.lookup f8 = some ⟨oc8, od8, .func (W.fnOf "both_cards" "both_cards" (qg kg) (qe kg) (zh kg) .none kV8 dc8 pm8 an8 cd8 ct8), sl8⟩) (c8 : W.codeIn K cd8 "both_cards" = true) (k8 : W.keepIn K (.ref f8) = true)
  (a9 : W.nsIn K mainGlobals "test_cards" = some (some (.ref f9))) (l9 : K.lookup f9 = some ⟨oc9, od9, .func (W.fnOf "test_cards" "test_cards" (qg kb) (qe kb) (zh kb) .none kV9 dc9 pm9 an9 cd9 ct9), sl9⟩) (c9 : W.codeIn K cd9 "test_cards" = true) (k9 : W.keepIn K (.ref f9) = true)
  (a10 : W.nsIn K mainGlobals "when_cards" = some (some (.ref f10))) (l10 : K.lookup f10 = some ⟨oc10, od10, .func (W.fnOf "when_cards" "when_cards" (qg ka) (qe ka) (zh ka) .none kV10 dc10 pm10 an10 cd10 ct10), sl10⟩) (c10 : W.codeIn K cd10 "when_cards" = true) (k10 : W.keepIn K (.ref f10) = true)
  (a11 : W.nsIn K mainGlobals "while_cards" = some (some (.ref f11))) (l11 : K.lookup f11 = some ⟨oc11, od11, .func (W.fnOf "while_cards" "while_cards" (qg ju) (qe ju) (zh ju) .none kV11 dc11 pm11 an11 cd11 ct11), sl11⟩) (c11 : W.codeIn K cd11 "while_cards" = true) (k11 : W.keepIn K (.ref f11) = true)
  (a12 : W.nsIn K mainGlobals "block_cards" = some (some (.ref f12))) (l12 : K.lookup f12 = some ⟨oc12, od12, .func (W.fnOf "block_cards" "block_cards" (qg jy) (qe jy) (zh jy) .none kV12 dc12 pm12 an12 cd12 ct12), sl12⟩) (c12 : W.codeIn K cd12 "block_cards" = true) (k12 : W.keepIn K (.ref f12) = true)
  (a13 : W.nsIn K mainGlobals "cards_of" = some (some (.ref f13))) (l13 : K.lookup f13 = some ⟨oc13, od13, .func (W.fnOf "cards_of" "cards_of" (qg vy) (qe vy) (zh vy) .none kV13 dc13 pm13 an13 cd13 ct13), sl13⟩) (c13 : W.codeIn K cd13 "cards_of" = true) (k13 : W.keepIn K (.ref f13) = true)
  (a14 : W.nsIn K mainGlobals "names_at_head" = some (some (.ref f14))) (l14 : K.lookup f14 = some ⟨oc14, od14, .func (W.fnOf "names_at_head" "names_at_head" (qg x5) (qe x5) (zh x5) .none kV14 dc14 pm14 an14 cd14 ct14), sl14⟩) (c14 : W.codeIn K cd14 "names_at_head" = true) (k14 : W.keepIn K (.ref f14) = true)
  (a15 : W.nsIn K mainGlobals "block_strangers" = some (some (.ref f15))) (l15 : K.lookup f15 = some ⟨oc15, od15, .func (W.fnOf "block_strangers" "block_strangers" (qg xn) (qe xn) (zh xn) .none kV15 dc15 pm15 an15 cd15 ct15), sl15⟩) (c15 : W.codeIn K cd15 "block_strangers" = true) (k15 : W.keepIn K (.ref f15) = true)
  (a16 : W.nsIn K mainGlobals "strangers" = some (some (.ref f16))) (l16 : K.lookup f16 = some ⟨oc16, od16, .func (W.fnOf "strangers" "strangers" (qg kr) (qe kr) (zh kr) .none kV16 dc16 pm16 an16 cd16 ct16), sl16⟩) (c16 : W.codeIn K cd16 "strangers" = true) (k16 : W.keepIn K (.ref f16) = true)
  (a17 : W.findIn K (.ref cCourse) "__init__" = some (some (.ref f17))) (i17 : W.isFn K (.ref f17) = true) (l17 : K.lookup f17 = some ⟨oc17, od17, .func (W.fnOf "__init__" "Course.__init__" (qg jz) (qe jz) (zh jz) .none kV17 dc17 pm17 an17 cd17 ct17), sl17⟩) (c17 : W.codeIn K cd17 "Course.__init__" = true) (k17 : W.keepIn K (.ref f17) = true)
  (a18 : W.findIn K (.ref cCourse) "put_ahead" = some (some (.ref f18))) (i18 : W.isFn K (.ref f18) = true) (l18 : K.lookup f18 = some ⟨oc18, od18, .func (W.fnOf "put_ahead" "Course.put_ahead" (qg xk) (qe xk) (zh xk) .none kV18 dc18 pm18 an18 cd18 ct18), sl18⟩) (c18 : W.codeIn K cd18 "Course.put_ahead" = true) (k18 : W.keepIn K (.ref f18) = true)
  (a19 : W.findIn K (.ref cCourse) "go" = some (some (.ref f19))) (i19 : W.isFn K (.ref f19) = true) (l19 : K.lookup f19 = some ⟨oc19, od19, .func (W.fnOf "go" "Course.go" (qg vd) (qe vd) (zh vd) .none kV19 dc19 pm19 an19 cd19 ct19), sl19⟩) (c19 : W.codeIn K cd19 "Course.go" = true) (k19 : W.keepIn K (.ref f19) = true)
  (a20 : W.findIn K (.ref cCourse) "begin" = some (some (.ref f20))) (i20 : W.isFn K (.ref f20) = true) (l20 : K.lookup f20 = some ⟨oc20, od20, .func (W.fnOf "begin" "Course.begin" (qg jn) (qe jn) (zh jn) .none kV20 dc20 pm20 an20 cd20 ct20), sl20⟩) (c20 : W.codeIn K cd20 "Course.begin" = true) (k20 : W.keepIn K (.ref f20) = true)
  (a21 : W.findIn K (.ref cCourse) "begin_while" = some (some (.ref f21))) (i21 : W.isFn K (.ref f21) = true) (l21 : K.lookup f21 = some ⟨oc21, od21, .func (W.fnOf "begin_while" "Course.begin_while" (qg xb) (qe xb) (zh xb) .none kV21 dc21 pm21 an21 cd21 ct21), sl21⟩) (c21 : W.codeIn K cd21 "Course.begin_while" = true) (k21 : W.keepIn K (.ref f21) = true)
  (a22 : W.findIn K (.ref cCourse) "begin_with" = some (some (.ref f22))) (i22 : W.isFn K (.ref f22) = true) (l22 : K.lookup f22 = some ⟨oc22, od22, .func (W.fnOf "begin_with" "Course.begin_with" (qg xg) (qe xg) (zh xg) .none kV22 dc22 pm22 an22 cd22 ct22), sl22⟩) (c22 : W.codeIn K cd22 "Course.begin_with" = true) (k22 : W.keepIn K (.ref f22) = true)
  (a23 : W.findIn K (.ref cCourse) "worth_now" = some (some (.ref f23))) (i23 : W.isFn K (.ref f23) = true) (l23 : K.lookup f23 = some ⟨oc23, od23, .func (W.fnOf "worth_now" "Course.worth_now" (qg xj) (qe xj) (zh xj) .none kV23 dc23 pm23 an23 cd23 ct23), sl23⟩) (c23 : W.codeIn K cd23 "Course.worth_now" = true) (k23 : W.keepIn K (.ref f23) = true)
  (a24 : W.findIn K (.ref cCourse) "holds_now" = some (some (.ref f24))) (i24 : W.isFn K (.ref f24) = true) (l24 : K.lookup f24 = some ⟨oc24, od24, .func (W.fnOf "holds_now" "Course.holds_now" (qg xl) (qe xl) (zh xl) .none kV24 dc24 pm24 an24 cd24 ct24), sl24⟩) (c24 : W.codeIn K cd24 "Course.holds_now" = true) (k24 : W.keepIn K (.ref f24) = true)
  (a25 : W.nsIn K mainGlobals "followed" = some (some (.ref f25))) (l25 : K.lookup f25 = some ⟨oc25, od25, .func (W.fnOf "followed" "followed" (qg vx) (qe vx) (zh vx) .none kV25 dc25 pm25 an25 cd25 ct25), sl25⟩) (c25 : W.codeIn K cd25 "followed" = true) (k25 : W.keepIn K (.ref f25) = true)
  (a26 : W.nsIn K mainGlobals "one_where" = some (some (.ref f26))) (l26 : K.lookup f26 = some ⟨oc26, od26, .func (W.fnOf "one_where" "one_where" (qg kt) (qe kt) (zh kt) .none kV26 dc26 pm26 an26 cd26 ct26), sl26⟩) (c26 : W.codeIn K cd26 "one_where" = true) (k26 : W.keepIn K (.ref f26) = true)
  (a27 : W.nsIn K mainGlobals "made_of_two" = some (some (.ref f27))) (l27 : K.lookup f27 = some ⟨oc27, od27, .func (W.fnOf "made_of_two" "made_of_two" (qg jv) (qe jv) (zh jv) .none kV27 dc27 pm27 an27 cd27 ct27), sl27⟩) (c27 : W.codeIn K cd27 "made_of_two" = true) (k27 : W.keepIn K (.ref f27) = true)
  (a28 : W.findIn K (.ref cMachine) "__init__" = some (some (.ref f28))) (i28 : W.isFn K (.ref f28) = true) (l28 : K.lookup f28 = some ⟨oc28, od28, .func (W.fnOf "__init__" "Machine.__init__" (qg jm) (qe jm) (zh jm) .none kV28 dc28 pm28 an28 cd28 ct28), sl28⟩) (c28 : W.codeIn K cd28 "Machine.__init__" = true) (k28 : W.keepIn K (.ref f28) = true)
  (a29 : W.findIn K (.ref cMachine) "ending" = some (some (.ref f29))) (i29 : W.isFn K (.ref f29) = true) (l29 : K.lookup f29 = some ⟨oc29, od29, .func (W.fnOf "ending" "Machine.ending" (qg xy) (qe xy) (zh xy) .none kV29 dc29 pm29 an29 cd29 ct29), sl29⟩) (c29 : W.codeIn K cd29 "Machine.ending" = true) (k29 : W.keepIn K (.ref f29) = true)
  (a30 : W.findIn K (.ref cMachine) "state" = some (some (.ref f30))) (i30 : W.isFn K (.ref f30) = true) (l30 : K.lookup f30 = some ⟨oc30, od30, .func (W.fnOf "state" "Machine.state" (qg jr) (qe jr) (zh jr) .none kV30 dc30 pm30 an30 cd30 ct30), sl30⟩) (c30 : W.codeIn K cd30 "Machine.state" = true) (k30 : W.keepIn K (.ref f30) = true)
  (a31 : W.findIn K (.ref cMachine) "do_card" = some (some (.ref f31))) (i31 : W.isFn K (.ref f31) = true) (l31 : K.lookup f31 = some ⟨oc31, od31, .func (W.fnOf "do_card" "Machine.do_card" (qg xp) (qe xp) (zh xp) .none kV31 dc31 pm31 an31 cd31 ct31), sl31⟩) (c31 : W.codeIn K cd31 "Machine.do_card" = true) (k31 : W.keepIn K (.ref f31) = true)
  (a32 : W.findIn K (.ref cMachine) "do_on_pile" = some (some (.ref f32))) (i32 : W.isFn K (.ref f32) = true) (l32 : K.lookup f32 = some ⟨oc32, od32, .func (W.fnOf "do_on_pile" "Machine.do_on_pile" (qg xa) (qe xa) (zh xa) .none kV32 dc32 pm32 an32 cd32 ct32), sl32⟩) (c32 : W.codeIn K cd32 "Machine.do_on_pile" = true) (k32 : W.keepIn K (.ref f32) = true)
  (a33 : W.findIn K (.ref cMachine) "taken_off" = some (some (.ref f33))) (i33 : W.isFn K (.ref f33) = true) (l33 : K.lookup f33 = some ⟨oc33, od33, .func (W.fnOf "taken_off" "Machine.taken_off" (qg xc) (qe xc) (zh xc) .none kV33 dc33 pm33 an33 cd33 ct33), sl33⟩) (c33 : W.codeIn K cd33 "Machine.taken_off" = true) (k33 : W.keepIn K (.ref f33) = true)
  (a34 : W.findIn K (.ref cMachine) "place_on_pile" = some (some (.ref f34))) (i34 : W.isFn K (.ref f34) = true) (l34 : K.lookup f34 = some ⟨oc34, od34, .func (W.fnOf "place_on_pile" "Machine.place_on_pile" (qg qv) (qe qv) (zh qv) .none kV34 dc34 pm34 an34 cd34 ct34), sl34⟩) (c34 : W.codeIn K cd34 "Machine.place_on_pile" = true) (k34 : W.keepIn K (.ref f34) = true)
  (a35 : W.findIn K (.ref cMachine) "leave_out" = some (some (.ref f35))) (i35 : W.isFn K (.ref f35) = true) (l35 : K.lookup f35 = some ⟨oc35, od35, .func (W.fnOf "leave_out" "Machine.leave_out" (qg xf) (qe xf) (zh xf) .none kV35 dc35 pm35 an35 cd35 ct35), sl35⟩) (c35 : W.codeIn K cd35 "Machine.leave_out" = true) (k35 : W.keepIn K (.ref f35) = true)
  (a36 : W.findIn K (.ref cMachine) "go_back" = some (some (.ref f36))) (i36 : W.isFn K (.ref f36) = true) (l36 : K.lookup f36 = some ⟨oc36, od36, .func (W.fnOf "go_back" "Machine.go_back" (qg xo) (qe xo) (zh xo) .none kV36 dc36 pm36 an36 cd36 ct36), sl36⟩) (c36 : W.codeIn K cd36 "Machine.go_back" = true) (k36 : W.keepIn K (.ref f36) = true)
  (a37 : W.nsIn K mainGlobals "ran" = some (some (.ref f37))) (l37 : K.lookup f37 = some ⟨oc37, od37, .func (W.fnOf "ran" "ran" (qg zek) (qe zek) (zh zek) .none kV37 dc37 pm37 an37 cd37 ct37), sl37⟩) (c37 : W.codeIn K cd37 "ran" = true) (k37 : W.keepIn K (.ref f37) = true)
  (a38 : W.nsIn K mainGlobals "_law_draw" = some (some (.ref f38))) (l38 : K.lookup f38 = some ⟨oc38, od38, .func (W.fnOf "_law_draw" "_law_draw" (qg vw) (qe vw) (zh vw) .none kV38 dc38 pm38 an38 cd38 ct38), sl38⟩) (c38 : W.codeIn K cd38 "_law_draw" = true) (k38 : W.keepIn K (.ref f38) = true)
  (a39 : W.nsIn K mainGlobals "_law_whole" = some (some (.ref f39))) (l39 : K.lookup f39 = some ⟨oc39, od39, .func (W.fnOf "_law_whole" "_law_whole" (qg ku) (qe ku) (zh ku) .none kV39 dc39 pm39 an39 cd39 ct39), sl39⟩) (c39 : W.codeIn K cd39 "_law_whole" = true) (k39 : W.keepIn K (.ref f39) = true)
  (a40 : W.nsIn K mainGlobals "_law_at" = some (some (.ref f40))) (l40 : K.lookup f40 = some ⟨oc40, od40, .func (W.fnOf "_law_at" "_law_at" (qg zav) (qe zav) (zh zav) .none kV40 dc40 pm40 an40 cd40 ct40), sl40⟩) (c40 : W.codeIn K cd40 "_law_at" = true) (k40 : W.keepIn K (.ref f40) = true)
  (a41 : W.nsIn K mainGlobals "_law_alike" = some (some (.ref f41))) (l41 : K.lookup f41 = some ⟨oc41, od41, .func (W.fnOf "_law_alike" "_law_alike" (qg va) (qe va) (zh va) .none kV41 dc41 pm41 an41 cd41 ct41), sl41⟩) (c41 : W.codeIn K cd41 "_law_alike" = true) (k41 : W.keepIn K (.ref f41) = true)
  (a42 : W.nsIn K mainGlobals "_law_leaf" = some (some (.ref f42))) (l42 : K.lookup f42 = some ⟨oc42, od42, .func (W.fnOf "_law_leaf" "_law_leaf" (qg vt) (qe vt) (zh vt) .none kV42 dc42 pm42 an42 cd42 ct42), sl42⟩) (c42 : W.codeIn K cd42 "_law_leaf" = true) (k42 : W.keepIn K (.ref f42) = true)
  (a43 : W.nsIn K mainGlobals "_law_sum_of" = some (some (.ref f43))) (l43 : K.lookup f43 = some ⟨oc43, od43, .func (W.fnOf "_law_sum_of" "_law_sum_of" (qg kf) (qe kf) (zh kf) .none kV43 dc43 pm43 an43 cd43 ct43), sl43⟩) (c43 : W.codeIn K cd43 "_law_sum_of" = true) (k43 : W.keepIn K (.ref f43) = true)
  (a44 : W.nsIn K mainGlobals "_law_test_of" = some (some (.ref f44))) (l44 : K.lookup f44 = some ⟨oc44, od44, .func (W.fnOf "_law_test_of" "_law_test_of" (qg jw) (qe jw) (zh jw) .none kV44 dc44 pm44 an44 cd44 ct44), sl44⟩) (c44 : W.codeIn K cd44 "_law_test_of" = true) (k44 : W.keepIn K (.ref f44) = true)
  (a45 : W.nsIn K mainGlobals "_law_head_of" = some (some (.ref f45))) (l45 : K.lookup f45 = some ⟨oc45, od45, .func (W.fnOf "_law_head_of" "_law_head_of" (qg jx) (qe jx) (zh jx) .none kV45 dc45 pm45 an45 cd45 ct45), sl45⟩) (c45 : W.codeIn K cd45 "_law_head_of" = true) (k45 : W.keepIn K (.ref f45) = true)
  (a46 : W.nsIn K mainGlobals "_law_close" = some (some (.ref f46))) (l46 : K.lookup f46 = some ⟨oc46, od46, .func (W.fnOf "_law_close" "_law_close" (qg kz) (qe kz) (zh kz) .none kV46 dc46 pm46 an46 cd46 ct46), sl46⟩) (c46 : W.codeIn K cd46 "_law_close" = true) (k46 : W.keepIn K (.ref f46) = true)
  (a47 : W.nsIn K mainGlobals "_law_grown" = some (some (.ref f47))) (l47 : K.lookup f47 = some ⟨oc47, od47, .func (W.fnOf "_law_grown" "_law_grown" (qg ky) (qe ky) (zh ky) .none kV47 dc47 pm47 an47 cd47 ct47), sl47⟩) (c47 : W.codeIn K cd47 "_law_grown" = true) (k47 : W.keepIn K (.ref f47) = true)
  (a48 : W.nsIn K mainGlobals "_law_names_of" = some (some (.ref f48))) (l48 : K.lookup f48 = some ⟨oc48, od48, .func (W.fnOf "_law_names_of" "_law_names_of" (qg jl) (qe jl) (zh jl) .none kV48 dc48 pm48 an48 cd48 ct48), sl48⟩) (c48 : W.codeIn K cd48 "_law_names_of" = true) (k48 : W.keepIn K (.ref f48) = true)
  (a49 : W.nsIn K mainGlobals "_law_starts_of" = some (some (.ref f49))) (l49 : K.lookup f49 = some ⟨oc49, od49, .func (W.fnOf "_law_starts_of" "_law_starts_of" (qg x6) (qe x6) (zh x6) .none kV49 dc49 pm49 an49 cd49 ct49), sl49⟩) (c49 : W.codeIn K cd49 "_law_starts_of" = true) (k49 : W.keepIn K (.ref f49) = true)
  (a50 : W.nsIn K mainGlobals "_law_last" = some (some (.ref f50))) (l50 : K.lookup f50 = some ⟨oc50, od50, .func (W.fnOf "_law_last" "_law_last" (qg vv) (qe vv) (zh vv) .none kV50 dc50 pm50 an50 cd50 ct50), sl50⟩) (c50 : W.codeIn K cd50 "_law_last" = true) (k50 : W.keepIn K (.ref f50) = true)
  (a51 : W.nsIn K mainGlobals "_law_value" = some (some (.ref f51))) (l51 : K.lookup f51 = some ⟨oc51, od51, .func (W.fnOf "_law_value" "_law_value" (qg kv) (qe kv) (zh kv) .none kV51 dc51 pm51 an51 cd51 ct51), sl51⟩) (c51 : W.codeIn K cd51 "_law_value" = true) (k51 : W.keepIn K (.ref f51) = true)
  (a52 : W.nsIn K mainGlobals "_law_true" = some (some (.ref f52))) (l52 : K.lookup f52 = some ⟨oc52, od52, .func (W.fnOf "_law_true" "_law_true" (qg vq) (qe vq) (zh vq) .none kV52 dc52 pm52 an52 cd52 ct52), sl52⟩) (c52 : W.codeIn K cd52 "_law_true" = true) (k52 : W.keepIn K (.ref f52) = true)
  (a53 : W.nsIn K mainGlobals "_law_next" = some (some (.ref f53))) (l53 : K.lookup f53 = some ⟨oc53, od53, .func (W.fnOf "_law_next" "_law_next" (qg vr) (qe vr) (zh vr) .none kV53 dc53 pm53 an53 cd53 ct53), sl53⟩) (c53 : W.codeIn K cd53 "_law_next" = true) (k53 : W.keepIn K (.ref f53) = true)
  (a54 : W.nsIn K mainGlobals "_law_walk" = some (some (.ref f54))) (l54 : K.lookup f54 = some ⟨oc54, od54, .func (W.fnOf "_law_walk" "_law_walk" (qg vp) (qe vp) (zh vp) .none kV54 dc54 pm54 an54 cd54 ct54), sl54⟩) (c54 : W.codeIn K cd54 "_law_walk" = true) (k54 : W.keepIn K (.ref f54) = true)
  (a55 : W.nsIn K mainGlobals "_law_cards_for" = some (some (.ref f55))) (l55 : K.lookup f55 = some ⟨oc55, od55, .func (W.fnOf "_law_cards_for" "_law_cards_for" (qg x9) (qe x9) (zh x9) .none kV55 dc55 pm55 an55 cd55 ct55), sl55⟩) (c55 : W.codeIn K cd55 "_law_cards_for" = true) (k55 : W.keepIn K (.ref f55) = true)
  (a56 : W.nsIn K mainGlobals "_law_fork_over" = some (some (.ref f56))) (l56 : K.lookup f56 = some ⟨oc56, od56, .func (W.fnOf "_law_fork_over" "_law_fork_over" (qg x8) (qe x8) (zh x8) .none kV56 dc56 pm56 an56 cd56 ct56), sl56⟩) (c56 : W.codeIn K cd56 "_law_fork_over" = true) (k56 : W.keepIn K (.ref f56) = true)
  (a57 : W.nsIn K mainGlobals "law" = some (some (.ref f57))) (l57 : K.lookup f57 = some ⟨oc57, od57, .func (W.fnOf "law" "law" (qg zbl) (qe zbl) (zh zbl) .none kV57 dc57 pm57 an57 cd57 ct57), sl57⟩) (c57 : W.codeIn K cd57 "law" = true) (k57 : W.keepIn K (.ref f57) = true)
  (z1 : W.nsIn K mainGlobals "len" = some none) (z2 : W.nsIn K mainGlobals "range" = some none) (z3 : W.nsIn K mainGlobals "isinstance" = some none) (z4 : W.nsIn K mainGlobals "list" = some none) (z5 : W.nsIn K mainGlobals "tuple" = some none) (z6 : W.nsIn K mainGlobals "str" = some none) (z7 : W.nsIn K mainGlobals "int" = some none) (z8 : W.nsIn K mainGlobals "bool" = some none) (z9 : W.nsIn K mainGlobals "reversed" = some none) {gn0 : Addr} {gd0 : Option Addr} {gt0 : Tok} {gc0 : Nat} {gs0 : Array (Option Value)} (zg0 : W.nsIn K mainGlobals "AWAY" = some (some (.ref gn0))) (zl0 : K.lookup gn0 = some ⟨.type "tuple", gd0, .seq #[.str "away" gt0] gc0, gs0⟩) {gn1 : Addr} {gd1 : Option Addr} {gt1 gu1 : Tok} {gc1 : Nat} {gs1 : Array (Option Value)} (zg1 : W.nsIn K mainGlobals "OIL_CARDS" = some (some (.ref gn1))) (zl1 : K.lookup gn1 = some ⟨.type "tuple", gd1, .seq #[.str "burn" gt1, .str "back" gu1] gc1, gs1⟩) :
  ∃ T : Txt K mg, T.f_law = f57 ∧ ∃ kV dc pm an cd ct, T.fd_law = W.fnOf "law" "law" (qg zbl) (qe zbl) (zh zbl) .none kV dc pm an cd ct := by
 have F1 := qm (st := zdt) l1 c1 k1
 have B1 := F1.binds (ps := ["k"]) fun _ _ _ _ _ _ => len1 fun _ => rfl
 have F2 := qm (st := vo) l2 c2 k2
 have B2 := F2.binds (ps := ["names", "name"]) fun _ _ _ _ _ _ => len2 fun _ _ => rfl
 have F3 := qm (st := vn) l3 c3 k3
 have B3 := F3.binds (ps := ["word", "first", "second"]) fun _ _ _ _ _ _ => len3 fun _ _ _ => rfl
 have F4 := qm (st := zb3) l4 c4 k4
 have B4 := F4.binds (ps := ["part", "names", "values"]) fun _ _ _ _ _ _ => len3 fun _ _ _ => rfl
 have F5 := qm (st := zb4) l5 c5 k5
 have B5 := F5.binds (ps := ["test", "names", "values"]) fun _ _ _ _ _ _ => len3 fun _ _ _ => rfl
 have F6 := qm (st := ke) l6 c6 k6
 have B6 := F6.binds (ps := ["part"]) fun _ _ _ _ _ _ => len1 fun _ => rfl
 have F7 := qm (st := kq) l7 c7 k7
 have B7 := F7.binds (ps := ["part", "names"]) fun _ _ _ _ _ _ => len2 fun _ _ => rfl
 have F8 := qm (st := kg) l8 c8 k8
 have B8 := F8.binds (ps := ["first", "second"]) fun _ _ _ _ _ _ => len2 fun _ _ => rfl
 have F9 := qm (st := kb) l9 c9 k9
 have B9 := F9.binds (ps := ["test", "names"]) fun _ _ _ _ _ _ => len2 fun _ _ => rfl
 have F10 := qm (st := ka) l10 c10 k10
 have B10 := F10.binds (ps := ["test", "first", "second"]) fun _ _ _ _ _ _ => len3 fun _ _ _ => rfl
 have F11 := qm (st := ju) l11 c11 k11
 have B11 := F11.binds (ps := ["test", "inner"]) fun _ _ _ _ _ _ => len2 fun _ _ => rfl
 have F12 := qm (st := jy) l12 c12 k12
 have B12 := F12.binds (ps := ["block", "names"]) fun _ _ _ _ _ _ => len2 fun _ _ => rfl
 have F13 := qm (st := vy) l13 c13 k13
 have B13 := F13.binds (ps := ["program"]) fun _ _ _ _ _ _ => len1 fun _ => rfl
 have F14 := qm (st := x5) l14 c14 k14
 have B14 := F14.binds (ps := ["order"]) fun _ _ _ _ _ _ => len1 fun _ => rfl
 have F15 := qm (st := xn) l15 c15 k15
 have B15 := F15.binds (ps := ["block", "names"]) fun _ _ _ _ _ _ => len2 fun _ _ => rfl
 have F16 := qm (st := kr) l16 c16 k16
 have B16 := F16.binds (ps := ["program"]) fun _ _ _ _ _ _ => len1 fun _ => rfl
 have F17 := qm (st := jz) l17 c17 k17
 have B17 := F17.binds (ps := ["self", "program", "starts", "oil"]) fun _ _ _ _ _ _ => len4 fun _ _ _ _ => rfl
 have F18 := qm (st := xk) l18 c18 k18
 have B18 := F18.binds (ps := ["self", "block"]) fun _ _ _ _ _ _ => len2 fun _ _ => rfl
 have F19 := qm (st := vd) l19 c19 k19
 have B19 := F19.binds (ps := ["self"]) fun _ _ _ _ _ _ => len1 fun _ => rfl
 have F20 := qm (st := jn) l20 c20 k20
 have B20 := F20.binds (ps := ["self", "order"]) fun _ _ _ _ _ _ => len2 fun _ _ => rfl
 have F21 := qm (st := xb) l21 c21 k21
 have B21 := F21.binds (ps := ["self", "order"]) fun _ _ _ _ _ _ => len2 fun _ _ => rfl
 have F22 := qm (st := xg) l22 c22 k22
 have B22 := F22.binds (ps := ["self", "order"]) fun _ _ _ _ _ _ => len2 fun _ _ => rfl
 have F23 := qm (st := xj) l23 c23 k23
 have B23 := F23.binds (ps := ["self", "part"]) fun _ _ _ _ _ _ => len2 fun _ _ => rfl
 have F24 := qm (st := xl) l24 c24 k24
 have B24 := F24.binds (ps := ["self", "test"]) fun _ _ _ _ _ _ => len2 fun _ _ => rfl
 have F25 := qm (st := vx) l25 c25 k25
 have B25 := F25.binds (ps := ["program", "starts", "oil"]) fun _ _ _ _ _ _ => len3 fun _ _ _ => rfl
 have F26 := qm (st := kt) l26 c26 k26
 have B26 := F26.binds (ps := ["held"]) fun _ _ _ _ _ _ => len1 fun _ => rfl
 have F27 := qm (st := jv) l27 c27 k27
 have B27 := F27.binds (ps := ["word", "first", "second"]) fun _ _ _ _ _ _ => len3 fun _ _ _ => rfl
 have F28 := qm (st := jm) l28 c28 k28
 have B28 := F28.binds (ps := ["self", "cards", "pile", "oil"]) fun _ _ _ _ _ _ => len4 fun _ _ _ _ => rfl
 have F29 := qm (st := xy) l29 c29 k29
 have B29 := F29.binds (ps := ["self"]) fun _ _ _ _ _ _ => len1 fun _ => rfl
 have F30 := qm (st := jr) l30 c30 k30
 have B30 := F30.binds (ps := ["self"]) fun _ _ _ _ _ _ => len1 fun _ => rfl
 have F31 := qm (st := xp) l31 c31 k31
 have B31 := F31.binds (ps := ["self"]) fun _ _ _ _ _ _ => len1 fun _ => rfl
 have F32 := qm (st := xa) l32 c32 k32
 have B32 := F32.binds (ps := ["self", "card"]) fun _ _ _ _ _ _ => len2 fun _ _ => rfl
 have F33 := qm (st := xc) l33 c33 k33
 have B33 := F33.binds (ps := ["self"]) fun _ _ _ _ _ _ => len1 fun _ => rfl
 have F34 := qm (st := qv) l34 c34 k34
 have B34 := F34.binds (ps := ["self", "place"]) fun _ _ _ _ _ _ => len2 fun _ _ => rfl
 have F35 := qm (st := xf) l35 c35 k35
 have B35 := F35.binds (ps := ["self", "count"]) fun _ _ _ _ _ _ => len2 fun _ _ => rfl
 have F36 := qm (st := xo) l36 c36 k36
 have B36 := F36.binds (ps := ["self", "count"]) fun _ _ _ _ _ _ => len2 fun _ _ => rfl
 have F37 := qm (st := zek) l37 c37 k37
 have B37 := F37.binds (ps := ["cards", "pile", "oil"]) fun _ _ _ _ _ _ => len3 fun _ _ _ => rfl
 have F38 := qm (st := vw) l38 c38 k38
 have B38 := F38.binds (ps := ["_law_number", "_law_prime", "_law_many"]) fun _ _ _ _ _ _ => len3 fun _ _ _ => rfl
 have F39 := qm (st := ku) l39 c39 k39
 have B39 := F39.binds (ps := ["_law_found"]) fun _ _ _ _ _ _ => len1 fun _ => rfl
 have F40 := qm (st := zav) l40 c40 k40
 have B40 := F40.binds (ps := ["_law_script", "_law_k"]) fun _ _ _ _ _ _ => len2 fun _ _ => rfl
 have F41 := qm (st := va) l41 c41 k41
 have B41 := F41.binds (ps := ["_law_found", "_law_due"]) fun _ _ _ _ _ _ => len2 fun _ _ => rfl
 have F42 := qm (st := vt) l42 c42 k42
 have B42 := F42.binds (ps := ["_law_salt", "_law_prime", "_law_second", "_law_scope"]) fun _ _ _ _ _ _ => len4 fun _ _ _ _ => rfl
 have F43 := qm (st := kf) l43 c43 k43
 have B43 := F43.binds (ps := ["_law_salt", "_law_scope"]) fun _ _ _ _ _ _ => len2 fun _ _ => rfl
 have F44 := qm (st := jw) l44 c44 k44
 have B44 := F44.binds (ps := ["_law_salt", "_law_scope"]) fun _ _ _ _ _ _ => len2 fun _ _ => rfl
 have F45 := qm (st := jx) l45 c45 k45
 have B45 := F45.binds (ps := ["_law_way", "_law_salt", "_law_scope"]) fun _ _ _ _ _ _ => len3 fun _ _ _ => rfl
 have F46 := qm (st := kz) l46 c46 k46
 have B46 := F46.binds (ps := ["_law_blocks", "_law_heads", "_law_scope", "_law_salt"]) fun _ _ _ _ _ _ => len4 fun _ _ _ _ => rfl
 have F47 := qm (st := ky) l47 c47 k47
 have B47 := F47.binds (ps := ["_law_cells", "_law_names", "_law_more"]) fun _ _ _ _ _ _ => len3 fun _ _ _ => rfl
 have F48 := qm (st := jl) l48 c48 k48
 have B48 := F48.binds (ps := ["_law_cell"]) fun _ _ _ _ _ _ => len1 fun _ => rfl
 have F49 := qm (st := x6) l49 c49 k49
 have B49 := F49.binds (ps := ["_law_cell", "_law_names"]) fun _ _ _ _ _ _ => len2 fun _ _ => rfl
 have F50 := qm (st := vv) l50 c50 k50
 have B50 := F50.binds (ps := ["_law_names", "_law_name"]) fun _ _ _ _ _ _ => len2 fun _ _ => rfl
 have F51 := qm (st := kv) l51 c51 k51
 have B51 := F51.binds (ps := ["_law_part", "_law_names", "_law_pots"]) fun _ _ _ _ _ _ => len3 fun _ _ _ => rfl
 have F52 := qm (st := vq) l52 c52 k52
 have B52 := F52.binds (ps := ["_law_test", "_law_names", "_law_pots"]) fun _ _ _ _ _ _ => len3 fun _ _ _ => rfl
 have F53 := qm (st := vr) l53 c53 k53
 have B53 := F53.binds (ps := ["_law_order", "_law_names", "_law_pots", "_law_told"]) fun _ _ _ _ _ _ => len4 fun _ _ _ _ => rfl
 have F54 := qm (st := vp) l54 c54 k54
 have B54 := F54.binds (ps := ["_law_program", "_law_starts", "_law_oil"]) fun _ _ _ _ _ _ => len3 fun _ _ _ => rfl
 have F55 := qm (st := x9) l55 c55 k55
 have B55 := F55.binds (ps := ["_law_thing", "_law_names"]) fun _ _ _ _ _ _ => len2 fun _ _ => rfl
 have F56 := qm (st := x8) l56 c56 k56
 have B56 := F56.binds (ps := ["_law_row"]) fun _ _ _ _ _ _ => len1 fun _ => rfl
 have F57 := qm (st := zbl) l57 c57 k57
 have B57 := F57.binds (ps := ["_law_script"]) fun _ _ _ _ _ _ => len1 fun _ => rfl
 exact ⟨{ f_wall := _, fd_wall := _, wall := ⟨F1, B1, W.mg_of X G a1⟩, f_place_of := _, fd_place_of := _, place_of := ⟨F2, B2, W.mg_of X G a2⟩, f_reckoned := _, fd_reckoned := _, reckoned := ⟨F3, B3, W.mg_of X G a3⟩, f_worth := _, fd_worth := _, worth := ⟨F4, B4, W.mg_of X G a4⟩, f_holds := _, fd_holds := _, holds := ⟨F5, B5, W.mg_of X G a5⟩, f_names_used := _, fd_names_used := _, names_used := ⟨F6, B6, W.mg_of X G a6⟩, f_sum_cards := _, fd_sum_cards := _, sum_cards := ⟨F7, B7, W.mg_of X G a7⟩, f_both_cards := _, fd_both_cards := _, both_cards := ⟨F8, B8, W.mg_of X G a8⟩, f_test_cards := _, fd_test_cards := _, test_cards := ⟨F9, B9, W.mg_of X G a9⟩, f_when_cards := _, fd_when_cards := _, when_cards := ⟨F10, B10, W.mg_of X G a10⟩, f_while_cards := _, fd_while_cards := _, while_cards := ⟨F11, B11, W.mg_of X G a11⟩, f_block_cards := _, fd_block_cards := _, block_cards := ⟨F12, B12, W.mg_of X G a12⟩, f_cards_of := _, fd_cards_of := _, cards_of := ⟨F13, B13, W.mg_of X G a13⟩, f_names_at_head := _, fd_names_at_head := _, names_at_head := ⟨F14, B14, W.mg_of X G a14⟩, f_block_strangers := _, fd_block_strangers := _, block_strangers := ⟨F15, B15, W.mg_of X G a15⟩, f_strangers := _, fd_strangers := _, strangers := ⟨F16, B16, W.mg_of X G a16⟩, f_Course_init := _, fd_Course_init := _, Course_init := ⟨F17, B17⟩, me_Course_init := ⟨a17, i17, k17⟩, f_Course_put_ahead := _, fd_Course_put_ahead := _, Course_put_ahead := ⟨F18, B18⟩, me_Course_put_ahead := ⟨a18, i18, k18⟩, f_Course_go := _, fd_Course_go := _, Course_go := ⟨F19, B19⟩, me_Course_go := ⟨a19, i19, k19⟩, f_Course_begin := _, fd_Course_begin := _, Course_begin := ⟨F20, B20⟩, me_Course_begin := ⟨a20, i20, k20⟩, f_Course_begin_while := _, fd_Course_begin_while := _, Course_begin_while := ⟨F21, B21⟩, me_Course_begin_while := ⟨a21, i21, k21⟩, f_Course_begin_with := _, fd_Course_begin_with := _, Course_begin_with := ⟨F22, B22⟩, me_Course_begin_with := ⟨a22, i22, k22⟩, f_Course_worth_now := _, fd_Course_worth_now := _, Course_worth_now := ⟨F23, B23⟩, me_Course_worth_now := ⟨a23, i23, k23⟩, f_Course_holds_now := _, fd_Course_holds_now := _, Course_holds_now := ⟨F24, B24⟩, me_Course_holds_now := ⟨a24, i24, k24⟩, f_followed := _, fd_followed := _, followed := ⟨F25, B25, W.mg_of X G a25⟩, f_one_where := _, fd_one_where := _, one_where := ⟨F26, B26, W.mg_of X G a26⟩, f_made_of_two := _, fd_made_of_two := _, made_of_two := ⟨F27, B27, W.mg_of X G a27⟩, f_Machine_init := _, fd_Machine_init := _, Machine_init := ⟨F28, B28⟩, me_Machine_init := ⟨a28, i28, k28⟩, f_Machine_ending := _, fd_Machine_ending := _, Machine_ending := ⟨F29, B29⟩, me_Machine_ending := ⟨a29, i29, k29⟩, f_Machine_state := _, fd_Machine_state := _, Machine_state := ⟨F30, B30⟩, me_Machine_state := ⟨a30, i30, k30⟩, f_Machine_do_card := _, fd_Machine_do_card := _, Machine_do_card := ⟨F31, B31⟩, me_Machine_do_card := ⟨a31, i31, k31⟩, f_Machine_do_on_pile := _, fd_Machine_do_on_pile := _, Machine_do_on_pile := ⟨F32, B32⟩, me_Machine_do_on_pile := ⟨a32, i32, k32⟩, f_Machine_taken_off := _, fd_Machine_taken_off := _, Machine_taken_off := ⟨F33, B33⟩, me_Machine_taken_off := ⟨a33, i33, k33⟩, f_Machine_place_on_pile := _, fd_Machine_place_on_pile := _, Machine_place_on_pile := ⟨F34, B34⟩, me_Machine_place_on_pile := ⟨a34, i34, k34⟩, f_Machine_leave_out := _, fd_Machine_leave_out := _, Machine_leave_out := ⟨F35, B35⟩, me_Machine_leave_out := ⟨a35, i35, k35⟩, f_Machine_go_back := _, fd_Machine_go_back := _, Machine_go_back := ⟨F36, B36⟩, me_Machine_go_back := ⟨a36, i36, k36⟩, f_ran := _, fd_ran := _, ran := ⟨F37, B37, W.mg_of X G a37⟩, f_law_draw := _, fd_law_draw := _, law_draw := ⟨F38, B38, W.mg_of X G a38⟩, f_law_whole := _, fd_law_whole := _, law_whole := ⟨F39, B39, W.mg_of X G a39⟩, f_law_at := _, fd_law_at := _, law_at := ⟨F40, B40, W.mg_of X G a40⟩, f_law_alike := _, fd_law_alike := _, law_alike := ⟨F41, B41, W.mg_of X G a41⟩, f_law_leaf := _, fd_law_leaf := _, law_leaf := ⟨F42, B42, W.mg_of X G a42⟩, f_law_sum_of := _, fd_law_sum_of := _, law_sum_of := ⟨F43, B43, W.mg_of X G a43⟩, f_law_test_of := _, fd_law_test_of := _, law_test_of := ⟨F44, B44, W.mg_of X G a44⟩, f_law_head_of := _, fd_law_head_of := _, law_head_of := ⟨F45, B45, W.mg_of X G a45⟩, f_law_close := _, fd_law_close := _, law_close := ⟨F46, B46, W.mg_of X G a46⟩, f_law_grown := _, fd_law_grown := _, law_grown := ⟨F47, B47, W.mg_of X G a47⟩, f_law_names_of := _, fd_law_names_of := _, law_names_of := ⟨F48, B48, W.mg_of X G a48⟩, f_law_starts_of := _, fd_law_starts_of := _, law_starts_of := ⟨F49, B49, W.mg_of X G a49⟩, f_law_last := _, fd_law_last := _, law_last := ⟨F50, B50, W.mg_of X G a50⟩, f_law_value := _, fd_law_value := _, law_value := ⟨F51, B51, W.mg_of X G a51⟩, f_law_true := _, fd_law_true := _, law_true := ⟨F52, B52, W.mg_of X G a52⟩, f_law_next := _, fd_law_next := _, law_next := ⟨F53, B53, W.mg_of X G a53⟩, f_law_walk := _, fd_law_walk := _, law_walk := ⟨F54, B54, W.mg_of X G a54⟩, f_law_cards_for := _, fd_law_cards_for := _, law_cards_for := ⟨F55, B55, W.mg_of X G a55⟩, f_law_fork_over := _, fd_law_fork_over := _, law_fork_over := ⟨F56, B56, W.mg_of X G a56⟩, f_law := _, fd_law := _, law := ⟨F57, B57, W.mg_of X G a57⟩, c_Course := _, cl_Course := ⟨pgCourse, hdCourse, poCourse, saCourse⟩, mg_Course := W.mg_of X G aCCourse, mk_Course := ⟨mkCourse, a17, i17, kcCourse⟩, na_Course_row := naCourse_row, na_Course_held := naCourse_held, na_Course_said := naCourse_said, na_Course_oil := naCourse_oil, na_Course_used := naCourse_used, na_Course_ahead := naCourse_ahead, c_Machine := _, cl_Machine := ⟨pgMachine, hdMachine, poMachine, saMachine⟩, mg_Machine := W.mg_of X G aCMachine, mk_Machine := ⟨mkMachine, a28, i28, kcMachine⟩, na_Machine_cards := naMachine_cards, na_Machine_pile := naMachine_pile, na_Machine_left := naMachine_left, na_Machine_place := naMachine_place, na_Machine_said := naMachine_said, b_len := W.mg_none_of X G z1, b_range := W.mg_none_of X G z2, b_isinstance := W.mg_none_of X G z3, b_list := W.mg_none_of X G z4, b_tuple := W.mg_none_of X G z5, b_str := W.mg_none_of X G z6, b_int := W.mg_none_of X G z7, b_bool := W.mg_none_of X G z8, b_reversed := W.mg_none_of X G z9, a_AWAY := _, m_AWAY := W.mg_of X G zg0, k_AWAY := fun _ => .inr ⟨_, _, _, zl0, rfl, rfl, (by show 1 ≤ sizeLine; decide), .cons ⟨_, rfl⟩ .nil⟩, a_OIL_CARDS := _, m_OIL_CARDS := W.mg_of X G zg1, k_OIL_CARDS := fun _ => .inr ⟨_, _, _, zl1, rfl, rfl, (by show 2 ≤ sizeLine; decide), .cons ⟨_, rfl⟩ (.cons ⟨_, rfl⟩ .nil)⟩ }, rfl, _, _, _, _, _, _, rfl⟩
theorem walk {l : W.OpenLaw} {q : Program} {loose : List Str} {XP : (Str → Option Value) → Heap → Prop} {YP : World → Heap → Prop} {d : DefRec} {K : Params → W.Frag} (hn : l.most = some 63) (hdf : d.params.defaults = [])
  (hY : ∀ (w : World) (h : Heap), YP w h → (K w.params).In h)
  (F : ∀ (w : World) (mg : Str → Option Value) (fa : Addr) (h : Heap), (K w.params).In h → h.Ns mainGlobals mg → mg d.name = some (.ref fa) →
   ∃ fd : FuncData, (∀ (s : Shared) (u : Value), BindsTo s fd ⟨[u], []⟩ [("_law_script", u)]) ∧ ∀ base : Heap, (K w.params).In base → base.Ns mainGlobals mg → FnOk l.prog w (K w.params) mg base CX0 160 fa fd ["_law_script"] (spLaw (K w.params))) :
  W.WalkO q loose XP YP l.row.toRowW d [] (fun f vs => PySem.call f vs) :=
 L2.walk_of (n := 63) (k := 160) (x := "_law_script") (CX := fun _ => CX0) (sp := fun w => spLaw (K w.params)) hn (by decide) hdf ⟨rfl, by decide, by decide⟩ hY F (fun _ _ a ns hl _ hS => ⟨a, ns, rfl, hS, hl, fun _ => rfl⟩) fun _ _ _ _ _ z => z
theorem fin_of {l : W.OpenLaw} {w : World} {K : W.Frag} {h : Heap} {mg : Str → Option Value} {fa f : Addr} (X : K.In h) (G : h.Ns mainGlobals mg) (hfa : mg "law" = some (.ref fa)) (a1 : W.nsIn K mainGlobals "law" = some (some (.ref f)))
  (t : ∃ T : Txt K mg, T.f_law = f ∧ ∃ kV dc pm an cd ct, T.fd_law = W.fnOf "law" "law" (qg zbl) (qe zbl) (zh zbl) .none kV dc pm an cd ct) :
  ∃ fd : FuncData, (∀ (s : Shared) (v : Value), BindsTo s fd ⟨[v], []⟩ [("_law_script", v)]) ∧ ∀ base : Heap, K.In base → base.Ns mainGlobals mg → FnOk l.prog w K mg base CX0 160 fa fd ["_law_script"] (spLaw K) := by
 have e := hfa.symm.trans (W.mg_of X G a1)
 cases e
 obtain ⟨T, rfl, kV, dc, pm, an, cd, ct, e⟩ := t
 refine ⟨T.fd_law, fun s v => ?_, fun base _ _ => ok_law T⟩
 rw [e]
 exact .of_eq rfl
end W12
open PySem PySem.W PyProof.Rows
set_option maxRecDepth 100000 in
set_option maxHeartbeats 0 in
theorem PySem.Challenge.cw_jarcards_k12_whole_both_ways_holds : PySem.Challenge.rw_jarcards_k12_whole_both_ways.Holds := by
 refine W12.top1 ?_
 k_fill
 refine W12.walk (l := PySem.Challenge.rw_jarcards_k12_whole_both_ways) rfl rfl (fun w h Y => W.kIn_of Y) ?F
 case F =>
  intro w mg fa h KX G hmg
  refine' W12.fin_of KX G hmg ?zz (W12.txt_mk KX G ?aCCourse ?pgCourse ?hdCourse ?poCourse ?saCourse ?mkCourse ?kcCourse ?naCourse_row ?naCourse_held ?naCourse_said ?naCourse_oil ?naCourse_used ?naCourse_ahead ?aCMachine ?pgMachine ?hdMachine ?poMachine ?saMachine ?mkMachine ?kcMachine ?naMachine_cards ?naMachine_pile ?naMachine_left ?naMachine_place ?naMachine_said ?a1 ?l1 ?c1 ?k1 ?a2 ?l2 ?c2 ?k2 ?a3 ?l3 ?c3 ?k3 ?a4 ?l4 ?c4 ?k4 ?a5 ?l5 ?c5 ?k5 ?a6 ?l6 ?c6 ?k6 ?a7 ?l7 ?c7 ?k7 ?a8 ?l8 ?c8 ?k8 ?a9 ?l9 ?c9 ?k9 ?a10 ?l10 ?c10 ?k10 ?a11 ?l11 ?c11 ?k11 ?a12 ?l12 ?c12 ?k12 ?a13 ?l13 ?c13 ?k13 ?a14 ?l14 ?c14 ?k14 ?a15 ?l15 ?c15 ?k15 ?a16 ?l16 ?c16 ?k16 ?a17 ?i17 ?l17 ?c17 ?k17 ?a18 ?i18 ?l18 ?c18 ?k18 ?a19 ?i19 ?l19 ?c19 ?k19 ?a20 ?i20 ?l20 ?c20 ?k20 ?a21 ?i21 ?l21 ?c21 ?k21 ?a22 ?i22 ?l22 ?c22 ?k22 ?a23 ?i23 ?l23 ?c23 ?k23 ?a24 ?i24 ?l24 ?c24 ?k24 ?a25 ?l25 ?c25 ?k25 ?a26 ?l26 ?c26 ?k26 ?a27 ?l27 ?c27 ?k27 ?a28 ?i28 ?l28 ?c28 ?k28 ?a29 ?i29 ?l29 ?c29 ?k29 ?a30 ?i30 ?l30 ?c30 ?k30 ?a31 ?i31 ?l31 ?c31 ?k31 ?a32 ?i32 ?l32 ?c32 ?k32 ?a33 ?i33 ?l33 ?c33 ?k33 ?a34 ?i34 ?l34 ?c34 ?k34 ?a35 ?i35 ?l35 ?c35 ?k35 ?a36 ?i36 ?l36 ?c36 ?k36 ?a37 ?l37 ?c37 ?k37 ?a38 ?l38 ?c38 ?k38 ?a39 ?l39 ?c39 ?k39 ?a40 ?l40 ?c40 ?k40 ?a41 ?l41 ?c41 ?k41 ?a42 ?l42 ?c42 ?k42 ?a43 ?l43 ?c43 ?k43 ?a44 ?l44 ?c44 ?k44 ?a45 ?l45 ?c45 ?k45 ?a46 ?l46 ?c46 ?k46 ?a47 ?l47 ?c47 ?k47 ?a48 ?l48 ?c48 ?k48 ?a49 ?l49 ?c49 ?k49 ?a50 ?l50 ?c50 ?k50 ?a51 ?l51 ?c51 ?k51 ?a52 ?l52 ?c52 ?k52 ?a53 ?l53 ?c53 ?k53 ?a54 ?l54 ?c54 ?k54 ?a55 ?l55 ?c55 ?k55 ?a56 ?l56 ?c56 ?k56 ?a57 ?l57 ?c57 ?k57 ?z1 ?z2 ?z3 ?z4 ?z5 ?z6 ?z7 ?z8 ?z9 ?zg0 ?zl0 ?zg1 ?zl1)
  (case zz => k_is)
  (case aCCourse => k_is)
  (case pgCourse => k_is)
  (case hdCourse => k_is)
  (case poCourse => k_is)
  (case saCourse => k_is)
  (case mkCourse => k_is)
  (case kcCourse => first | k_is | kit_is | kernel_rfl)
  (case naCourse_row => k_is)
  (case naCourse_held => k_is)
  (case naCourse_said => k_is)
  (case naCourse_oil => k_is)
  (case naCourse_used => k_is)
  (case naCourse_ahead => k_is)
  (case aCMachine => k_is)
  (case pgMachine => k_is)
  (case hdMachine => k_is)
  (case poMachine => k_is)
  (case saMachine => k_is)
  (case mkMachine => k_is)
  (case kcMachine => first | k_is | kit_is | kernel_rfl)
  (case naMachine_cards => k_is)
  (case naMachine_pile => k_is)
  (case naMachine_left => k_is)
  (case naMachine_place => k_is)
  (case naMachine_said => k_is)
  (case a1 => k_is)
  (case l1 => k_is)
  (case c1 => k_is)
  (case k1 => k_is)
  (case a2 => k_is)
  (case l2 => k_is)
  (case c2 => k_is)
  (case k2 => k_is)
  (case a3 => k_is)
  (case l3 => k_is)
  (case c3 => k_is)
  (case k3 => k_is)
  (case a4 => k_is)
  (case l4 => k_is)
  (case c4 => k_is)
  (case k4 => k_is)
  (case a5 => k_is)
  (case l5 => k_is)
  (case c5 => k_is)
  (case k5 => k_is)
  (case a6 => k_is)
  (case l6 => k_is)
  (case c6 => k_is)
  (case k6 => k_is)
  (case a7 => k_is)
  (case l7 => k_is)
  (case c7 => k_is)
  (case k7 => k_is)
  (case a8 => k_is)
  (case l8 => k_is)
  (case c8 => k_is)
  (case k8 => k_is)
  (case a9 => k_is)
  (case l9 => k_is)
  (case c9 => k_is)
  (case k9 => k_is)
  (case a10 => k_is)
  (case l10 => k_is)
  (case c10 => k_is)
  (case k10 => k_is)
  (case a11 => k_is)
  (case l11 => k_is)
  (case c11 => k_is)
  (case k11 => k_is)
  (case a12 => k_is)
  (case l12 => k_is)
  (case c12 => k_is)
  (case k12 => k_is)
  (case a13 => k_is)
  (case l13 => k_is)
  (case c13 => k_is)
  (case k13 => k_is)
  (case a14 => k_is)
  (case l14 => k_is)
  (case c14 => k_is)
  (case k14 => k_is)
  (case a15 => k_is)
  (case l15 => k_is)
  (case c15 => k_is)
  (case k15 => k_is)
  (case a16 => k_is)
  (case l16 => k_is)
  (case c16 => k_is)
  (case k16 => k_is)
  (case a17 => k_is)
  (case i17 => k_is)
  (case l17 => k_is)
  (case c17 => k_is)
  (case k17 => k_is)
  (case a18 => k_is)
  (case i18 => k_is)
  (case l18 => k_is)
  (case c18 => k_is)
  (case k18 => k_is)
  (case a19 => k_is)
  (case i19 => k_is)
  (case l19 => k_is)
  (case c19 => k_is)
  (case k19 => k_is)
  (case a20 => k_is)
  (case i20 => k_is)
  (case l20 => k_is)
  (case c20 => k_is)
  (case k20 => k_is)
  (case a21 => k_is)
  (case i21 => k_is)
  (case l21 => k_is)
  (case c21 => k_is)
  (case k21 => k_is)
  (case a22 => k_is)
  (case i22 => k_is)
  (case l22 => k_is)
  (case c22 => k_is)
  (case k22 => k_is)
  (case a23 => k_is)
  (case i23 => k_is)
  (case l23 => k_is)
  (case c23 => k_is)
  (case k23 => k_is)
  (case a24 => k_is)
  (case i24 => k_is)
  (case l24 => k_is)
  (case c24 => k_is)
  (case k24 => k_is)
  (case a25 => k_is)
  (case l25 => k_is)
  (case c25 => k_is)
  (case k25 => k_is)
  (case a26 => k_is)
  (case l26 => k_is)
  (case c26 => k_is)
  (case k26 => k_is)
  (case a27 => k_is)
  (case l27 => k_is)
  (case c27 => k_is)
  (case k27 => k_is)
  (case a28 => k_is)
  (case i28 => k_is)
  (case l28 => k_is)
  (case c28 => k_is)
  (case k28 => k_is)
  (case a29 => k_is)
  (case i29 => k_is)
  (case l29 => k_is)
  (case c29 => k_is)
  (case k29 => k_is)
  (case a30 => k_is)
  (case i30 => k_is)
  (case l30 => k_is)
  (case c30 => k_is)
  (case k30 => k_is)
  (case a31 => k_is)
  (case i31 => k_is)
  (case l31 => k_is)
  (case c31 => k_is)
  (case k31 => k_is)
  (case a32 => k_is)
  (case i32 => k_is)
  (case l32 => k_is)
  (case c32 => k_is)
  (case k32 => k_is)
  (case a33 => k_is)
  (case i33 => k_is)
  (case l33 => k_is)
  (case c33 => k_is)
  (case k33 => k_is)
  (case a34 => k_is)
  (case i34 => k_is)
  (case l34 => k_is)
  (case c34 => k_is)
  (case k34 => k_is)
  (case a35 => k_is)
  (case i35 => k_is)
  (case l35 => k_is)
  (case c35 => k_is)
  (case k35 => k_is)
  (case a36 => k_is)
  (case i36 => k_is)
  (case l36 => k_is)
  (case c36 => k_is)
  (case k36 => k_is)
  (case a37 => k_is)
  (case l37 => k_is)
  (case c37 => k_is)
  (case k37 => k_is)
  (case a38 => k_is)
  (case l38 => k_is)
  (case c38 => k_is)
  (case k38 => k_is)
  (case a39 => k_is)
  (case l39 => k_is)
  (case c39 => k_is)
  (case k39 => k_is)
  (case a40 => k_is)
  (case l40 => k_is)
  (case c40 => k_is)
  (case k40 => k_is)
  (case a41 => k_is)
  (case l41 => k_is)
  (case c41 => k_is)
  (case k41 => k_is)
  (case a42 => k_is)
  (case l42 => k_is)
  (case c42 => k_is)
  (case k42 => k_is)
  (case a43 => k_is)
  (case l43 => k_is)
  (case c43 => k_is)
  (case k43 => k_is)
  (case a44 => k_is)
  (case l44 => k_is)
  (case c44 => k_is)
  (case k44 => k_is)
  (case a45 => k_is)
  (case l45 => k_is)
  (case c45 => k_is)
  (case k45 => k_is)
  (case a46 => k_is)
  (case l46 => k_is)
  (case c46 => k_is)
  (case k46 => k_is)
  (case a47 => k_is)
  (case l47 => k_is)
  (case c47 => k_is)
  (case k47 => k_is)
  (case a48 => k_is)
  (case l48 => k_is)
  (case c48 => k_is)
  (case k48 => k_is)
  (case a49 => k_is)
  (case l49 => k_is)
  (case c49 => k_is)
  (case k49 => k_is)
  (case a50 => k_is)
  (case l50 => k_is)
  (case c50 => k_is)
  (case k50 => k_is)
  (case a51 => k_is)
  (case l51 => k_is)
  (case c51 => k_is)
  (case k51 => k_is)
  (case a52 => k_is)
  (case l52 => k_is)
  (case c52 => k_is)
  (case k52 => k_is)
  (case a53 => k_is)
  (case l53 => k_is)
  (case c53 => k_is)
  (case k53 => k_is)
  (case a54 => k_is)
  (case l54 => k_is)
  (case c54 => k_is)
  (case k54 => k_is)
  (case a55 => k_is)
  (case l55 => k_is)
  (case c55 => k_is)
  (case k55 => k_is)
  (case a56 => k_is)
  (case l56 => k_is)
  (case c56 => k_is)
  (case k56 => k_is)
  (case a57 => k_is)
  (case l57 => k_is)
  (case c57 => k_is)
  (case k57 => k_is)
  (case z1 => k_is)
  (case z2 => k_is)
  (case z3 => k_is)
  (case z4 => k_is)
  (case z5 => k_is)
  (case z6 => k_is)
  (case z7 => k_is)
  (case z8 => k_is)
  (case z9 => k_is)
  (case zg0 => k_is)
  (case zl0 => k_is)
  (case zg1 => k_is)
  (case zl1 => k_is)
#print axioms PySem.Challenge.cw_jarcards_k12_whole_both_ways_holds
