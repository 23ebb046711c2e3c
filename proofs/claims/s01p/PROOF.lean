import PyProof.Rows.All
import Wide.All
import OpenK.AllK
import KE.OsHead
import Open.FastRun
import Open.FastT9
import Wide.FinOn
import PyProof.EqAt
import PyProof.EqKinds
import PyProof.TupleCall
import KE.BitLaws
import Open.SpecLaws
import KE.OsGo
import KE.KDictLaws
import PySem.Challenge.RW_proofmarks_s01_answers
set_option Elab.async false
set_option linter.all false
set_option maxRecDepth 100000
set_option maxHeartbeats 2000000
namespace Pm
open PySem PySem.W PyProof.Rows
noncomputable def runQ (st : SharedT → Thread → Option (SharedT × Thread)) (ok : Thread → Bool) (n : Nat) : SharedT → Thread → Option SharedT :=
  @Nat.rec (fun _ => SharedT → Thread → Option SharedT) (fun _ _ => none)
    (fun _ ih s t => @Bool.rec (fun _ => Option SharedT)
      (@Bool.rec (fun _ => Option SharedT) none (@Option.rec (SharedT × Thread) (fun _ => Option SharedT) none (fun x => @Prod.rec SharedT Thread (fun _ => Option SharedT) (fun s' t' => ih s' t') x) (st s t)) (ok t))
      (some s) (through t)) n
theorem runQ_succ {st : SharedT → Thread → Option (SharedT × Thread)} {ok : Thread → Bool} {n : Nat} {s : SharedT} {t : Thread} (far : through t = false) {r : SharedT} (h : runQ st ok (n + 1) s t = some r) :
    ok t = true ∧ ∃ x : SharedT × Thread, st s t = some x ∧ runQ st ok n x.1 x.2 = some r := by
  unfold runQ at h
  dsimp only at h
  rw [far] at h
  dsimp only at h
  rcases ek : ok t with _ | _
  · rw [ek] at h
    exact Option.noConfusion rfl (heq_of_eq h)
  · rw [ek] at h
    dsimp only at h
    rcases es : st s t with _ | x
    · rw [es] at h
      exact Option.noConfusion rfl (heq_of_eq h)
    · rw [es] at h
      exact ⟨rfl, x, rfl, h⟩
theorem runQ_end {st : SharedT → Thread → Option (SharedT × Thread)} {ok : Thread → Bool} {n : Nat} {s : SharedT} {t : Thread} (near : through t = true) : runQ st ok (n + 1) s t = some s := by
  unfold runQ
  dsimp only
  rw [near]
theorem runQ_of {tb : String → Option Builtin} {p : Program} {w : World} {n0 : Nat} {ann : Option Value} (n : Nat) : ∀ (s : SharedT) (t : Thread) (r : SharedT), runQ (stepT (denote tb) p w) (stepOk n0 ann) n s t = some r → topRun tb p w n0 ann n s.abs t = some r.abs := by
  induction n with
  | zero => exact fun s t r h => Option.noConfusion rfl (heq_of_eq (show none = some r from h))
  | succ n more =>
    intro s t r h
    rw [topRun]
    rcases far : through t with _ | _
    · obtain ⟨ek, ⟨s2, t2⟩, es, rest⟩ := runQ_succ far h
      rw [ek, stepT_spec es]
      exact more s2 t2 r rest
    · rw [runQ_end far] at h
      rw [Option.some.inj h]
noncomputable def insAll (l : List Obj) : Nat → BT → BT :=
  @List.rec Obj (fun _ => Nat → BT → BT) (fun _ t => t) (fun o _ ih n t => ih (Nat.succ n) (t.ins n o)) l
noncomputable def bootT (P : Params) : BT := insAll (boot_heap P).objs.toList 0 .nil
theorem left_of {p q : Program} {loose : List Str} {Xt : Shared → Bool} {α : Type} {Yf : Shared → α} {Ya : World → α} {N : Nat} {g0 : Bool} {m0 : Nat} {ann : Option Value} {life : Life}
    {fT : type_of% @stepT} {fD : type_of% @denote} {fB : type_of% @treeTable} {fK : type_of% @stepOk} {fS : type_of% @openSeen} (eT : @stepT = fT) (eD : @denote = fD) (eB : @treeTable = fB) (eK : @stepOk = fK) (eS : @openSeen = fS)
    (open_ : ∀ w : World, (fencedOpening treeTable p w N).map (fun s => (s.heap, s.gens, s.drawn, s.toks)) = some (boot_heap w.params, Array.mk [], boot_drawn, boot_toks))
    (tree : ∀ P : Params, absHeap (bootT P) m0 life = boot_heap P)
    (size : ∀ P : Params, ((boot_heap P).isNs mainGlobals, (boot_heap P).objs.size, (boot_heap P).nsMap mainGlobals "__annotations__") = (true, m0, ann))
    {E : World → OsState → Option SharedT} (hE : ∀ w os, runQ (fT (fD fB) p w) (fK m0 ann) N ⟨bootT w.params, m0, life, Array.mk [], boot_drawn, boot_toks, os⟩ (topStub p) = E w os)
    (h1 : ∀ w os, (E w os).map (fun s => staticsOk (importedModules p.main.body) (boot_heap w.params) s.abs.heap && namesBound p s.abs.heap && gensDone s.abs && laidKept (boot_heap w.params) s.abs.heap) = some true)
    (c1 : ∀ w os, (E w os).map (fun s => (fS q loose (importedModules p.main.body) Xt g0 s.abs).1) = some (expectedOf q))
    (c2 : ∀ w os, (E w os).map (fun s => (fS q loose (importedModules p.main.body) Xt g0 s.abs).2.1) = some bltViewBooted)
    (c3 : ∀ w os, (E w os).map (fun s => (fS q loose (importedModules p.main.body) Xt g0 s.abs).2.2.1) = some true)
    (c4 : ∀ w os, (E w os).map (fun s => (fS q loose (importedModules p.main.body) Xt g0 s.abs).2.2.2.1) = some true)
    (c5 : ∀ w os, (E w os).map (fun s => (fS q loose (importedModules p.main.body) Xt g0 s.abs).2.2.2.2) = some (pinGoodD (drecsOf q), plainGoodE q (looseW q loose), plainGoodD q loose, wideGood q, clsGoodW q loose))
    (h3 : ∀ w os, (E w os).map (fun s => Yf s.abs) = some (Ya w)) : LeftO p q loose Xt Yf Ya N g0 := fun w => by
  subst eT eD eB eK eS
  obtain ⟨s0, hs0, same⟩ := Option.map_eq_some_iff.mp (open_ w)
  obtain ⟨hp, gn, dr, tk, sys⟩ := s0
  have q0 : hp = boot_heap w.params := congrArg (fun x => x.1) same
  have q1 : gn = Array.mk [] := congrArg (fun x => x.2.1) same
  have q2 : dr = boot_drawn := congrArg (fun x => x.2.2.1) same
  have q3 : tk = boot_toks := congrArg (fun x => x.2.2.2) same
  subst q0 q1 q2 q3
  have z := size w.params
  have z1 : (boot_heap w.params).isNs mainGlobals = true := congrArg (fun x => x.1) z
  have z2 : (boot_heap w.params).objs.size = m0 := congrArg (fun x => x.2.1) z
  have z3 : (boot_heap w.params).nsMap mainGlobals "__annotations__" = ann := congrArg (fun x => x.2.2) z
  obtain ⟨s, hs, looks⟩ := Option.map_eq_some_iff.mp (h1 w sys)
  have of : ∀ {β : Type} {f : SharedT → β} {b : β}, (E w sys).map f = some b → f s = b := fun z => Option.some.inj ((congrArg _ hs).symm.trans z)
  have ran := runQ_of _ _ _ _ ((hE w sys).trans hs)
  rw [show (SharedT.mk (bootT w.params) m0 life (Array.mk []) boot_drawn boot_toks sys).abs = ⟨boot_heap w.params, Array.mk [], boot_drawn, boot_toks, sys⟩ from congrArg (fun h => Shared.mk h _ _ _ _) (tree w.params)] at ran
  have top : topFrom treeTable p w N ⟨boot_heap w.params, Array.mk [], boot_drawn, boot_toks, sys⟩ = some s.abs := by
    rw [topFrom]
    dsimp only
    rw [z1, z2, z3, ran]
    dsimp only [Option.bind_some]
    rw [looks]
    rfl
  rw [openEnds, hs0, Option.bind_some, top, Option.map_some]
  exact congrArg some (Prod.ext (Prod.ext (of (c1 w sys)) (Prod.ext (of (c2 w sys)) (Prod.ext (of (c3 w sys)) (Prod.ext (of (c4 w sys)) (of (c5 w sys)))))) (of (h3 w sys)))
def viewB : List Stmt := (PySem.Challenge.pw_proofmarks_s01_answers.main.body.zipIdx.filter fun x => !([0, 19, 30, 35, 54].contains x.2)).map fun x => x.1
def viewQ : Program := { PySem.Challenge.pw_proofmarks_s01_answers with main := { PySem.Challenge.pw_proofmarks_s01_answers.main with body := viewB } }
noncomputable def endQ (w : World) (os : OsState) : Option SharedT := runQ (Fast.tw10156331382660048174 (Fast.tw11892475500146522536 Fast.tw14364793385576792824) PySem.Challenge.pw_proofmarks_s01_answers w) (Fast.tw6613529449190102663 11 (some (.ref 6))) 5530 ⟨bootT w.params, 11, {}, Array.mk [], boot_drawn, boot_toks, os⟩ (topStub PySem.Challenge.pw_proofmarks_s01_answers)
noncomputable abbrev seenQ (s : SharedT) := Fast.tw4187177175401517315 viewQ [] (importedModules PySem.Challenge.pw_proofmarks_s01_answers.main.body) (fun s => xlAt viewQ [] s && recOk [] s) true s.abs
set_option maxHeartbeats 0 in
theorem q_h1 : ∀ w os, (endQ w os).map (fun s => staticsOk (importedModules PySem.Challenge.pw_proofmarks_s01_answers.main.body) (boot_heap w.params) s.abs.heap && namesBound PySem.Challenge.pw_proofmarks_s01_answers s.abs.heap && gensDone s.abs && laidKept (boot_heap w.params) s.abs.heap) = some true := by
  intro w os
  kernel_rfl
set_option maxHeartbeats 0 in
theorem q_c1 : ∀ w os, (endQ w os).map (fun s => (seenQ s).1) = some (expectedOf viewQ) := by
  intro w os
  kernel_rfl
set_option maxHeartbeats 0 in
theorem q_c2 : ∀ w os, (endQ w os).map (fun s => (seenQ s).2.1) = some bltViewBooted := by
  intro w os
  kernel_rfl
set_option maxHeartbeats 0 in
theorem q_c3 : ∀ w os, (endQ w os).map (fun s => (seenQ s).2.2.1) = some true := by
  intro w os
  kernel_rfl
set_option maxHeartbeats 0 in
theorem q_c4 : ∀ w os, (endQ w os).map (fun s => (seenQ s).2.2.2.1) = some true := by
  intro w os
  kernel_rfl
set_option maxHeartbeats 0 in
theorem q_c5 : ∀ w os, (endQ w os).map (fun s => (seenQ s).2.2.2.2) = some (pinGoodD (drecsOf viewQ), plainGoodE viewQ (looseW viewQ []), plainGoodD viewQ [], wideGood viewQ, clsGoodW viewQ []) := by
  intro w os
  kernel_rfl
set_option maxHeartbeats 0 in
theorem q_tree : ∀ P : Params, absHeap (bootT P) 11 {} = boot_heap P := by
  intro P
  kernel_rfl
set_option maxHeartbeats 0 in
theorem q_size : ∀ P : Params, ((boot_heap P).isNs mainGlobals, (boot_heap P).objs.size, (boot_heap P).nsMap mainGlobals "__annotations__") = (true, 11, some (.ref 6)) := by
  intro P
  kernel_rfl
set_option maxHeartbeats 0 in
theorem q_open : ∀ w : World, (fencedOpening treeTable PySem.Challenge.pw_proofmarks_s01_answers w 5530).map (fun s => (s.heap, s.gens, s.drawn, s.toks)) = some (boot_heap w.params, Array.mk [], boot_drawn, boot_toks) := by
  refine boot_open ?_ ?_ ?_
  · kernel_rfl
  · rfl
  · intro s; kernel_rfl
theorem left_q {α : Type} {Yf : Shared → α} {Ya : World → α} (h3 : ∀ w os, (endQ w os).map (fun s => Yf s.abs) = some (Ya w)) : LeftO PySem.Challenge.pw_proofmarks_s01_answers viewQ [] (fun s => xlAt viewQ [] s && recOk [] s) Yf Ya 5530 :=
  left_of Fast.te10156331382660048174 Fast.te11892475500146522536 Fast.te14364793385576792824 Fast.te6613529449190102663 Fast.te4187177175401517315 q_open q_tree q_size (fun _ _ => rfl) q_h1 q_c1 q_c2 q_c3 q_c4 q_c5 h3
end Pm
namespace L2
open PySem PySem.Spec PyProof.Rows
abbrev Key := Sum Int Str
def keyIs : Key → Value → Bool
  | .inl k, v => Value.isInt k v
  | .inr x, v => Value.isStrOf x v
def keyH (w : World) : Key → Int
  | .inl k => hashInt k
  | .inr x => hashStr w x
theorem keyIs_shape : ∀ {k : Key} {v : Value}, keyIs k v = true → (∃ i t, k = Sum.inl i ∧ v = Value.int i t) ∨ (∃ x t, k = Sum.inr x ∧ v = Value.str x t)
  | .inl i, v, h => by
    obtain ⟨t, e⟩ := Value.isInt_shape (k := i) (v := v) h
    exact .inl ⟨i, t, rfl, e⟩
  | .inr x, v, h => by
    obtain ⟨t, e⟩ := Value.isStrOf_shape (x := x) (v := v) h
    exact .inr ⟨x, t, rfl, e⟩
theorem keyIs_int (i : Int) (t : Tok) : keyIs (.inl i) (.int i t) = true := by simp [keyIs, Value.isInt]
theorem keyIs_str (x : Str) (t : Tok) : keyIs (.inr x) (.str x t) = true := by simp [keyIs, Value.isStrOf]
theorem key_ll (a b : Int) : decide ((Sum.inl a : Key) = Sum.inl b) = (a == b) := by
  by_cases e : a = b
  · subst e; simp
  · have h : ¬ (Sum.inl a : Key) = Sum.inl b := fun q => e (Sum.inl.inj q)
    rw [decide_eq_false h]
    exact (beq_eq_false_iff_ne.mpr e).symm
theorem key_rr (a b : Str) : decide ((Sum.inr a : Key) = Sum.inr b) = decide (a = b) := by
  by_cases e : a = b
  · subst e; simp
  · have h : ¬ (Sum.inr a : Key) = Sum.inr b := fun q => e (Sum.inr.inj q)
    rw [decide_eq_false h, decide_eq_false e]
theorem key_lr (a : Int) (b : Str) : decide ((Sum.inl a : Key) = Sum.inr b) = false := decide_eq_false (fun q => nomatch q)
theorem key_rl (a : Str) (b : Int) : decide ((Sum.inr a : Key) = Sum.inl b) = false := decide_eq_false (fun q => nomatch q)
def mixKind (prog : Program) (w : World) : PySem.KeyKind prog w Key where
  is := keyIs
  hash := keyH w
  inj := fun v a b ha hb => by
    rcases keyIs_shape ha with ⟨i, t, rfl, rfl⟩ | ⟨x, t, rfl, rfl⟩
    · rcases keyIs_shape hb with ⟨j, u, rfl, e⟩ | ⟨y, u, rfl, e⟩
      · injection e with e1 _; rw [e1]
      · exact nomatch e
    · rcases keyIs_shape hb with ⟨j, u, rfl, e⟩ | ⟨y, u, rfl, e⟩
      · exact nomatch e
      · injection e with e1 _; rw [e1]
  byValue := fun k v h => by
    rcases keyIs_shape h with ⟨i, t, rfl, rfl⟩ | ⟨x, t, rfl, rfl⟩ <;> rfl
  pyHash := fun hv h => by
    rcases keyIs_shape hv with ⟨i, t, rfl, rfl⟩ | ⟨x, t, rfl, rfl⟩
    · exact wpAny_pyHash_int h
    · exact wpAny_pyHash_str h
  eqBool := fun hu hv h => by
    rcases keyIs_shape hu with ⟨i, t, rfl, rfl⟩ | ⟨x, t, rfl, rfl⟩
    · rcases keyIs_shape hv with ⟨j, u, rfl, rfl⟩ | ⟨y, u, rfl, rfl⟩
      · rw [key_ll] at h; exact wpAny_eqBool_int h
      · rw [key_lr] at h; exact SeqAt.EqAt.int_str i t y u _ _ _ _ h
    · rcases keyIs_shape hv with ⟨j, u, rfl, rfl⟩ | ⟨y, u, rfl, rfl⟩
      · rw [key_rl] at h; exact SeqAt.EqAt.str_int x t j u _ _ _ _ h
      · rw [key_rr] at h; exact wpAny_eqBool_str h
  «strs» := fun k x t v h => by
    rcases keyIs_shape h with ⟨i, u, rfl, e⟩ | ⟨y, u, rfl, e⟩
    · exact nomatch e
    · injection e with e1 _
      subst e1
      cases v <;> rfl
theorem mixKind_int (prog : Program) (w : World) (i : Int) (t : Tok) : (mixKind prog w).is (.inl i) (.int i t) = true := keyIs_int i t
theorem mixKind_str (prog : Program) (w : World) (x : Str) (t : Tok) : (mixKind prog w).is (.inr x) (.str x t) = true := keyIs_str x t
end L2
namespace L2
open PySem PySem.Spec PyProof.Rows
inductive V where
  | non | bl (b : Bool) | int (i : Int) | str (x : Str) | byt (b : Array UInt8) | flt (b : UInt64) | ref (a : Addr) | ty (n : String)
  deriving DecidableEq
def RelV : V → Value → Prop
  | .non, u => u = Value.none
  | .bl b, u => u = Value.bool b
  | .int i, u => ∃ t, u = Value.int i t
  | .str x, u => ∃ t, u = Value.str x t
  | .byt b, u => ∃ t, u = Value.bytes b t
  | .flt b, u => ∃ t, u = Value.float b t
  | .ref a, u => u = Value.ref a
  | .ty n, u => u = Value.type n
abbrev Vals : List V → List Value → Prop := Paired RelV
theorem Vals.length {xs : List V} {us : List Value} (r : Vals xs us) : xs.length = us.length := Paired.length r
theorem Vals.get : ∀ {xs : List V} {us : List Value} {i : Nat} {x : V}, Vals xs us → xs[i]? = some x → ∃ u, us[i]? = some u ∧ RelV x u
  | _, _, _, _, .nil, e => by simp at e
  | _, _, 0, _, .cons r _, e => by simp at e; subst e; exact ⟨_, rfl, r⟩
  | _, _, i + 1, x, .cons _ t, e => by
    obtain ⟨u, h1, h2⟩ := Vals.get (i := i) (x := x) t (by simpa using e)
    exact ⟨u, by simpa using h1, h2⟩
theorem Vals.set {x : V} {u : Value} (r : RelV x u) : ∀ {xs : List V} {us : List Value} (i : Nat), Vals xs us → Vals (xs.set i x) (us.set i u)
  | _, _, _, .nil => .nil
  | _, _, 0, .cons _ t => .cons r t
  | _, _, i + 1, .cons q t => .cons q (Vals.set r i t)
theorem Vals.append : ∀ {xs ys : List V} {us ws : List Value}, Vals xs us → Vals ys ws → Vals (xs ++ ys) (us ++ ws)
  | _, _, _, _, .nil, s => s
  | _, _, _, _, .cons r t, s => .cons r (Vals.append t s)
theorem Vals.take : ∀ {xs : List V} {us : List Value} (n : Nat), Vals xs us → Vals (xs.take n) (us.take n)
  | _, _, 0, _ => .nil
  | _, _, _ + 1, .nil => .nil
  | _, _, n + 1, .cons r t => .cons r (Vals.take n t)
theorem Vals.drop : ∀ {xs : List V} {us : List Value} (n : Nat), Vals xs us → Vals (xs.drop n) (us.drop n)
  | _, _, 0, r => r
  | _, _, _ + 1, .nil => .nil
  | _, _, n + 1, .cons _ t => Vals.drop n t
theorem Vals.none_of : ∀ {xs : List V} {us : List Value} {i : Nat}, Vals xs us → xs[i]? = none → us[i]? = none := fun {xs us i} r e => by
  have h1 := r.length
  have h2 : xs.length ≤ i := List.getElem?_eq_none_iff.mp e
  exact List.getElem?_eq_none_iff.mpr (by omega)
def RelO : Option V → Option Value → Prop
  | some v, some u => RelV v u
  | none, none => True
  | _, _ => False
def KV {κ : Type} : List (κ × V) → List (κ × Value) → Prop := Paired fun (p : κ × V) (q : κ × Value) => p.1 = q.1 ∧ RelV p.2 q.2
def kV : Key → V
  | .inl i => .int i
  | .inr x => .str x
inductive HO where
  | lst (xs : List V)
  | tup (xs : List V)
  | dK (kvs : List (Key × V)) | dT (kvs : List (List Key × V))
  | set (S : Int → Bool) (n : Nat)
  | ins (C dx : Addr) (fs : List (Str × V))
  | own (x : Addr)
  | xd (fs : List (Str × V))
  | met (f x : Addr)
  | rng (lo hi : Int)
  | frz (o : Obj) (u : HO)
  | tbl (ps : Array Value)
  | ext (φ : Heap → Prop)
abbrev Hp := Addr → Option HO
def upd (H : Hp) (a : Addr) (o : HO) : Hp := fun b => if b = a then some o else H b
theorem upd_same {H : Hp} {a : Addr} {o : HO} : upd H a o a = some o := by unfold upd; rw [if_pos rfl]
theorem upd_ne {H : Hp} {a b : Addr} {o : HO} (h : b ≠ a) : upd H a o b = H b := by unfold upd; rw [if_neg h]
theorem upd_upd {H : Hp} {a : Addr} {o u : HO} : upd (upd H a o) a u = upd H a u := by
  funext b; unfold upd; split <;> rfl
theorem ne_of {H : Hp} {a b : Addr} {o u : HO} (h : H a = some o) (h' : H b = some u) (d : o ≠ u) : a ≠ b := by
  intro e; subst e; rw [h] at h'; exact d (Option.some.inj h')
theorem ne_of_none {H : Hp} {a b : Addr} {o : HO} (h : H a = some o) (h' : H b = none) : a ≠ b := by
  intro e; subst e; rw [h] at h'; cases h'
section
variable (P : Program) (w : World)
def ObjOk (H : Hp) (h : Heap) (a : Addr) : HO → Prop
  | .lst xs => xs.length ≤ sizeLine ∧ ∃ (its : List Value) (n : Nat), Vals xs its ∧ h.get? a = some { cls := .type "list", data := .seq its.toArray n }
  | .tup xs => xs.length ≤ sizeLine ∧ ∃ its : List Value, Vals xs its ∧ IsTup h a its.toArray
  | .dK kvs => kvs.length ≤ sizeLine ∧ (a == sysModules) = false ∧ ∃ vs, KV kvs vs ∧ h.DictOf (mixKind P w) a vs
  | .dT kvs => kvs.length ≤ sizeLine ∧ (a == sysModules) = false ∧ ∃ xs : List (List Key × Addr × Value),
      Paired (fun (p : List Key × V) (q : List Key × Addr × Value) => p.1 = q.1 ∧ H q.2.1 = some (.tup (p.1.map kV)) ∧ RelV p.2 q.2.2) kvs xs ∧
      ∃ o es ep, h.get? a = some o ∧ o.ExactDict ∧ o.data = .dict es ep ∧ es.toList = xs.map (entryOfKey (tupleKind (mixKind P w))) ∧ (xs.map (·.1)).Nodup
  | .set S n => h.SetOf (intKind P w) a S n
  | .ins C dx fs => H dx = some (.own a) ∧ fs.length ≤ 1000 ∧ dx ≠ a ∧ h.get? a = some (PySem.W.instObj C dx) ∧
      ∃ mA, h.Ns1 dx mA ∧ (∀ f, RelO (fs.lookup f) (mA f)) ∧ PySem.Within mA (fs.map (·.1))
  | .own _ => ∃ o, h.get? a = some o
  | .xd fs => ∃ mA, h.Ns1 a mA ∧ ∀ f, RelO (fs.lookup f) (mA f)
  | .rng lo hi => ∃ t u v, h.get? a = some { cls := .type "range", data := .fields #[.int lo t, .int hi u, .int 1 v] }
  | .frz o u => h.get? a = some o ∧ ObjOk H h a u
  | .tbl ps => h.get? a = some { cls := .none, data := .fields ps }
  | .met f x => h.get? a = some (PySem.W.methodObj (.ref f) (.ref x))
  | .ext φ => φ h ∧ (∃ o, h.get? a = some o) ∧ ∀ h1 h2 : Heap, φ h1 → (∀ o, h1.get? a = some o → h2.get? a = some o) → φ h2
def HOk (H : Hp) (h : Heap) : Prop := ∀ a o, H a = some o → ObjOk P w H h a o
end
section
variable {P : Program} {w : World} {H H' : Hp} {h h' : Heap} {a : Addr} {o : HO}
theorem ObjOk.lt (x : ObjOk P w H h a o) : a < h.objs.size := by
  cases o with
  | lst xs => obtain ⟨_, _, _, _, e⟩ := x; exact Heap.lt_size e
  | tup xs => obtain ⟨_, _, _, p⟩ := x; exact p.lt
  | dK kvs => obtain ⟨_, _, _, _, o, _, _, e, _⟩ := x; exact Heap.lt_size e
  | dT kvs => obtain ⟨_, _, _, _, o, _, _, e, _⟩ := x; exact Heap.lt_size e
  | set S n => obtain ⟨o, _, _, _, e, _⟩ := x; exact Heap.lt_size e
  | ins C dx fs => obtain ⟨_, _, _, e, _⟩ := x; exact Heap.lt_size e
  | own y => obtain ⟨_, e⟩ := x; exact Heap.lt_size e
  | xd fs => obtain ⟨_, ⟨_, _, _, e, _⟩, _⟩ := x; exact Heap.lt_size e
  | rng lo hi => obtain ⟨_, _, _, e⟩ := x; exact Heap.lt_size e
  | frz ob u => obtain ⟨e, _⟩ := x; exact Heap.lt_size e
  | tbl ps => exact Heap.lt_size (show h.get? a = some _ from x)
  | met f y => exact Heap.lt_size (show h.get? a = some _ from x)
  | ext φ => obtain ⟨_, ⟨_, e⟩, _⟩ := x; exact Heap.lt_size e
theorem Paired.mapP {α β : Type} {F G : α → β → Prop} : ∀ {l₁ : List α} {l₂ : List β}, Paired F l₁ l₂ → (∀ a b, F a b → G a b) → Paired G l₁ l₂
  | _, _, .nil, _ => .nil
  | _, _, .cons r t, f => .cons (f _ _ r) (Paired.mapP t f)
theorem ObjOk.stay (x : ObjOk P w H h a o) (k : ∀ b u, (b = a ∨ H b = some (.own a)) → h.get? b = some u → h'.get? b = some u)
    (ho : ∀ b, H b = some (.own a) → H' b = some (.own a)) (ht : ∀ b xs, H b = some (.tup xs) → H' b = some (.tup xs)) : ObjOk P w H' h' a o := by
  induction o with
  | lst xs => obtain ⟨z, its, n, r, e⟩ := x; exact ⟨z, its, n, r, k _ _ (.inl rfl) e⟩
  | tup xs => obtain ⟨z, its, r, ob, e, c⟩ := x; exact ⟨z, its, r, ob, k _ _ (.inl rfl) e, c⟩
  | dK kvs => obtain ⟨z, y, vs, r, ob, es, ep, e, c⟩ := x; exact ⟨z, y, vs, r, ob, es, ep, k _ _ (.inl rfl) e, c⟩
  | dT kvs =>
    obtain ⟨z, y, xs, r, ob, es, ep, e, c⟩ := x
    exact ⟨z, y, xs, Paired.mapP r fun p q z => ⟨z.1, ht _ _ z.2.1, z.2.2⟩, ob, es, ep, k _ _ (.inl rfl) e, c⟩
  | set S n => obtain ⟨ob, es, ep, t, e, c⟩ := x; exact ⟨ob, es, ep, t, k _ _ (.inl rfl) e, c⟩
  | ins C dx fs =>
    obtain ⟨d, z, ne, e, mA, ⟨od, es, ep, e2, c⟩, r⟩ := x
    exact ⟨ho _ d, z, ne, k _ _ (.inl rfl) e, mA, ⟨od, es, ep, k _ _ (.inr d) e2, c⟩, r⟩
  | own y => obtain ⟨ob, e⟩ := x; exact ⟨ob, k _ _ (.inl rfl) e⟩
  | xd fs => obtain ⟨mA, ⟨od, es, ep, e, c⟩, r⟩ := x; exact ⟨mA, ⟨od, es, ep, k _ _ (.inl rfl) e, c⟩, r⟩
  | rng lo hi => obtain ⟨t, u, v, e⟩ := x; exact ⟨t, u, v, k _ _ (.inl rfl) e⟩
  | frz ob u ih => obtain ⟨e, q⟩ := x; exact ⟨k _ _ (.inl rfl) e, ih q⟩
  | tbl ps =>
    have e : h.get? a = some { cls := .none, data := .fields ps } := x
    show h'.get? a = some { cls := .none, data := .fields ps }
    exact k a _ (.inl rfl) e
  | met f y =>
    have e : h.get? a = some (PySem.W.methodObj (.ref f) (.ref y)) := x
    show h'.get? a = some (PySem.W.methodObj (.ref f) (.ref y))
    exact k a _ (.inl rfl) e
  | ext φ => obtain ⟨p, ⟨o, e⟩, st⟩ := x; exact ⟨st _ _ p fun o q => k _ _ (.inl rfl) q, ⟨o, k _ _ (.inl rfl) e⟩, st⟩
theorem HOk.lt (x : HOk P w H h) (e : H a = some o) : a < h.objs.size := (x a o e).lt
theorem HOk.fresh (x : HOk P w H h) (e : h.objs.size ≤ a) : H a = none := by
  cases q : H a with
  | none => rfl
  | some u => exact absurd (Nat.lt_of_lt_of_le (x.lt q) e) (Nat.lt_irrefl _)
theorem HOk.kept (x : HOk P w H h) (k : ∀ b u, h.get? b = some u → h'.get? b = some u) : HOk P w H h' := fun a o e =>
  (x a o e).stay (fun b u _ q => k b u q) (fun _ q => q) fun _ _ q => q
theorem HOk.laid (x : HOk P w H h) (k : ∀ b u, h.get? b = some u → h'.get? b = some u) (hp : h.objs.size ≤ a) (new : ObjOk P w (upd H a o) h' a o) : HOk P w (upd H a o) h' := fun b u e => by
  have hn := x.fresh hp
  by_cases hb : b = a
  · subst hb; rw [upd_same] at e; cases e; exact new
  · rw [upd_ne hb] at e
    exact (x b u e).stay (fun c v _ q => k c v q) (fun c q => by rw [upd_ne (ne_of_none q hn)]; exact q) fun c xs q => by rw [upd_ne (ne_of_none q hn)]; exact q
end
def Rd (H : Hp) (a : Addr) (u : HO) : Prop := H a = some u ∨ ∃ o, H a = some (.frz o u)
theorem Rd.of {H : Hp} {a : Addr} {u : HO} (h : H a = some u) : Rd H a u := .inl h
theorem Rd.ok {P : Program} {w : World} {H : Hp} {h : Heap} {a : Addr} {u : HO} (r : Rd H a u) (x : HOk P w H h) : ObjOk P w H h a u := by
  rcases r with r | ⟨o, r⟩
  · exact x a u r
  · obtain ⟨_, q⟩ := x a _ r
    exact q
def Mut : Option HO → Prop
  | some (.lst _) => True
  | some (.dK _) => True
  | some (.dT _) => True
  | some (.set _ _) => True
  | some (.ins _ _ _) => True
  | some (.ext _) => True
  | _ => False
section
variable {P : Program} {w : World} {H : Hp} {h h' : Heap} {x e : Addr} {o' : HO}
theorem HOk.write (ok : HOk P w H h) (mu : Mut (H x)) (he : e = x ∨ H e = some (.own x)) (k : ∀ b u, b ≠ e → h.get? b = some u → h'.get? b = some u) (heo : ∃ u, h'.get? e = some u)
    (new : ObjOk P w (upd H x o') h' x o') : HOk P w (upd H x o') h' := fun b u q => by
  have nown : ∀ c y, H c = some (.own y) → c ≠ x := fun c y r z => by subst z; rw [r] at mu; exact mu
  have ntup : ∀ c xs, H c = some (.tup xs) → c ≠ x := fun c xs r z => by subst z; rw [r] at mu; exact mu
  by_cases hb : b = x
  · subst hb; rw [upd_same] at q; cases q; exact new
  · rw [upd_ne hb] at q
    by_cases hbe : b = e
    · have q' : H b = some (.own x) := by
        rcases he with z | z
        · exact absurd (hbe.trans z) hb
        · rw [hbe]; exact z
      rw [q] at q'; cases q'
      obtain ⟨v, hv⟩ := heo
      exact ⟨v, by rw [hbe]; exact hv⟩
    · refine (ok b u q).stay (fun c v hc r => k c v ?_ r) (fun c r => by rw [upd_ne (nown c b r)]; exact r) fun c xs r => by rw [upd_ne (ntup c xs r)]; exact r
      rcases hc with rfl | hc
      · exact hbe
      · rintro rfl
        rcases he with z | z
        · exact nown c b hc z
        · rw [hc] at z; cases z; exact hb rfl
end
structure Un (fs ex : List Addr) (H H' : Hp) (h h' : Heap) : Prop where
  keep : ∀ b o, h.get? b = some o → H b = none → b ∉ fs → b ∉ ex → h'.get? b = some o
  slot : ∀ b o, h.get? b = some o → H b = none → b ∈ fs → b ∉ ex → ∃ sl, h'.get? b = some { o with slots := sl }
  free : ∀ b o, h.get? b = some o → H b = none → b ∉ ex → H' b = none
  there : ∀ b o, h.get? b = some o → b ∉ ex → ∃ o', h'.get? b = some o'
  tups : ∀ b xs, H b = some (.tup xs) → H' b = some (.tup xs)
  frzs : ∀ b o u, H b = some (.frz o u) → H' b = some (.frz o u)
  tbls : ∀ b ps, H b = some (.tbl ps) → ∃ more, H' b = some (.tbl (ps ++ more))
section
variable {fs fs' ex ex' : List Addr} {H H1 H2 : Hp} {h h1 h2 h' : Heap} {a x e : Addr} {o : HO}
theorem Un.any (u : Un fs ex H H1 h h1) {b : Addr} {ob : Obj} (q : h.get? b = some ob) (n : H b = none) (hx : b ∉ ex) : ∃ sl, h1.get? b = some { ob with slots := sl } := by
  by_cases hb : b ∈ fs
  · exact u.slot b ob q n hb hx
  · exact ⟨ob.slots, u.keep b ob q n hb hx⟩
theorem Un.trans (a : Un fs ex H H1 h h1) (b : Un fs ex H1 H2 h1 h2) : Un fs ex H H2 h h2 where
  keep := fun c ob q n hc hx => b.keep c ob (a.keep c ob q n hc hx) (a.free c ob q n hx) hc hx
  slot := fun c ob q n hc hx => by
    obtain ⟨sl, e1⟩ := a.slot c ob q n hc hx
    obtain ⟨sl', e2⟩ := b.slot c _ e1 (a.free c ob q n hx) hc hx
    exact ⟨sl', e2⟩
  free := fun c ob q n hx => by
    obtain ⟨o', e1⟩ := a.there c ob q hx
    exact b.free c o' e1 (a.free c ob q n hx) hx
  there := fun c ob q hx => by
    obtain ⟨o', e1⟩ := a.there c ob q hx
    exact b.there c o' e1 hx
  tups := fun c xs q => b.tups c xs (a.tups c xs q)
  frzs := fun c ob xs q => b.frzs c ob xs (a.frzs c ob xs q)
  tbls := fun c ps q => by
    obtain ⟨m1, e1⟩ := a.tbls c ps q
    obtain ⟨m2, e2⟩ := b.tbls c _ e1
    exact ⟨m1 ++ m2, by rw [e2, Array.append_assoc]⟩
theorem Un.kept (k : ∀ b u, h.get? b = some u → h'.get? b = some u) : Un fs ex H H h h' :=
  ⟨fun b ob q _ _ _ => k b ob q, fun b ob q _ _ _ => ⟨ob.slots, k b ob q⟩, fun _ _ _ n _ => n, fun b ob q _ => ⟨ob, k b ob q⟩, fun _ _ q => q, fun _ _ _ q => q, fun _ ps q => ⟨#[], by rw [q]; simp⟩⟩
theorem Un.refl : Un fs ex H H h h := Un.kept fun _ _ q => q
theorem Un.laid (k : ∀ b u, h.get? b = some u → h'.get? b = some u) (hp : h.objs.size ≤ a) (hn : H a = none) : Un fs ex H (upd H a o) h h' where
  keep := fun b u q _ _ _ => k b u q
  slot := fun b u q _ _ _ => ⟨u.slots, k b u q⟩
  free := fun b u q n _ => by rw [upd_ne (Nat.ne_of_lt (Nat.lt_of_lt_of_le (Heap.lt_size q) hp))]; exact n
  there := fun b u q _ => ⟨u, k b u q⟩
  tups := fun b xs q => by rw [upd_ne (ne_of_none q hn)]; exact q
  frzs := fun b u xs q => by rw [upd_ne (ne_of_none q hn)]; exact q
  tbls := fun b ps q => ⟨#[], by rw [upd_ne (ne_of_none q hn), q]; simp⟩
theorem Un.write (mu : Mut (H x)) (he : e = x ∨ H e = some (.own x)) (k : ∀ b u, b ≠ e → h.get? b = some u → h'.get? b = some u) (heo : ∃ u, h'.get? e = some u) : Un fs ex H (upd H x o) h h' := by
  have hx : ∀ b, H b = none → b ≠ x := fun b n z => by subst z; rw [n] at mu; exact mu
  have hb : ∀ b, H b = none → b ≠ e := fun b n z => by
    subst z
    rcases he with r | r
    · exact hx b n r
    · rw [n] at r; cases r
  have hm : ∀ b u, H b = some u → ¬ Mut (some u) → b ≠ x := fun b u q nm z => by subst z; rw [q] at mu; exact nm mu
  refine ⟨fun b u q n _ _ => k b u (hb b n) q, fun b u q n _ _ => ⟨u.slots, k b u (hb b n) q⟩, fun b u q n _ => by rw [upd_ne (hx b n)]; exact n, fun b u q _ => ?_,
    fun b xs q => by rw [upd_ne (hm b _ q fun z => z)]; exact q, fun b u xs q => by rw [upd_ne (hm b _ q fun z => z)]; exact q, fun b ps q => ⟨#[], by rw [upd_ne (hm b _ q fun z => z), q]; simp⟩⟩
  by_cases hbe : b = e
  · subst hbe; exact heo
  · exact ⟨u, k b u hbe q⟩
theorem Un.mono (u : Un fs ex H H1 h h1) (hs : ∀ b ∈ fs, b ∈ fs') (hx : ∀ b ∈ ex, b ∈ ex') : Un fs' ex' H H1 h h1 :=
  ⟨fun b ob q n hb he => u.keep b ob q n (fun z => hb (hs b z)) fun z => he (hx b z), fun _ _ q n _ he => u.any q n fun z => he (hx _ z), fun b ob q n he => u.free b ob q n fun z => he (hx b z), fun b ob q he => u.there b ob q fun z => he (hx b z), u.tups, u.frzs, u.tbls⟩
end
def trk (h : Heap) (H : Hp) : List Addr := (List.range h.objs.size).filter fun a => (H a).isSome
def hidT (h : Heap) (H : Hp) : Heap := PySem.W.hideAll h (trk h H)
theorem hidT_size (h : Heap) (H : Hp) : (hidT h H).objs.size = h.objs.size := PySem.W.hideAll_size _ _
theorem hidT_get {h : Heap} {H : Hp} {b : Addr} {o : Obj} (e : h.get? b = some o) (n : H b = none) : (hidT h H).get? b = some o :=
  PySem.W.hideAll_get _ e fun hm => by
    have q : (H b).isSome = true := (List.mem_filter.mp hm).2
    rw [n] at q; simp at q
theorem of_hidT {h : Heap} {H : Hp} {b : Addr} {o : Obj} (e : (hidT h H).get? b = some o) : h.get? b = some o ∧ H b = none := by
  have e' : h.get? b = some o := PySem.W.of_hideAll (trk h H) e
  refine ⟨e', ?_⟩
  cases q : H b with
  | none => rfl
  | some x =>
    have hm : b ∈ trk h H := List.mem_filter.mpr ⟨List.mem_range.mpr (Heap.lt_size e'), by simp [q]⟩
    have z : (hidT h H).get? b = none := PySem.W.hideAll_none (trk h H) hm
    rw [z] at e; cases e
def allNews (g h : Heap) (L : Addr) : List (Addr × Obj) := (List.range h.objs.size).filterMap fun a => if a = L ∨ (g.get? a).isSome = true then none else (h.get? a).map fun o => (a, o)
def rest (g h : Heap) (L d : Addr) : List (Addr × Obj) := (allNews g h L).filter fun p => decide (p.1 ≠ d)
end L2
namespace L2
open PySem PySem.Spec PyProof.Rows
structure Mod (K : PySem.W.Frag) (mg : Str → Option Value) (base : Heap) : Prop where
  kin : K.In base
  glob : base.Ns mainGlobals mg
  blt : ∃ mb, base.Ns builtinsNs mb ∧ ∀ x : Str, x ≠ "__name__" → mb x = bootBuiltins x
  nolimit : base.NoLimit
structure Cx where
  prog : Program
  w : World
  K : PySem.W.Frag
  mg : Str → Option Value
  base : Heap
  A : Around
  N : List Str
  s_0 : Shared
  H_0 : Hp
  env : Env
  outer : List Env
  stack : List Env
  ex : List Addr
  fn : Str → Bool
  calm : Bool
  pn : List (Addr × Obj)
  xe : Value → Shared → Prop
def frs (l : List Env) : List Addr := l.filterMap (·.frame)
abbrev Cx.fs (X : Cx) : List Addr := frs X.outer
def Vis (sc : Scope) (x : Str) : Prop := sc.names.lookup x = some .local ∨ sc.names.lookup x = some .cell ∨ sc.names.lookup x = some .free
def Loc (sc : Scope) (x : Str) : Prop := sc.names.lookup x = some .local ∨ sc.names.lookup x = some .cell
def Look (env : Env) (h : Heap) (m : Str → Option Value) (x : Str) (u : Value) : Prop :=
  (env.kindOf x = some .local ∧ m x = some u) ∨ ((env.kindOf x = some .cell ∨ env.kindOf x = some .free) ∧ ∃ c, env.cells.lookup x = some c ∧ h.IsCell c (some u))
structure Cx.Ok (X : Cx) : Prop where
  mod : Mod X.K X.mg X.base
  kind : X.env.scope.kind = .function
  glob : X.env.globals = mainGlobals
  blt : X.env.builtins = builtinsNs
  above : X.s_0.heap.objs.size ≤ X.env.locals
  inj : ∀ x y c, X.env.cells.lookup x = some c → X.env.cells.lookup y = some c → x = y
  has : ∀ x, (X.env.kindOf x = some .cell ∨ X.env.kindOf x = some .free) → ∃ c, X.env.cells.lookup x = some c
  cab : ∀ x c, X.fn x = true → X.env.cells.lookup x = some c → X.s_0.heap.objs.size ≤ c
  hd : X.calm = true → X.A.handled = none
  frames : X.A.frames = some X.stack
  stk : X.stack = X.outer ∨ (X.stack = X.env :: X.outer ∧ X.env.frame = some X.env.locals)
  exf : ∀ b ∈ X.ex, b ≠ X.env.locals ∧ ∀ x c, X.env.cells.lookup x = some c → c ≠ b
  bs : ∀ b o, X.base.get? b = some o → X.s_0.heap.get? b = some o ∧ X.H_0 b = none
  bsz : X.base.objs.size ≤ X.s_0.heap.objs.size
  noex : ∀ b o, X.base.get? b = some o → b ∉ X.ex
  exfs : ∀ b ∈ X.ex, b ∉ X.fs
  funs : X.s_0.heap.FunFrames X.base X.outer
  frf : ∀ b ∈ X.fs, X.H_0 b = none
structure Inv (X : Cx) (pins : List (Addr × Obj)) (σ : List (Option V)) (H : Hp) (s : Shared) : Prop where
  ok : X.Ok
  os : s.os = X.s_0.os
  bare : AllBare s.gens
  base : Un X.fs X.ex X.H_0 H X.s_0.heap s.heap
  loc : ∃ m, s.heap.Ns X.env.locals m ∧ ∀ (i : Nat) (x : Str) (v : V), X.N[i]? = some x → σ[i]? = some (some v) → Vis X.env.scope x → ∃ u, RelV v u ∧ Look X.env s.heap m x u
  cell : ∀ x c, X.env.cells.lookup x = some c → ∃ v, s.heap.IsCell c v
  free : H X.env.locals = none
  freeC : ∀ x c, X.env.cells.lookup x = some c → H c = none
  pin : ∀ p ∈ X.pn ++ pins, s.heap.get? p.1 = some p.2 ∧ H p.1 = none ∧ p.1 ≠ X.env.locals ∧ p.1 ∉ X.fs ∧ ∀ v, p.2.data ≠ .cell v
  hok : HOk X.prog X.w H s.heap
  len : σ.length = X.N.length
section
variable {X : Cx} {pins : List (Addr × Obj)} {σ : List (Option V)} {H H' : Hp} {s : Shared} {h' : Heap}
theorem Cx.Ok.nofr (ok : X.Ok) {b : Addr} {o : Obj} (e : X.base.get? b = some o) : b ∉ X.fs := fun hb => by
  have := (ok.funs.mem hb).1
  rw [e] at this; cases this
theorem Inv.bs (I : Inv X pins σ H s) : ∀ b o, X.base.get? b = some o → s.heap.get? b = some o ∧ H b = none := fun b o e =>
  ⟨I.base.keep b o (I.ok.bs b o e).1 (I.ok.bs b o e).2 (I.ok.nofr e) (I.ok.noex b o e), I.base.free b o (I.ok.bs b o e).1 (I.ok.bs b o e).2 (I.ok.noex b o e)⟩
theorem Inv.bk (I : Inv X pins σ H s) : ∀ b o, X.base.get? b = some o → s.heap.get? b = some o := fun b o e => (I.bs b o e).1
theorem Inv.mod (I : Inv X pins σ H s) : Mod X.K X.mg X.base := I.ok.mod
theorem Inv.kIn (I : Inv X pins σ H s) : X.K.In s.heap := I.ok.mod.kin.keeps I.bk
theorem Inv.nolimit (I : Inv X pins σ H s) : s.heap.NoLimit := I.ok.mod.nolimit.keeps I.bk
theorem Inv.fr (I : Inv X pins σ H s) : ∃ m, Fr X.base X.env.locals s.heap m :=
  let ⟨m, hn, _⟩ := I.loc
  ⟨m, hn, I.bk, Nat.le_trans I.ok.bsz I.ok.above⟩
theorem Inv.lt (I : Inv X pins σ H s) : X.env.locals < s.heap.objs.size := let ⟨_, hn, _⟩ := I.loc; hn.lt
theorem Inv.sz (I : Inv X pins σ H s) : X.s_0.heap.objs.size ≤ s.heap.objs.size := Nat.le_trans I.ok.above (Nat.le_of_lt I.lt)
theorem Inv.nofs (I : Inv X pins σ H s) {a : Addr} (h : s.heap.objs.size ≤ a) : a ∉ X.fs := fun hb => by
  obtain ⟨_, o, ho, _⟩ := I.ok.funs.mem hb
  exact absurd (Nat.lt_of_lt_of_le (Heap.lt_size ho) (Nat.le_trans I.sz h)) (Nat.lt_irrefl _)
theorem Inv.cne (I : Inv X pins σ H s) : ∀ x c, X.env.cells.lookup x = some c → c ≠ X.env.locals := fun x c e z => by
  obtain ⟨v, o, ho, hd⟩ := I.cell x c e
  obtain ⟨m, ⟨o', es, ep, ho', hd', _⟩, _⟩ := I.loc
  rw [z, ho'] at ho; cases ho; rw [hd'] at hd; cases hd
theorem Inv.funs (I : Inv X pins σ H s) : s.heap.FunFrames X.base X.outer := by
  have all : ∀ (l : List Env), (∀ b ∈ frs l, b ∈ X.fs) → X.s_0.heap.FunFrames X.base l → s.heap.FunFrames X.base l := by
    intro l
    induction l with
    | nil => intro _ _; trivial
    | cons env r ih =>
      intro hs hl
      obtain ⟨hk, ⟨L, o, hf, hn, ho, hd⟩, hr⟩ := hl
      have hL : L ∈ X.fs := hs L (by unfold frs; rw [List.filterMap_cons, hf]; exact List.mem_cons_self)
      obtain ⟨sl, e⟩ := I.base.slot L o ho (I.ok.frf L hL) hL fun z => I.ok.exfs L z hL
      exact ⟨hk, ⟨L, _, hf, hn, e, hd⟩, ih (fun b hb => hs b (by unfold frs; rw [List.filterMap_cons, hf]; exact List.mem_cons_of_mem _ hb)) hr⟩
  exact all X.outer (fun _ hb => hb) I.ok.funs
theorem Inv.stack (I : Inv X pins σ H s) : s.heap.FunFrames X.base X.stack := by
  rcases I.ok.stk with e | ⟨e, hf⟩
  · rw [e]; exact I.funs
  · rw [e]
    obtain ⟨m, hn, _⟩ := I.loc
    refine .cons (by rw [I.ok.kind]; decide) hf hn ?_ I.funs
    exact Heap.get?_none_of_le (Nat.le_trans I.ok.bsz I.ok.above)
theorem Inv.stkSub (I : Inv X pins σ H s) : ∀ b ∈ frs X.stack, b ∈ X.env.locals :: X.fs := fun b hb => by
  rcases I.ok.stk with e | ⟨e, hf⟩
  · rw [e] at hb; exact List.mem_cons_of_mem _ hb
  · rw [e] at hb
    unfold frs at hb
    rw [List.filterMap_cons, hf] at hb
    exact hb
theorem Inv.stkFree (I : Inv X pins σ H s) : ∀ b ∈ frs X.stack, H b = none := fun b hb => by
  rcases List.mem_cons.mp (I.stkSub b hb) with e | hb
  · rw [e]; exact I.free
  · obtain ⟨_, o, ho, _⟩ := I.ok.funs.mem hb
    exact I.base.free b o ho (I.ok.frf b hb) fun z => I.ok.exfs b z hb
theorem Inv.step {g' : Array GenState} {t' : Nat} {d' : Drawn} {ch : List Addr} (I : Inv X pins σ H s)
    (hch : ∀ b ∈ ch, (b ∈ X.ex ∨ X.s_0.heap.objs.size ≤ b) ∧ b ≠ X.env.locals ∧ (∀ x c, X.env.cells.lookup x = some c → c ≠ b) ∧ ∀ p ∈ X.pn ++ pins, p.1 ≠ b)
    (keep : ∀ b o, b ≠ X.env.locals → b ∉ X.fs → b ∉ ch → s.heap.get? b = some o → H b = none → h'.get? b = some o)
    (slot : ∀ b o, b ≠ X.env.locals → b ∈ X.fs → b ∉ ch → s.heap.get? b = some o → H b = none → ∃ sl, h'.get? b = some { o with slots := sl }) (free : ∀ b o, b ∉ ch → s.heap.get? b = some o → H b = none → H' b = none)
    (there : ∀ b o, b ∉ ch → s.heap.get? b = some o → ∃ o', h'.get? b = some o')
    (tups : ∀ b xs, H b = some (.tup xs) → H' b = some (.tup xs)) (frzs : ∀ b o u, H b = some (.frz o u) → H' b = some (.frz o u)) (tbls : ∀ b ps, H b = some (.tbl ps) → ∃ more, H' b = some (.tbl (ps ++ more)))
    (ns : ∀ m, s.heap.Ns X.env.locals m → h'.Ns X.env.locals m) (hok : HOk X.prog X.w H' h') (hg : AllBare g') :
    Inv X pins σ H' { s with heap := h', gens := g', drawn := d', toks := t' } := by
  have neL : ∀ b o, X.s_0.heap.get? b = some o → b ≠ X.env.locals := fun b o e => Nat.ne_of_lt (Nat.lt_of_lt_of_le (Heap.lt_size e) I.ok.above)
  have neC : ∀ b o, X.s_0.heap.get? b = some o → b ∉ X.ex → b ∉ ch := fun b o e hx hb => by
    rcases (hch b hb).1 with z | z
    · exact hx z
    · exact absurd (Nat.lt_of_lt_of_le (Heap.lt_size e) z) (Nat.lt_irrefl _)
  have cellK : ∀ x c, X.env.cells.lookup x = some c → ∀ v, s.heap.IsCell c v → h'.IsCell c v := fun x c e v ⟨o, ho, hd⟩ => by
    have nch : c ∉ ch := fun z => (hch c z).2.2.1 x c e rfl
    by_cases hc : c ∈ X.fs
    · obtain ⟨sl, q⟩ := slot c o (I.cne x c e) hc nch ho (I.freeC x c e)
      exact ⟨_, q, hd⟩
    · exact ⟨o, keep c o (I.cne x c e) hc nch ho (I.freeC x c e), hd⟩
  refine ⟨I.ok, I.os, hg, ⟨fun b o e n hb hx => ?_, fun b o e n hb hx => ?_, fun b o e n hx => ?_, fun b o e hx => ?_, fun b xs e => tups b xs (I.base.tups b xs e), fun b o xs e => frzs b o xs (I.base.frzs b o xs e), fun b ps e => ?_⟩, ?_, fun x c e => ?_, ?_, fun x c e => ?_, fun p hp => ?_, hok, I.len⟩
  · exact keep b o (neL b o e) hb (neC b o e hx) (I.base.keep b o e n hb hx) (I.base.free b o e n hx)
  · obtain ⟨sl, e1⟩ := I.base.slot b o e n hb hx
    obtain ⟨sl', e2⟩ := slot b _ (neL b o e) hb (neC b o e hx) e1 (I.base.free b o e n hx)
    exact ⟨sl', e2⟩
  · obtain ⟨o', e1⟩ := I.base.there b o e hx
    exact free b o' (neC b o e hx) e1 (I.base.free b o e n hx)
  · obtain ⟨o', e1⟩ := I.base.there b o e hx
    exact there b o' (neC b o e hx) e1
  · obtain ⟨m1, e1⟩ := I.base.tbls b ps e
    obtain ⟨m2, e2⟩ := tbls b _ e1
    exact ⟨m1 ++ m2, by rw [e2, Array.append_assoc]⟩
  · obtain ⟨m, hn, hl⟩ := I.loc
    refine ⟨m, ns m hn, fun i x v e1 e2 e3 => ?_⟩
    obtain ⟨u, r, l⟩ := hl i x v e1 e2 e3
    refine ⟨u, r, ?_⟩
    rcases l with l | ⟨k, c, e, z⟩
    · exact .inl l
    · exact .inr ⟨k, c, e, cellK x c e _ z⟩
  · obtain ⟨v, z⟩ := I.cell x c e
    exact ⟨v, cellK x c e v z⟩
  · obtain ⟨m, ⟨o, _, _, ho, _⟩, _⟩ := I.loc
    exact free _ o (fun z => (hch _ z).2.1 rfl) ho I.free
  · obtain ⟨v, o, ho, hd⟩ := I.cell x c e
    exact free c o (fun z => (hch c z).2.2.1 x c e rfl) ho (I.freeC x c e)
  · obtain ⟨e, n, ne, nf, d⟩ := I.pin p hp
    have nch : p.1 ∉ ch := fun z => (hch p.1 z).2.2.2 p hp rfl
    exact ⟨keep p.1 p.2 ne nf nch e n, free p.1 p.2 nch e n, ne, nf, d⟩
theorem Inv.un {t' : Nat} (I : Inv X pins σ H s) (u : Un X.fs [] H H' s.heap h') (hok : HOk X.prog X.w H' h') : Inv X pins σ H' { s with heap := h', toks := t' } := by
  obtain ⟨m, ⟨o, es, ep, ho, r⟩, _⟩ := id I.loc
  obtain ⟨sl, hL⟩ := u.any ho I.free (by simp)
  exact I.step (g' := s.gens) (d' := s.drawn) (ch := []) (fun _ z => nomatch z) (fun b o _ hb _ e n => u.keep b o e n hb (by simp)) (fun b o _ hb _ e n => u.slot b o e n hb (by simp)) (fun b o _ e n => u.free b o e n (by simp)) (fun b o _ e => u.there b o e (by simp)) u.tups u.frzs u.tbls (fun m' hm => by
    obtain ⟨o', es', ep', ho', r'⟩ := hm
    rw [ho] at ho'; cases ho'
    exact ⟨_, es', ep', hL, r'⟩) hok I.bare
theorem Inv.call {g' : Array GenState} {t' : Nat} {d' : Drawn} {ch : List Addr} (I : Inv X pins σ H s) (u : Un (frs X.stack) ch H H' s.heap h') (hok : HOk X.prog X.w H' h') (hg : AllBare g')
    (hch : ∀ b ∈ ch, (b ∈ X.ex ∨ X.s_0.heap.objs.size ≤ b) ∧ b ≠ X.env.locals ∧ (∀ x c, X.env.cells.lookup x = some c → c ≠ b) ∧ ∀ p ∈ X.pn ++ pins, p.1 ≠ b) :
    Inv X pins σ H' { s with heap := h', gens := g', drawn := d', toks := t' } := by
  obtain ⟨m, ⟨o, es, ep, ho, r⟩, _⟩ := id I.loc
  obtain ⟨sl, hL⟩ := u.any ho I.free fun z => (hch _ z).2.1 rfl
  exact I.step (ch := ch) hch (fun b o hL hb hc e n => u.keep b o e n (fun z => (List.mem_cons.mp (I.stkSub b z)).elim hL hb) hc) (fun b o _ _ hc e n => u.any e n hc) (fun b o hc e n => u.free b o e n hc) (fun b o hc e => u.there b o e hc) u.tups u.frzs u.tbls (fun m' hm => by
    obtain ⟨o', es', ep', ho', r'⟩ := hm
    rw [ho] at ho'; cases ho'
    exact ⟨_, es', ep', hL, r'⟩) hok hg
theorem Inv.turned {t' : Nat} {it : Addr} (I : Inv X pins σ H s) (k : ∀ b o, b ≠ it → s.heap.get? b = some o → h'.get? b = some o) (hn : H it = none) (hL : it ≠ X.env.locals)
    (h1 : it ∈ X.ex ∨ X.s_0.heap.objs.size ≤ it) (h2 : ∀ x c, X.env.cells.lookup x = some c → c ≠ it) (h3 : ∀ p ∈ X.pn ++ pins, p.1 ≠ it) : Inv X pins σ H { s with heap := h', toks := t' } := by
  have nit : ∀ b u, H b = some u → b ≠ it := fun b u e z => by rw [z, hn] at e; cases e
  refine I.step (g' := s.gens) (d' := s.drawn) (ch := [it]) (fun b hb => ?_) (fun b o _ _ hc e _ => k b o (fun z => hc (by simp [z])) e) (fun b o _ _ hc e _ => ⟨o.slots, k b o (fun z => hc (by simp [z])) e⟩) (fun _ _ _ _ n => n)
    (fun b o hc e => ⟨o, k b o (fun z => hc (by simp [z])) e⟩) (fun _ _ e => e) (fun _ _ _ e => e) (fun b ps e => ⟨#[], by rw [e]; simp⟩) (fun m hm => ?_) (fun b u e => ?_) I.bare
  · have e : b = it := by simpa using hb
    subst e
    exact ⟨h1, hL, h2, h3⟩
  · obtain ⟨o, es, ep, ho, r⟩ := hm
    exact ⟨o, es, ep, k _ o (Ne.symm hL) ho, r⟩
  · refine (I.hok b u e).stay (fun c v hc q => k c v ?_ q) (fun _ q => q) fun _ _ q => q
    rcases hc with z | z
    · rw [z]; exact nit b u e
    · exact nit c _ z
theorem Inv.tok (I : Inv X pins σ H s) (t : Nat) : Inv X pins σ H { s with toks := t } := I.un (h' := s.heap) (t' := t) Un.refl I.hok
theorem Inv.kept {t' : Nat} (I : Inv X pins σ H s) (k : ∀ b u, s.heap.get? b = some u → h'.get? b = some u) : Inv X pins σ H { s with heap := h', toks := t' } := I.un (Un.kept k) (I.hok.kept k)
theorem Inv.laid {a : Addr} {o : HO} {t' : Nat} (I : Inv X pins σ H s) (k : ∀ b u, s.heap.get? b = some u → h'.get? b = some u) (hp : s.heap.objs.size ≤ a) (new : ObjOk X.prog X.w (upd H a o) h' a o) :
    Inv X pins σ (upd H a o) { s with heap := h', toks := t' } := I.un (Un.laid k hp (I.hok.fresh hp)) (I.hok.laid k hp new)
theorem Inv.write {x e : Addr} {o : HO} {t' : Nat} (I : Inv X pins σ H s) (mu : Mut (H x)) (he : e = x ∨ H e = some (.own x)) (k : ∀ b u, b ≠ e → s.heap.get? b = some u → h'.get? b = some u) (heo : ∃ u, h'.get? e = some u)
    (new : ObjOk X.prog X.w (upd H x o) h' x o) : Inv X pins σ (upd H x o) { s with heap := h', toks := t' } := I.un (Un.write mu he k heo) (I.hok.write mu he k heo new)
theorem Inv.weak {σ' : List (Option V)} (I : Inv X pins σ H s) (hl : σ'.length = σ.length) (w : ∀ (i : Nat) v, σ'[i]? = some (some v) → σ[i]? = some (some v)) : Inv X pins σ' H s :=
  ⟨I.ok, I.os, I.bare, I.base, let ⟨m, hn, hl'⟩ := I.loc; ⟨m, hn, fun i x v e1 e2 e3 => hl' i x v e1 (w i v e2) e3⟩, I.cell, I.free, I.freeC, I.pin, I.hok, hl.trans I.len⟩
theorem Inv.pins_of {pins' : List (Addr × Obj)} (I : Inv X pins σ H s) (h : ∀ p ∈ pins', s.heap.get? p.1 = some p.2 ∧ H p.1 = none ∧ p.1 ≠ X.env.locals ∧ p.1 ∉ X.fs ∧ ∀ v, p.2.data ≠ .cell v) : Inv X pins' σ H s :=
  ⟨I.ok, I.os, I.bare, I.base, I.loc, I.cell, I.free, I.freeC, fun p hp => (List.mem_append.mp hp).elim (fun z => I.pin p (List.mem_append_left _ z)) (h p), I.hok, I.len⟩
theorem nodup_ix {N : List Str} (hN : N.Nodup) {i j : Nat} {x : Str} (a : N[i]? = some x) (b : N[j]? = some x) : i = j := by
  obtain ⟨h1, e1⟩ := List.getElem?_eq_some_iff.mp a
  obtain ⟨h2, e2⟩ := List.getElem?_eq_some_iff.mp b
  exact (List.getElem_inj hN).mp (e1.trans e2.symm)
theorem store_ok2 {M : Model} {A : Around} {E : Value → Shared → Prop} {i : Nat} {x : Str} {v : V} {u : Value} {Q : Unit → Shared → Prop} (I : Inv X pins σ H s) (hN : X.N.Nodup) (hi : X.N[i]? = some x) (hx : Loc X.env.scope x) (r : RelV v u)
    (h : ∀ s', Inv X pins (σ.set i (some v)) H s' → (∃ a, Heap.SameBut a s.heap s'.heap ∧ (a = X.env.locals ∨ X.env.cells.lookup x = some a)) → Q () s') (hf : X.fn x = true ∨ X.env.scope.names.lookup x = some .local := by first | exact .inl rfl | exact .inr rfl | assumption) : wpAny M A (storeName X.env x u) Q E s := by
  obtain ⟨m, hn, hl⟩ := id I.loc
  have hcls : (X.env.scope.kind == .class || (X.env.scope.kind == .module && X.env.locals != X.env.globals)) = false := by rw [I.ok.kind]; rfl
  have hiσ : i < σ.length := by rw [I.len]; exact (List.getElem?_eq_some_iff.mp hi).1
  have cne := I.cne
  have tracked : ∀ {a : Addr} {h' : Heap}, (∃ o, s.heap.get? a = some o ∧ H a = none) → Heap.SameBut a s.heap h' → HOk X.prog X.w H h' := fun {a h'} ha hs b ob e => by
    obtain ⟨_, _, hfree⟩ := ha
    refine (I.hok b ob e).stay (fun c w' hc q => (hs.2 c ?_).trans q) (fun _ q => q) fun _ _ q => q
    rintro rfl
    rcases hc with rfl | hc
    · rw [hfree] at e; cases e
    · rw [hfree] at hc; cases hc
  rcases hx with hk | hk
  · refine wpAny_storeName_local hk hn (fun h' hn' hs => ?_) hcls
    obtain ⟨oL, _, _, hoL, _⟩ := id hn
    refine h _ ⟨I.ok, I.os, I.bare, ⟨fun b o e n hb hx => ?_, fun b o e n hb hx => ?_, I.base.free, fun b o e hx => ?_, I.base.tups, I.base.frzs, I.base.tbls⟩, ⟨_, hn', fun j y v' e1 e2 e3 => ?_⟩, fun y c e => ?_, I.free, I.freeC, fun p hp => ?_, tracked ⟨oL, hoL, I.free⟩ hs, by simpa using I.len⟩ ⟨_, hs, .inl rfl⟩
    · exact (hs.2 b (Nat.ne_of_lt (Nat.lt_of_lt_of_le (Heap.lt_size e) I.ok.above))).trans (I.base.keep b o e n hb hx)
    · obtain ⟨sl, e1⟩ := I.base.slot b o e n hb hx
      exact ⟨sl, (hs.2 b (Nat.ne_of_lt (Nat.lt_of_lt_of_le (Heap.lt_size e) I.ok.above))).trans e1⟩
    · obtain ⟨o', e1⟩ := I.base.there b o e hx
      exact ⟨o', (hs.2 b (Nat.ne_of_lt (Nat.lt_of_lt_of_le (Heap.lt_size e) I.ok.above))).trans e1⟩
    · by_cases hj : j = i
      · subst hj
        rw [hi] at e1; cases e1
        rw [List.getElem?_set_self hiσ] at e2
        cases e2
        exact ⟨u, r, .inl ⟨hk, by simp⟩⟩
      · rw [List.getElem?_set_ne (Ne.symm hj)] at e2
        obtain ⟨u', r', q⟩ := hl j y v' e1 e2 e3
        refine ⟨u', r', ?_⟩
        rcases q with ⟨k, e⟩ | ⟨k, c, e, z⟩
        · refine .inl ⟨k, ?_⟩
          have : y ≠ x := fun e => hj (nodup_ix hN e1 (e ▸ hi))
          simp [this, e]
        · exact .inr ⟨k, c, e, z.sameBut hs (cne y c e)⟩
    · obtain ⟨w', z⟩ := I.cell y c e
      exact ⟨w', z.sameBut hs (cne y c e)⟩
    · obtain ⟨e, n, ne, nf, d⟩ := I.pin p hp
      exact ⟨(hs.2 p.1 ne).trans e, n, ne, nf, d⟩
  · have hfn : X.fn x = true := by
      rcases hf with z | z
      · exact z
      · rw [z] at hk; cases hk
    obtain ⟨c, hc⟩ := I.ok.has x (.inl hk)
    obtain ⟨w', z⟩ := I.cell x c hc
    refine wpAny_storeName_cell I.ok.kind hk hc z (fun h' hc' hs => ?_)
    obtain ⟨oc, hoc, hocd⟩ := id z
    refine h { s with heap := h' } ⟨I.ok, I.os, I.bare, ⟨fun b o e n hb hx => ?_, fun b o e n hb hx => ?_, I.base.free, fun b o e hx => ?_, I.base.tups, I.base.frzs, I.base.tbls⟩, ⟨m, hn.sameBut hs (Ne.symm (cne x c hc)), fun j y v' e1 e2 e3 => ?_⟩, fun y c' e => ?_, I.free, I.freeC, fun p hp => ?_, tracked ⟨oc, hoc, I.freeC x c hc⟩ hs, by simpa using I.len⟩ ⟨c, hs, .inr hc⟩
    · exact (hs.2 b (Nat.ne_of_lt (Nat.lt_of_lt_of_le (Heap.lt_size e) (I.ok.cab x c hfn hc)))).trans (I.base.keep b o e n hb hx)
    · obtain ⟨sl, e1⟩ := I.base.slot b o e n hb hx
      exact ⟨sl, (hs.2 b (Nat.ne_of_lt (Nat.lt_of_lt_of_le (Heap.lt_size e) (I.ok.cab x c hfn hc)))).trans e1⟩
    · obtain ⟨o', e1⟩ := I.base.there b o e hx
      exact ⟨o', (hs.2 b (Nat.ne_of_lt (Nat.lt_of_lt_of_le (Heap.lt_size e) (I.ok.cab x c hfn hc)))).trans e1⟩
    · by_cases hj : j = i
      · subst hj
        rw [hi] at e1; cases e1
        rw [List.getElem?_set_self hiσ] at e2
        cases e2
        exact ⟨u, r, .inr ⟨.inl hk, c, hc, hc'⟩⟩
      · rw [List.getElem?_set_ne (Ne.symm hj)] at e2
        obtain ⟨u', r', q⟩ := hl j y v' e1 e2 e3
        refine ⟨u', r', ?_⟩
        rcases q with q | ⟨k, c', e, z'⟩
        · exact .inl q
        · refine .inr ⟨k, c', e, z'.sameBut hs ?_⟩
          rintro rfl
          exact hj (nodup_ix hN e1 (I.ok.inj _ _ _ e hc ▸ hi))
    · by_cases hcc : c' = c
      · subst hcc; exact ⟨_, hc'⟩
      · obtain ⟨w2, z2⟩ := I.cell y c' e
        exact ⟨w2, z2.sameBut hs hcc⟩
    · obtain ⟨e, n, ne, nf, d⟩ := I.pin p hp
      refine ⟨(hs.2 p.1 ?_).trans e, n, ne, nf, d⟩
      intro q
      rw [q, hoc] at e
      have q' : oc = p.2 := Option.some.inj e
      exact d w' (by rw [← q']; exact hocd)
theorem store_ok {M : Model} {A : Around} {E : Value → Shared → Prop} {i : Nat} {x : Str} {v : V} {u : Value} {Q : Unit → Shared → Prop} (I : Inv X pins σ H s) (hN : X.N.Nodup) (hi : X.N[i]? = some x) (hx : Loc X.env.scope x) (r : RelV v u)
    (h : ∀ s', Inv X pins (σ.set i (some v)) H s' → Q () s') (hf : X.fn x = true ∨ X.env.scope.names.lookup x = some .local := by first | exact .inl rfl | exact .inr rfl | assumption) : wpAny M A (storeName X.env x u) Q E s :=
  store_ok2 I hN hi hx r (fun s' I' _ => h s' I') hf
theorem Inv.call' {s' : Shared} {ch : List Addr} (I : Inv X pins σ H s) (ho : s'.os = s.os) (u : Un (frs X.stack) ch H H' s.heap s'.heap) (hok : HOk X.prog X.w H' s'.heap) (hg : AllBare s'.gens)
    (hch : ∀ b ∈ ch, (b ∈ X.ex ∨ X.s_0.heap.objs.size ≤ b) ∧ b ≠ X.env.locals ∧ (∀ x c, X.env.cells.lookup x = some c → c ≠ b) ∧ ∀ p ∈ X.pn ++ pins, p.1 ≠ b) : Inv X pins σ H' s' := by
  obtain ⟨h', g', d', t', o'⟩ := s'
  have e : o' = s.os := ho
  subst e
  exact I.call (g' := g') (t' := t') (d' := d') u hok hg hch
end
abbrev XK := Value → Option Addr → Hp → Prop
abbrev St := List (Option V)
abbrev VK := V → Hp → Prop
abbrev TE := St → Hp → VK → Prop
abbrev TT := St → Hp → (Bool → Hp → Prop) → Prop
abbrev TA := St → Hp → (List V → Hp → Prop) → Prop
structure Ends where
  nx : St → Hp → Prop
  rt : VK
  bk : St → Hp → Prop := fun _ _ => False
  ct : St → Hp → Prop := fun _ _ => False
abbrev TS := Ends → St → Hp → Prop
def EP (X : Cx) (pins : List (Addr × Obj)) (σ : St) (Q : VK) (u : Value) (s' : Shared) : Prop := ∃ v H', Inv X pins σ H' s' ∧ RelV v u ∧ Q v H'
def TP (X : Cx) (pins : List (Addr × Obj)) (σ : St) (Q : Bool → Hp → Prop) (b : Bool) (s' : Shared) : Prop := ∃ H', Inv X pins σ H' s' ∧ Q b H'
def AP (X : Cx) (pins : List (Addr × Obj)) (σ : St) (Q : List V → Hp → Prop) (us : List Value) (s' : Shared) : Prop := ∃ vs H', Inv X pins σ H' s' ∧ Vals vs us ∧ Q vs H'
def SP (X : Cx) (pins : List (Addr × Obj)) (D : Ends) (f : Flow) (s' : Shared) : Prop :=
  match f with
  | .next => ∃ σ' H', Inv X pins σ' H' s' ∧ D.nx σ' H'
  | .brk => ∃ σ' H', Inv X pins σ' H' s' ∧ D.bk σ' H'
  | .cont => ∃ σ' H', Inv X pins σ' H' s' ∧ D.ct σ' H'
  | .ret u => ∃ v σ' H', Inv X pins σ' H' s' ∧ RelV v u ∧ D.rt v H'
def PE (X : Cx) (e : Expr) (t : TE) : Prop :=
  ∀ (pins : List (Addr × Obj)) (s : Shared) (σ : St) (H : Hp) (Q : VK), Inv X pins σ H s → t σ H Q → wpAny (model X.prog X.w) X.A (eval e X.env) (EP X pins σ Q) X.xe s
def PT (X : Cx) (e : Expr) (t : TT) : Prop :=
  ∀ (pins : List (Addr × Obj)) (s : Shared) (σ : St) (H : Hp) (Q : Bool → Hp → Prop), Inv X pins σ H s → t σ H Q → wpAny (model X.prog X.w) X.A (isTrue e X.env (eval e X.env)) (TP X pins σ Q) X.xe s
def PW (X : Cx) (e : Expr) (t : TT) : Prop :=
  ∀ (whole : Sem Value) (pins : List (Addr × Obj)) (s : Shared) (σ : St) (H : Hp) (Q : Bool → Hp → Prop), Inv X pins σ H s → t σ H Q → wpAny (model X.prog X.w) X.A (isTrue e X.env whole) (TP X pins σ Q) X.xe s
theorem PW.pt {X : Cx} {e : Expr} {t : TT} (h : PW X e t) : PT X e t := h _
def PA (X : Cx) (es : List Expr) (t : TA) : Prop :=
  ∀ (pos : Pos) (pins : List (Addr × Obj)) (s : Shared) (σ : St) (H : Hp) (Q : List V → Hp → Prop), Inv X pins σ H s → t σ H Q → wpAny (model X.prog X.w) X.A (spliced (backTo pos (starEach es X.env))) (AP X pins σ Q) X.xe s
def PS (X : Cx) (st : Stmt) (t : TS) : Prop :=
  ∀ (pins : List (Addr × Obj)) (s : Shared) (σ : St) (H : Hp) (D : Ends), Inv X pins σ H s → t D σ H → wpAny (model X.prog X.w) X.A (exec st X.env) (SP X pins D) X.xe s
def PSs (X : Cx) (st : List Stmt) (t : TS) : Prop :=
  ∀ (pins : List (Addr × Obj)) (s : Shared) (σ : St) (H : Hp) (D : Ends), Inv X pins σ H s → t D σ H → wpAny (model X.prog X.w) X.A (execs st X.env) (SP X pins D) X.xe s
theorem thn {α : Type} {t : Sem α} {Q Q' : α → Shared → Prop} {M : Model} {A : Around} {E : Value → Shared → Prop} {s : Shared} (h : wpAny M A t Q E s) (hQ : ∀ a s, Q a s → Q' a s) : wpAny M A t Q' E s := wpAny_mono h hQ fun _ _ x => x
end L2
namespace L2
open PySem PySem.Spec PyProof.Rows
section
variable {X : Cx}
theorem bin {a b : Expr} {ta tb : TE} (ha : PE X a ta) (hb : PE X b tb) {pins : List (Addr × Obj)} {s : Shared} {σ : St} {H : Hp} {R : V → V → Hp → Prop} (I : Inv X pins σ H s) (h : ta σ H fun x H1 => tb σ H1 fun y H2 => R x y H2)
    {α : Type} {Q : α → Shared → Prop} {f : Value → Value → Sem α}
    (hf : ∀ v u s2 x y H2, Inv X pins σ H2 s2 → RelV x v → RelV y u → R x y H2 → wpAny (model X.prog X.w) X.A (f v u) Q X.xe s2) :
    wpAny (model X.prog X.w) X.A (eval a X.env) (fun v s₁ => wpAny (model X.prog X.w) X.A (eval b X.env) (fun u s₂ => wpAny (model X.prog X.w) X.A (f v u) Q X.xe s₂) X.xe s₁) X.xe s := by
  refine thn (ha pins s σ H _ I h) fun v s1 ⟨x, H1, I1, r1, q1⟩ => ?_
  refine thn (hb pins s1 σ H1 _ I1 q1) fun u s2 ⟨y, H2, I2, r2, q2⟩ => ?_
  exact hf v u s2 x y H2 I2 r1 r2 q2
def tVar (i : Nat) : TE := fun σ H Q => ∃ v, σ[i]? = some (some v) ∧ Q v H
def tC (v : V) : TE := fun _ H Q => Q v H
theorem pe_var {i : Nat} {x : Str} {pos : Pos} (hN : X.N[i]? = some x) (hv : Vis X.env.scope x) (hd : (x == ("__debug__" : Str)) = false := by decide) (hcd : (x == ("__classdict__" : Str)) = false := by decide) : PE X (.Name x pos) (tVar i) := by
  intro pins s σ H Q I h
  obtain ⟨v, e, h⟩ := h
  obtain ⟨m, hn, hl⟩ := I.loc
  obtain ⟨u, r, l⟩ := hl i x v hN e hv
  have fin : EP X pins σ Q u s := ⟨v, H, I, r, h⟩
  rcases l with ⟨hk, hm⟩ | ⟨hk, c, hc, hcell⟩
  · exact wpAny_Name (wpAny_loadName_local I.ok.kind hk hn hm fin) hd
  · rcases hk with hk | hk
    · exact wpAny_Name (wpAny_loadName_cell I.ok.kind hk hc hcell fin) hd
    · exact wpAny_Name (wpAny_loadName_free I.ok.kind hk hc hcell fin hcd) hd
theorem pe_int {i j pos} : PE X (.Constant (.int i) j pos) (tC (.int i)) := fun _ _ _ H _ I h => wpAny_Constant_int ⟨.int i, H, I.tok _, ⟨_, rfl⟩, h⟩
theorem pe_bl {b j pos} : PE X (.Constant (.bool b) j pos) (tC (.bl b)) := fun _ _ _ H _ I h => Constant_bool ⟨.bl b, H, I, rfl, h⟩
theorem pe_non {j pos} : PE X (.Constant .none j pos) (tC .non) := fun _ _ _ H _ I h => Constant_none ⟨.non, H, I, rfl, h⟩
def Gl (X : Cx) (x : Str) : Prop := X.env.kindOf x = some .globalImplicit
theorem ld_glob {E : Value → Shared → Prop} {pins : List (Addr × Obj)} {s : Shared} {σ : St} {H : Hp} {x : Str} {u : Value} {pos : Pos} {Q : Value → Shared → Prop} (I : Inv X pins σ H s) (hg : Gl X x) (hm : X.mg x = some u) (h : Q u s)
    (hd : (x == ("__debug__" : Str)) = false := by decide) : wpAny (model X.prog X.w) X.A (eval (.Name x pos) X.env) Q E s :=
  Calls.Name_function_global I.ok.kind hg (Calls.loadGlobal_global (by rw [I.ok.glob]; exact I.mod.glob.keeps I.bk) hm h) hd
theorem ld_blt {E : Value → Shared → Prop} {pins : List (Addr × Obj)} {s : Shared} {σ : St} {H : Hp} {x : Str} {u : Value} {pos : Pos} {Q : Value → Shared → Prop} (I : Inv X pins σ H s) (hg : Gl X x) (hm : X.mg x = none) (hv : bootBuiltins x = some u) (h : Q u s)
    (hn : x ≠ "__name__" := by decide) (hd : (x == ("__debug__" : Str)) = false := by decide) : wpAny (model X.prog X.w) X.A (eval (.Name x pos) X.env) Q E s := by
  obtain ⟨mb, h1, h2⟩ := I.mod.blt
  exact Calls.Name_function_global I.ok.kind hg (Calls.loadGlobal_builtin (by rw [I.ok.glob]; exact I.mod.glob.keeps I.bk) hm (by rw [I.ok.blt]; exact h1.keeps I.bk) ((h2 x hn).trans hv) h) hd
theorem pe_glob {x : Str} {v : V} {u : Value} {pos : Pos} (hg : Gl X x) (hm : X.mg x = some u) (r : RelV v u) (hd : (x == ("__debug__" : Str)) = false := by decide) : PE X (.Name x pos) (tC v) :=
  fun _ _ _ H _ I h => ld_glob I hg hm ⟨v, H, I, r, h⟩ hd
variable {a b : Expr} {ta tb : TE} {pos : Pos}
def PC (X : Cx) (op : CmpOp) (a b : Expr) (t : TE) : Prop :=
  ∀ (pins : List (Addr × Obj)) (s : Shared) (σ : St) (H : Hp) (Q : VK), Inv X pins σ H s → t σ H Q →
    wpAny (model X.prog X.w) X.A (eval a X.env) (fun v s₁ => wpAny (model X.prog X.w) X.A (eval b X.env) (fun u s₂ => wpAny (model X.prog X.w) X.A (compareOp op v u) (EP X pins σ Q) X.xe s₂) X.xe s₁) X.xe s
theorem nobehind (b : Expr) {op : CmpOp} (h : op ≠ .In) (h2 : op ≠ .NotIn) : behindInMarks op b = false := by
  have e1 : (op == CmpOp.In) = false := by cases op <;> first | rfl | exact absurd rfl h
  have e2 : (op == CmpOp.NotIn) = false := by cases op <;> first | rfl | exact absurd rfl h2
  cases b <;> simp [behindInMarks, e1, e2]
def tB (t : TE) : TT := fun σ H Q => t σ H fun x H1 => ∃ c, x = .bl c ∧ Q c H1
theorem pt_cmp {op : CmpOp} {t : TE} (h : PC X op a b t) (h1 : behindInMarks op b = false := by first | exact nobehind _ (by decide) (by decide) | rfl) : PT X (.Compare a [op] [b] pos) (tB t) := by
  intro pins s σ H Q I hw
  refine wpAny_isTrue_Compare1 (thn (h pins s σ H _ I hw) fun v s1 h1 => thn h1 fun u s2 h2 => thn h2 fun c s3 ⟨x, H1, I1, r1, q1⟩ => ?_) h1
  obtain ⟨d, rfl, q⟩ := q1
  cases r1
  exact wpAny_truthy_bool ⟨H1, I1, q⟩
variable {tA tB' : TT} {rest : List Expr}
def tAnd (t u : TT) : TT := fun σ H Q => t σ H fun c H1 => if c = true then u σ H1 Q else Q false H1
def tOr (t u : TT) : TT := fun σ H Q => t σ H fun c H1 => if c = true then Q true H1 else u σ H1 Q
def tNot (t : TT) : TT := fun σ H Q => t σ H fun c H1 => Q (!c) H1
theorem pw_and1 (ha : PT X a tA) : PW X (.BoolOp .And [a] pos) tA := by
  intro wh pins s σ H Q I h
  refine isTrue_and (thn (ha pins s σ H Q I h) fun c s1 e => ?_)
  cases c with
  | true => exact isTrue_and_nil e
  | false => exact e
theorem pw_or1 (ha : PT X a tA) : PW X (.BoolOp .Or [a] pos) tA := by
  intro wh pins s σ H Q I h
  refine isTrue_or (thn (ha pins s σ H Q I h) fun c s1 e => ?_)
  cases c with
  | false => exact isTrue_or_nil e
  | true => exact e
theorem pw_and (ha : PT X a tA) (hb : PW X (.BoolOp .And (b :: rest) pos) tB') : PW X (.BoolOp .And (a :: b :: rest) pos) (tAnd tA tB') := by
  intro wh pins s σ H Q I h
  refine isTrue_and (thn (ha pins s σ H _ I h) fun c s1 ⟨H1, I1, q1⟩ => ?_)
  cases c with
  | true => exact hb wh pins s1 σ H1 Q I1 q1
  | false => exact ⟨H1, I1, q1⟩
theorem pw_or (ha : PT X a tA) (hb : PW X (.BoolOp .Or (b :: rest) pos) tB') : PW X (.BoolOp .Or (a :: b :: rest) pos) (tOr tA tB') := by
  intro wh pins s σ H Q I h
  refine isTrue_or (thn (ha pins s σ H _ I h) fun c s1 ⟨H1, I1, q1⟩ => ?_)
  cases c with
  | true => exact ⟨H1, I1, q1⟩
  | false => exact hb wh pins s1 σ H1 Q I1 q1
theorem pt_not (ha : PT X a tA) : PT X (.UnaryOp .Not a pos) (tNot tA) := by
  intro pins s σ H Q I h
  exact isTrue_not (ha pins s σ H (fun c H1 => Q (!c) H1) I h)
def tAndV (ta tb : TE) : TE := fun σ H Q => ta σ H fun x H1 => ∃ c, x = .bl c ∧ if c = true then tb σ H1 Q else Q (.bl false) H1
def tOrV (ta tb : TE) : TE := fun σ H Q => ta σ H fun x H1 => ∃ c, x = .bl c ∧ if c = true then Q (.bl true) H1 else tb σ H1 Q
def tNotV (ta : TE) : TE := fun σ H Q => ta σ H fun x H1 => ∃ c, x = .bl c ∧ Q (.bl (!c)) H1
theorem pe_one {op} {t : TE} (h : PE X a t) : PE X (.BoolOp op [a] pos) t := fun pins s σ H Q I hw => BoolOp_one (h pins s σ H Q I hw)
theorem pe_and (ha : PE X a ta) (hb : PE X (.BoolOp .And (b :: rest) pos) tb) : PE X (.BoolOp .And (a :: b :: rest) pos) (tAndV ta tb) := by
  intro pins s σ H Q I h
  refine BoolOp_and (thn (ha pins s σ H _ I h) fun v s1 ⟨x, H1, I1, r1, q1⟩ => ?_)
  obtain ⟨c, rfl, q1⟩ := q1
  cases r1
  refine wpAny_truthy_bool ?_
  cases c with
  | true => exact hb pins s1 σ H1 Q I1 q1
  | false => exact ⟨.bl false, H1, I1, rfl, q1⟩
theorem pe_or (ha : PE X a ta) (hb : PE X (.BoolOp .Or (b :: rest) pos) tb) : PE X (.BoolOp .Or (a :: b :: rest) pos) (tOrV ta tb) := by
  intro pins s σ H Q I h
  refine BoolOp_or (thn (ha pins s σ H _ I h) fun v s1 ⟨x, H1, I1, r1, q1⟩ => ?_)
  obtain ⟨c, rfl, q1⟩ := q1
  cases r1
  refine wpAny_truthy_bool ?_
  cases c with
  | false => exact hb pins s1 σ H1 Q I1 q1
  | true => exact ⟨.bl true, H1, I1, rfl, q1⟩
theorem pe_not (ha : PE X a ta) : PE X (.UnaryOp .Not a pos) (tNotV ta) := by
  intro pins s σ H Q I h
  refine UnaryOp_ (thn (ha pins s σ H _ I h) fun v s1 ⟨x, H1, I1, r1, q1⟩ => ?_)
  obtain ⟨c, rfl, q1⟩ := q1
  cases r1
  exact not_of (wpAny_truthy_bool ⟨.bl (!c), H1, I1, rfl, q1⟩)
end
end L2
namespace L2
open PySem PySem.Spec PyProof.Rows
def SqL (K : PySem.W.Frag) (H : Hp) (a : Addr) (xs : List V) : Prop :=
  Rd H a (.lst xs) ∨
    ∃ (o : Obj) (its : Array Value) (n : Nat), K.lookup a = some o ∧ o.cls = .type "list" ∧ o.dict = none ∧ o.data = .seq its n ∧ its.size ≤ sizeLine ∧ Vals xs its.toList
def SqT (K : PySem.W.Frag) (H : Hp) (a : Addr) (xs : List V) : Prop :=
  Rd H a (.tup xs) ∨
    ∃ (o : Obj) (its : Array Value) (n : Nat), K.lookup a = some o ∧ o.cls = .type "tuple" ∧ o.data = .seq its n ∧ its.size ≤ sizeLine ∧ Vals xs its.toList
def absV : Value → Option V
  | .none => some .non
  | .bool b => some (.bl b)
  | .int i _ => some (.int i)
  | .str x _ => some (.str x)
  | .bytes b _ => some (.byt b)
  | .float b _ => some (.flt b)
  | .ref a => some (.ref a)
  | .type n => some (.ty n)
  | _ => none
theorem RelV.abs {x : V} {u : Value} (r : RelV x u) : absV u = some x := by
  cases x with
  | non => cases r; rfl
  | bl _ => cases r; rfl
  | int _ => obtain ⟨t, rfl⟩ := r; rfl
  | str _ => obtain ⟨t, rfl⟩ := r; rfl
  | byt _ => obtain ⟨t, rfl⟩ := r; rfl
  | flt _ => obtain ⟨t, rfl⟩ := r; rfl
  | ref _ => cases r; rfl
  | ty _ => cases r; rfl
theorem RelV.inj {x y : V} {u : Value} (r : RelV x u) (q : RelV y u) : x = y := Option.some.inj (r.abs.symm.trans q.abs)
theorem Vals.inj : ∀ {xs ys : List V} {us : List Value}, Vals xs us → Vals ys us → xs = ys
  | _, _, _, .nil, .nil => rfl
  | _, _, _, .cons r t, .cons r' t' => by rw [r.inj r', Vals.inj t t']
section
variable {X : Cx} {pins : List (Addr × Obj)} {σ : St} {H : Hp} {s : Shared} {a : Addr} {xs ys : List V}
theorem SqL.of {K : PySem.W.Frag} (h : H a = some (.lst xs)) : SqL K H a xs := .inl (.inl h)
theorem SqT.of {K : PySem.W.Frag} (h : H a = some (.tup xs)) : SqT K H a xs := .inl (.inl h)
theorem Inv.list (I : Inv X pins σ H s) (h : SqL X.K H a xs) : ∃ its : List Value, Vals xs its ∧ PlainL s.heap a its.toArray ∧ xs.length ≤ sizeLine := by
  rcases h with h | ⟨o, its, n, hk, hc, hd, hs, hz, r⟩
  · obtain ⟨z, its, n, r, e⟩ := h.ok I.hok
    exact ⟨its, r, ⟨_, n, e, rfl, rfl, rfl⟩, z⟩
  · refine ⟨its.toList, r, ⟨o, n, I.kIn a o hk, hc, hd, by simpa using hs⟩, ?_⟩
    have e := r.length
    simp only [Array.length_toList] at e
    omega
theorem Inv.tuple (I : Inv X pins σ H s) (h : SqT X.K H a xs) : ∃ its : List Value, Vals xs its ∧ IsTup s.heap a its.toArray ∧ xs.length ≤ sizeLine := by
  rcases h with h | ⟨o, its, n, hk, hc, hs, hz, r⟩
  · obtain ⟨z, its, r, p⟩ := h.ok I.hok
    exact ⟨its, r, p, z⟩
  · refine ⟨its.toList, r, ⟨o, I.kIn a o hk, hc, n, by simpa using hs⟩, ?_⟩
    have e := r.length
    simp only [Array.length_toList] at e
    omega
theorem Inv.list_inj (I : Inv X pins σ H s) (h : SqL X.K H a xs) (h' : SqL X.K H a ys) : xs = ys := by
  obtain ⟨its, r, ⟨o, n, e, _, _, d⟩, _⟩ := I.list h
  obtain ⟨its', r', ⟨o', n', e', _, _, d'⟩, _⟩ := I.list h'
  rw [e] at e'; cases e'
  rw [d] at d'
  injection d' with d1 _
  have : its = its' := by simpa using congrArg Array.toList d1
  subst this
  exact r.inj r'
end
abbrev Cx.wish (X : Cx) (E : Value → Shared → Prop) : Cx := { X with xe := E }
abbrev Cx.nox (X : Cx) : Cx := X.wish fun _ _ => False
theorem Cx.Ok.wish {X : Cx} (ok : X.Ok) (E : Value → Shared → Prop) : (X.wish E).Ok :=
  ⟨ok.mod, ok.kind, ok.glob, ok.blt, ok.above, ok.inj, ok.has, ok.cab, ok.hd, ok.frames, ok.stk, ok.exf, ok.bs, ok.bsz, ok.noex, ok.exfs, ok.funs, ok.frf⟩
theorem Cx.Ok.unwish {X : Cx} {E : Value → Shared → Prop} (ok : (X.wish E).Ok) : X.Ok :=
  ⟨ok.mod, ok.kind, ok.glob, ok.blt, ok.above, ok.inj, ok.has, ok.cab, ok.hd, ok.frames, ok.stk, ok.exf, ok.bs, ok.bsz, ok.noex, ok.exfs, ok.funs, ok.frf⟩
section
variable {X : Cx} {pins : List (Addr × Obj)} {σ : St} {H : Hp} {s : Shared} {E : Value → Shared → Prop}
theorem Inv.wish (I : Inv X pins σ H s) (E : Value → Shared → Prop) : Inv (X.wish E) pins σ H s := ⟨I.ok.wish E, I.os, I.bare, I.base, I.loc, I.cell, I.free, I.freeC, I.pin, I.hok, I.len⟩
theorem Inv.unwish (I : Inv (X.wish E) pins σ H s) : Inv X pins σ H s := ⟨I.ok.unwish, I.os, I.bare, I.base, I.loc, I.cell, I.free, I.freeC, I.pin, I.hok, I.len⟩
theorem SP.unwish {D : Ends} {f : Flow} {s' : Shared} (h : SP (X.wish E) pins D f s') : SP X pins D f s' := by
  cases f with
  | next => obtain ⟨σ', H', I, q⟩ := h; exact ⟨σ', H', I.unwish, q⟩
  | brk => obtain ⟨σ', H', I, q⟩ := h; exact ⟨σ', H', I.unwish, q⟩
  | cont => obtain ⟨σ', H', I, q⟩ := h; exact ⟨σ', H', I.unwish, q⟩
  | ret u => obtain ⟨v, σ', H', I, r, q⟩ := h; exact ⟨v, σ', H', I.unwish, r, q⟩
theorem PE.nox {e : Expr} {t : TE} (h : PE X.nox e t) : PE X e t := fun pins s σ H Q I hw =>
  wpAny_mono (h pins s σ H Q (I.wish _) hw) (fun _ _ ⟨v, H', I', r, q⟩ => ⟨v, H', I'.unwish, r, q⟩) fun _ _ z => False.elim z
theorem PT.nox {e : Expr} {t : TT} (h : PT X.nox e t) : PT X e t := fun pins s σ H Q I hw =>
  wpAny_mono (h pins s σ H Q (I.wish _) hw) (fun _ _ ⟨H', I', q⟩ => ⟨H', I'.unwish, q⟩) fun _ _ z => False.elim z
theorem PSs.nox {st : List Stmt} {t : TS} (h : PSs X.nox st t) : PSs X st t := fun pins s σ H D I hw =>
  wpAny_mono (h pins s σ H D (I.wish _) hw) (fun _ _ q => q.unwish) fun _ _ z => False.elim z
end
section
variable {X : Cx} {st : Stmt} {rest : List Stmt} {t u : TS} {e : Expr} {te : TE} {pos : Pos}
def tNext : TS := fun D σ H => D.nx σ H
def tSeq (t u : TS) : TS := fun D σ H => t { D with nx := u D } σ H
theorem pss_nil : PSs X [] tNext := fun _ _ σ H _ I h => wpAny_execs_nil ⟨σ, H, I, h⟩
theorem pss_cons (h1 : PS X st t) (h2 : PSs X rest u) : PSs X (st :: rest) (tSeq t u) := by
  intro pins s σ H D I h
  refine wpAny_execs_cons (thn (h1 pins s σ H { D with nx := u D } I h) fun f s1 q => ?_)
  cases f with
  | next =>
    obtain ⟨σ', H', I', q⟩ := q
    exact h2 pins s1 σ' H' D I' q
  | ret v => exact q
  | brk => exact q
  | cont => exact q
theorem pss_one (h1 : PS X st t) : PSs X [st] t := by
  intro pins s σ H D I h
  refine wpAny_execs_cons (thn (h1 pins s σ H D I h) fun f s1 q => ?_)
  cases f with
  | next => exact wpAny_execs_nil q
  | ret v => exact q
  | brk => exact q
  | cont => exact q
theorem Inv.quiet {pins : List (Addr × Obj)} {σ : St} {H : Hp} {s : Shared} (I : Inv X pins σ H s) : interactive X.env = false := by simp [interactive, I.ok.kind]
def tDrop (te : TE) : TS := fun D σ H => te σ H fun _ H1 => D.nx σ H1
theorem ps_expr (he : PE X e te) (hs : swapsWith e none pos.line X.env = pure false := by rfl) : PS X (.Expr e pos) (tDrop te) := by
  intro pins s σ H D I h
  exact wpAny_Expr_any (thn (he pins s σ H _ I h) fun v s1 ⟨x, H1, I1, r1, q1⟩ => ⟨σ, H1, I1, q1⟩) I.quiet hs
def tRet (te : TE) : TS := fun D σ H => te σ H D.rt
theorem ps_ret (he : PE X e te) : PS X (.Return (some e) pos) (tRet te) := by
  intro pins s σ H D I h
  exact wpAny_Return_some (thn (he pins s σ H _ I h) fun v s1 ⟨x, H1, I1, r1, q1⟩ => ⟨x, σ, H1, I1, r1, q1⟩)
def tIfS (c : TT) (t u : TS) : TS := fun D σ H => c σ H fun b H1 => if b = true then t D σ H1 else u D σ H1
theorem ps_if {c : Expr} {a b : List Stmt} {tc : TT} (hc : PT X c tc) (ha : PSs X a t) (hb : PSs X b u) : PS X (.If c a b pos) (tIfS tc t u) := by
  intro pins s σ H D I h
  refine wpAny_If (thn (hc pins s σ H _ I h) fun d s1 ⟨H1, I1, q1⟩ => ?_)
  cases d with
  | true => exact ha pins s1 σ H1 D I1 q1
  | false => exact hb pins s1 σ H1 D I1 q1
end
abbrev TG := V → St → Hp → (St → Hp → Prop) → Prop
abbrev TGs := List V → St → Hp → (St → Hp → Prop) → Prop
def PG (X : Cx) (target : Expr) (t : TG) : Prop :=
  ∀ (pins : List (Addr × Obj)) (s : Shared) (σ : St) (H : Hp) (v : V) (u : Value) (Q : St → Hp → Prop), Inv X pins σ H s → RelV v u → t v σ H Q →
    wpAny (model X.prog X.w) X.A (assign target X.env u) (fun _ s' => ∃ σ' H', Inv X pins σ' H' s' ∧ Q σ' H') X.xe s
def PGs (X : Cx) (ts : List Expr) (t : TGs) : Prop :=
  ∀ (pins : List (Addr × Obj)) (s : Shared) (σ : St) (H : Hp) (vs : List V) (us : List Value) (Q : St → Hp → Prop), Inv X pins σ H s → Vals vs us → t vs σ H Q →
    wpAny (model X.prog X.w) X.A (assignInOrder ((assignEach ts X.env).map (·.2)) us) (fun _ s' => ∃ σ' H', Inv X pins σ' H' s' ∧ Q σ' H') X.xe s
abbrev TSet := V → V → V → Hp → (Hp → Prop) → Prop
def PSet (X : Cx) (t : TSet) : Prop :=
  ∀ (pins : List (Addr × Obj)) (s : Shared) (σ : St) (H : Hp) (o i v : V) (ov iv u : Value) (Q : Hp → Prop), Inv X pins σ H s → RelV o ov → RelV i iv → RelV v u → t o i v H Q →
    wpAny (model X.prog X.w) X.A (setItem ov iv u) (fun _ s' => ∃ H', Inv X pins σ H' s' ∧ Q H') X.xe s
section
variable {X : Cx} {pos : Pos}
def gName (i : Nat) : TG := fun v σ H Q => Q (σ.set i (some v)) H
theorem pg_name {i : Nat} {x : Str} (hN : X.N.Nodup) (hi : X.N[i]? = some x) (hx : Loc X.env.scope x) (hf : X.fn x = true ∨ X.env.scope.names.lookup x = some .local := by first | exact .inl rfl | exact .inr rfl | assumption) : PG X (.Name x pos) (gName i) := by
  intro pins s σ H v u Q I r h
  exact wpAny_assign_Name (store_ok I hN hi hx r (fun s' I' => ⟨_, H, I', h⟩) hf)
def gNil : TGs := fun vs σ H Q => vs = [] ∧ Q σ H
def gCons (t : TG) (u : TGs) : TGs := fun vs σ H Q => ∃ v r, vs = v :: r ∧ t v σ H fun σ' H' => u r σ' H' Q
theorem pgs_nil : PGs X [] gNil := by
  intro pins s σ H vs us Q I r h
  obtain ⟨e, h⟩ := h
  subst e
  cases r
  exact assignInOrder_nil ⟨σ, H, I, h⟩
theorem pgs_cons {e : Expr} {es : List Expr} {t : TG} {u : TGs} (h1 : PG X e t) (h2 : PGs X es u)
    (hs : (assignEach (e :: es) X.env).map (·.2) = assign e X.env :: (assignEach es X.env).map (·.2) := by rfl) : PGs X (e :: es) (gCons t u) := by
  intro pins s σ H vs us Q I r h
  obtain ⟨v, vr, e1, h⟩ := h
  subst e1
  cases r with
  | cons r rr =>
    rw [hs]
    refine assignInOrder_cons (thn (h1 pins s σ H _ _ _ I r h) fun _ s1 ⟨σ1, H1, I1, q1⟩ => ?_)
    exact h2 pins s1 σ1 H1 _ _ Q I1 rr q1
def gTup (K : PySem.W.Frag) (n : Nat) (t : TGs) : TG := fun v σ H Q => ∃ a xs, v = .ref a ∧ SqT K H a xs ∧ xs.length = n ∧ t xs σ H Q
theorem pg_tup {es : List Expr} {k : Nat} {t : TGs} {n : Nat} (hc : X.calm = true) (h : PGs X es t)
    (hn : (assignEach es X.env).length = n := by rfl) (hst : (assignEach es X.env).findIdx? (·.1) = none := by rfl) : PG X (.Tuple es k pos) (gTup X.K n t) := by
  intro pins s σ H v u Q I r hw
  obtain ⟨a, xs, e1, hq, hl, hw⟩ := hw
  subst e1
  cases r
  obtain ⟨its, rv, ht, hz⟩ := I.tuple hq
  refine assign_Tuple_tuple (I.ok.hd hc) ht (by simp [hn, ← hl, rv.length]) hst fun h' hx => ?_
  have I1 : Inv X pins σ H { s with heap := h' } := I.kept (t' := s.toks) fun b o e => hx b o (Nat.ne_of_lt (Heap.lt_size e)) e
  exact h pins _ σ H xs _ Q I1 (by simpa using rv) hw
def gSub (to ti : TE) (t : TSet) : TG := fun v σ H Q => to σ H fun o H1 => ti σ H1 fun i H2 => t o i v H2 fun H3 => Q σ H3
theorem pg_sub {o i : Expr} {to ti : TE} {t : TSet} (ho : PE X o to) (hi : PE X i ti) (hs : PSet X t)
    (ha : ∀ v, assign (.Subscript o i pos) X.env v = (do
      let ov ← holding [v] (eval o X.env)
      let iv ← holding [v, ov] (eval i X.env)
      standAt pos
      holding [v, ov, iv] (setItem ov iv v)
      release [v, ov, iv] []) := by intro _; rfl) : PG X (.Subscript o i pos) (gSub to ti t) := by
  intro pins s σ H v u Q I r h
  rw [ha]
  refine wpAny_bind (wpAny_holding (thn (ho pins s σ H _ I h) fun ov s1 ⟨x, H1, I1, r1, q1⟩ => ?_))
  refine wpAny_bind (wpAny_holding (thn (hi pins s1 σ H1 _ I1 q1) fun iv s2 ⟨y, H2, I2, r2, q2⟩ => ?_))
  refine wpAny_bind (wpAny_standAt (wpAny_bind (wpAny_holding (thn (hs pins s2 σ H2 x y v ov iv u _ I2 r1 r2 r q2) fun _ s3 ⟨H3, I3, q3⟩ => ?_))))
  exact wpAny_release ⟨σ, H3, I3, q3⟩
def tAsg (te : TE) (g : TG) : TS := fun D σ H => te σ H fun x H1 => g x σ H1 D.nx
theorem ps_asg {tg e : Expr} {te : TE} {g : TG} (he : PE X e te) (hg : PG X tg g) (hs : swapsWithSole [tg] e pos.line X.env = pure false := by rfl) (hw : swappedStores [tg] e X.env = pure none := by rfl)
    (h1 : (assignEach [tg] X.env).map (·.2) = [assign tg X.env] := by rfl) : PS X (.Assign [tg] e pos) (tAsg te g) := by
  intro pins s σ H D I h
  refine wpAny_Assign_stores (thn (he pins s σ H _ I h) fun v s1 ⟨x, H1, I1, r1, q1⟩ => ?_) hs hw
  rw [h1]
  exact thn (hg pins s1 σ H1 x v _ I1 r1 q1) fun _ s2 q => q
theorem ps_set {i : Nat} {x : Str} {e : Expr} {te : TE} {pos' : Pos} (hN : X.N.Nodup) (hi : X.N[i]? = some x) (hx : Loc X.env.scope x) (he : PE X e te) (hs : swapsWith e (some (.Name x pos')) pos.line X.env = pure false := by rfl) (hf : X.fn x = true ∨ X.env.scope.names.lookup x = some .local := by first | exact .inl rfl | exact .inr rfl | assumption) :
    PS X (.Assign [.Name x pos'] e pos) (tAsg te (gName i)) := by
  intro pins s σ H D I h
  refine wpAny_Assign_Name (thn (he pins s σ H _ I h) fun v s1 ⟨y, H1, I1, r1, q1⟩ => ?_) hs
  exact store_ok I1 hN hi hx r1 (fun s2 I2 => ⟨_, H1, I2, q1⟩) hf
end
section
variable {X : Cx} {pos : Pos}
def tWhile (c : TT) (tb : TS) : TS := fun D σ H => ∃ W : Nat → St → Hp → Prop, (∃ m, W m σ H) ∧ ∀ m σ H, W m σ H →
  c σ H fun b H1 => if b = true then ∃ N : St → Hp → Prop, (∀ σ' H', N σ' H' → ∃ m', m' < m ∧ W m' σ' H') ∧ tb { D with nx := N, ct := N, bk := D.nx } σ H1 else D.nx σ H1
theorem ps_while {c : Expr} {body : List Stmt} {tc : TT} {tb : TS} (hp : PassesOwn (model X.prog X.w) X.A X.env X.xe) (hc : PT X c tc) (hb : PSs X body tb) : PS X (.While c body [] pos) (tWhile tc tb) := by
  intro pins s σ H D I h
  obtain ⟨W, ⟨m0, w0⟩, turn⟩ := h
  refine wpAny_While (codeAny_whileLoop (fun n s' => ∃ σ' H', Inv X pins σ' H' s' ∧ W n σ' H') ?_ m0 ⟨σ, H, I, w0⟩)
  rintro n s1 ⟨σ1, H1, I1, w1⟩
  refine wpAny_passesOwn hp (thn (hc pins s1 σ1 H1 _ I1 (turn n σ1 H1 w1)) fun b s2 ⟨H2, I2, q2⟩ => ?_)
  cases b with
  | true =>
    obtain ⟨N, hN, q2⟩ := q2
    rw [if_pos rfl]
    refine wpAny_passesOwn hp (thn (hb pins s2 σ1 H2 _ I2 q2) fun f s3 q3 => ?_)
    cases f with
    | next =>
      obtain ⟨σ3, H3, I3, n3⟩ := q3
      obtain ⟨m', hm, w3⟩ := hN σ3 H3 n3
      exact ⟨m', hm, σ3, H3, I3, w3⟩
    | cont =>
      obtain ⟨σ3, H3, I3, n3⟩ := q3
      obtain ⟨m', hm, w3⟩ := hN σ3 H3 n3
      exact ⟨m', hm, σ3, H3, I3, w3⟩
    | brk => exact q3
    | ret v => exact q3
  | false =>
    rw [if_neg Bool.false_ne_true]
    exact wpAny_execs_nil ⟨σ1, H2, I2, q2⟩
end
structure It where
  go : Nat → Hp → Prop
  yld : Nat → Hp → V → Hp → Prop
  stop : Nat → Hp → Prop
def FpOk (X : Cx) (pins : List (Addr × Obj)) (H : Hp) (b : Addr) : Prop :=
  H b = none ∧ b ≠ X.env.locals ∧ b ∉ X.fs ∧ (b ∈ X.ex ∨ X.s_0.heap.objs.size ≤ b) ∧ (∀ x c, X.env.cells.lookup x = some c → c ≠ b) ∧ ∀ p ∈ X.pn ++ pins, p.1 ≠ b
theorem Inv.fpOk {X : Cx} {pins : List (Addr × Obj)} {σ : St} {H H' : Hp} {s : Shared} {b : Addr} (I : Inv X pins σ H s) (hb : s.heap.objs.size ≤ b) (hn : H' b = none) : FpOk X pins H' b := by
  refine ⟨hn, Nat.ne_of_gt (Nat.lt_of_lt_of_le I.lt hb), I.nofs hb, .inr (Nat.le_trans I.sz hb), fun x c e z => ?_, fun p hp z => ?_⟩
  · obtain ⟨v, q⟩ := I.cell x c e
    exact absurd (Nat.lt_of_lt_of_le q.lt (by rw [z]; exact hb)) (Nat.lt_irrefl _)
  · exact absurd (Nat.lt_of_lt_of_le (Heap.lt_size (I.pin p hp).1) (by rw [z]; exact hb)) (Nat.lt_irrefl _)
structure Turn (P : Program) (w : World) (K : PySem.W.Frag) (tg : Expr) (J : It) (fp : List Addr) (it : Addr) (tn : Nat → Heap → Prop) : Prop where
  mem : it ∈ fp
  obj : ∀ i h, tn i h → ∀ b ∈ fp, ∃ o, h.get? b = some o ∧ ∀ v, o.data ≠ .cell v
  keep : ∀ i h h', tn i h → (∀ b ∈ fp, ∀ o, h.get? b = some o → h'.get? b = some o) → tn i h'
  item : ∀ (X : Cx), X.prog = P → X.w = w → X.K = K → X.calm = true → ∀ (i : Nat) (pins : List (Addr × Obj)) (s : Shared) (σ : St) (H : Hp) (E : Value → Shared → Prop), Inv X pins σ H s → (∀ b ∈ fp, FpOk X pins H b) → tn i s.heap → J.go i H →
    wpAny (model P w) X.A (pyNext (.ref it)) (fun r s1 => ∃ u, r = some u ∧
      wpAny (model P w) X.A (letOwnedTupleGo tg (.ref it) u) (fun _ s2 => ∃ x H', Inv X pins σ H' s2 ∧ RelV x u ∧ J.yld i H x H' ∧ tn (i + 1) s2.heap ∧ ∀ b ∈ fp, H' b = none) E s1) E s
  done : ∀ (X : Cx), X.prog = P → X.w = w → X.K = K → X.calm = true → ∀ (i : Nat) (pins : List (Addr × Obj)) (s : Shared) (σ : St) (H : Hp) (E : Value → Shared → Prop), Inv X pins σ H s → (∀ b ∈ fp, FpOk X pins H b) → tn i s.heap → J.stop i H →
    wpAny (model P w) X.A (pyNext (.ref it)) (fun r s1 => r = none ∧ Inv X pins σ H s1) E s
  self : ∀ (A : Around) (i : Nat) (s : Shared) (Q : Value → Shared → Prop) (E : Value → Shared → Prop), tn i s.heap → Q (.ref it) s → wpAny (model P w) A (pyIter (.ref it)) Q E s
abbrev TI := St → Hp → (It → Hp → Prop) → Prop
def PIE (X : Cx) (pins : List (Addr × Obj)) (σ : St) (tg : Expr) (R : It → Hp → Prop) (itv : Value) (s2 : Shared) : Prop :=
  ∃ (it : Addr) (fp : List Addr) (tn : Nat → Heap → Prop) (J : It) (H' : Hp), itv = .ref it ∧ Inv X pins σ H' s2 ∧ Turn X.prog X.w X.K tg J fp it tn ∧ tn 0 s2.heap ∧ (∀ b ∈ fp, FpOk X pins H' b) ∧ R J H'
def PI (X : Cx) (tg iter : Expr) (wi : TI) : Prop :=
  ∀ (pins : List (Addr × Obj)) (s : Shared) (σ : St) (H : Hp) (R : It → Hp → Prop), Inv X pins σ H s → wi σ H R →
    wpAny (model X.prog X.w) X.A (eval iter X.env) (fun v s1 => wpAny (model X.prog X.w) X.A (pyIter v) (PIE X pins σ tg R) X.xe s1) X.xe s
theorem go_of {M : Model} {A : Around} {E : Value → Shared → Prop} {s : Shared} {tg : Expr} {it : Addr} {u : Value} {o : Obj} {n : String} {vs : Array Value} {Q : Unit → Shared → Prop} (ho : s.heap.get? it = some o) (hc : o.cls = .type n) (hd : o.data = .fields vs)
    (hn : ["enumerate", "zip", "dict_itemiterator", "dict_reverseitemiterator", "odict_iterator", "itertools.zip_longest", "itertools.pairwise"].contains n = false) (hQ : Q () s) : wpAny M A (letOwnedTupleGo tg (.ref it) u) Q E s := by
  unfold letOwnedTupleGo
  cases tg <;> first
    | exact wpAny_pure hQ
    | (cases u <;> first
        | exact wpAny_pure hQ
        | (refine wpAny_bind (wpAny_load ho ?_)
           rw [hc, hd]
           show wpAny M A (if (["enumerate", "zip", "dict_itemiterator", "dict_reverseitemiterator", "odict_iterator", "itertools.zip_longest", "itertools.pairwise"].contains n && vs[0]? == some (rawInt _)) = true then _ else _) Q E s
           rw [if_neg (by intro h; rw [hn, Bool.false_and] at h; cases h)]
           exact wpAny_pure hQ))
def Itl (K : PySem.W.Frag) (a : Addr) : It :=
  ⟨fun i H => ∃ xs x, SqL K H a xs ∧ xs[i]? = some x, fun i H x H' => H' = H ∧ ∀ xs, SqL K H a xs → xs[i]? = some x, fun i H => ∃ xs, SqL K H a xs ∧ xs.length ≤ i⟩
def Itr (lo : Int) (n : Nat) : It := ⟨fun i _ => i < n, fun i H x H' => H' = H ∧ x = .int (lo + i), fun i _ => n ≤ i⟩
theorem turn_list {P : Program} {w : World} {K : PySem.W.Frag} {tg : Expr} (a it : Addr) : Turn P w K tg (Itl K a) [it] it (fun i h => h.IsListIter it a i) where
  mem := by simp
  obj := fun i h st b hb => by
    have e : b = it := by simpa using hb
    subst e
    obtain ⟨o, e, c, d⟩ := st
    exact ⟨o, e, fun v z => by rw [d] at z; cases z⟩
  keep := fun i h h' st k => st.at fun o e => k it (by simp) o e
  item := by
    intro X hP hw hK hc i pins s σ H E I hf st hg
    subst hP hw hK
    obtain ⟨xs, x, hq, hx⟩ := hg
    obtain ⟨its, rv, p, hz⟩ := I.list hq
    obtain ⟨u, hu, ru⟩ := rv.get hx
    obtain ⟨f0, f1, f2, f3, f4, f5⟩ := hf it (by simp)
    refine wpAny_pyNext_list_item st p.isList (x := u) (by simpa using hu) fun h' st' sb => ?_
    have I1 : Inv X pins σ H { s with heap := h' } := I.turned (t' := s.toks) (fun b o hb e => (sb.2 b hb).trans e) f0 f1 f3 f4 f5
    obtain ⟨o, e, c, d⟩ := id st'
    exact ⟨u, rfl, go_of (s := { s with heap := h' }) e c d (by decide) ⟨x, H, I1, ru, ⟨rfl, fun ys hy => by rw [I.list_inj hy hq]; exact hx⟩, st', fun b hb => (hf b hb).1⟩⟩
  done := by
    intro X hP hw hK hc i pins s σ H E I hf st hg
    subst hP hw hK
    obtain ⟨xs, hq, hx⟩ := hg
    obtain ⟨its, rv, p, hz⟩ := I.list hq
    obtain ⟨f0, f1, f2, f3, f4, f5⟩ := hf it (by simp)
    have hl := rv.length
    exact wpAny_pyNext_list_end (I.ok.hd hc) st p.isList (by simp; omega) fun h' eb => ⟨rfl, I.turned (t' := s.toks) (fun b o hb e => eb b o hb e) f0 f1 f3 f4 f5⟩
  self := fun _ _ _ _ _ st h => wpAny_pyIter_listiter st h
theorem turn_range {P : Program} {w : World} {K : PySem.W.Frag} {tg : Expr} (it : Addr) (lo : Int) (n : Nat) : Turn P w K tg (Itr lo n) [it] it (fun i h => IsRangeIter h it (lo + (i : Nat) * 1) ((n : Int) - (i : Nat)) 1) where
  mem := by simp
  obj := fun i h st b hb => by
    have e : b = it := by simpa using hb
    subst e
    exact ⟨_, st, fun v z => by
      have z' : Data.fields _ = Data.cell v := z
      cases z'⟩
  keep := fun i h h' st k => k it (by simp) _ st
  item := by
    intro X hP hw hK hc i pins s σ H E I hf st hg
    subst hP hw hK
    obtain ⟨f0, f1, f2, f3, f4, f5⟩ := hf it (by simp)
    have W := Walks.range (prog := X.prog) (w := X.w) (I.ok.hd hc) it lo 1 n
    refine W.item i s _ _ hg st fun v h' tk hv st' kk => ?_
    obtain ⟨t, rfl⟩ := hv
    have I1 : Inv X pins σ H { s with heap := h', toks := tk } := I.turned (fun b o hb e => kk b o (by simpa using hb) e) f0 f1 f3 f4 f5
    refine ⟨_, rfl, go_of (s := { s with heap := h', toks := tk }) (n := "range_iterator") st' rfl rfl (by decide) ⟨.int (lo + i), H, I1, ⟨t, ?_⟩, ⟨rfl, rfl⟩, st', fun b hb => (hf b hb).1⟩⟩
    rw [Int.mul_one]
  done := by
    intro X hP hw hK hc i pins s σ H E I hf st hg
    subst hP hw hK
    obtain ⟨f0, f1, f2, f3, f4, f5⟩ := hf it (by simp)
    exact wpAny_pyNext_range_end (I.ok.hd hc) st (by have : n ≤ i := hg; omega) fun h' eb => ⟨rfl, I.turned (t' := s.toks) (fun b o hb e => eb b o hb e) f0 f1 f3 f4 f5⟩
  self := fun _ _ _ _ _ st h => wpAny_pyIter_rangeiter st h
end L2
namespace L2
open PySem PySem.Spec PyProof.Rows
section
variable {X : Cx} {tg : Expr}
def iList (K : PySem.W.Frag) (tl : TE) : TI := fun σ H R => tl σ H fun x H1 => ∃ a, x = .ref a ∧ (∃ xs, SqL K H1 a xs) ∧ R (Itl K a) H1
theorem pi_list {l : Expr} {tl : TE} (hl : PE X l tl) : PI X tg l (iList X.K tl) := by
  intro pins s σ H R I h
  refine thn (hl pins s σ H _ I h) fun v s1 ⟨x, H1, I1, r1, q1⟩ => ?_
  obtain ⟨a, e, ⟨xs, hq⟩, q⟩ := q1
  subst e
  cases r1
  obtain ⟨its, rv, p, hz⟩ := I1.list hq
  refine wpAny_pyIter_list p.isList ?_
  refine ⟨s1.heap.objs.size, [s1.heap.objs.size], _, _, H1, rfl, I1.kept (t' := s1.toks) fun b o e => Heap.get?_push_of_some _ e, turn_list a _, ⟨_, Heap.get?_push_size _ rfl, rfl, rfl⟩, fun b hb => ?_, q⟩
  have e : b = s1.heap.objs.size := by simpa using hb
  subst e
  exact I1.fpOk (Nat.le_refl _) (I1.hok.fresh (Nat.le_refl _))
theorem range_it {pins : List (Addr × Obj)} {σ : St} {H : Hp} {s : Shared} {R : It → Hp → Prop} {E : Value → Shared → Prop} {lo hi : Int} {t u v : Tok} {tk : Nat} (I : Inv X pins σ H s) (h1 : -(2 ^ 62) ≤ lo) (h2 : lo < 2 ^ 62) (h3 : -(2 ^ 62) ≤ hi) (h4 : hi < 2 ^ 62)
    (q : R (Itr lo (hi - lo).toNat) H) : wpAny (model X.prog X.w) X.A (pyIter (.ref s.heap.objs.size)) (PIE X pins σ tg R) E { s with heap := s.heap.push { cls := .type "range", data := .fields #[.int lo t, .int hi u, .int 1 v] }, toks := tk } := by
  refine wpAny_pyIter_range (IsRange.new ..) (small_one h1 h2 h3 h4) ?_
  have I1 : Inv X pins σ H { s with heap := s.heap.push { cls := .type "range", data := .fields #[.int lo t, .int hi u, .int 1 v] }, toks := tk } := I.kept fun b o e => Heap.get?_push_of_some _ e
  refine ⟨(s.heap.push { cls := .type "range", data := .fields #[.int lo t, .int hi u, .int 1 v] }).objs.size, [(s.heap.push { cls := .type "range", data := .fields #[.int lo t, .int hi u, .int 1 v] }).objs.size], _, _, H, rfl,
    I1.kept (t' := tk) fun b o e => Heap.get?_push_of_some _ e, turn_range _ lo (hi - lo).toNat, ?_, fun b hb => ?_, q⟩
  · have e1 : lo + ((0 : Nat) : Int) * 1 = lo := by simp
    have e2 : (((hi - lo).toNat : Nat) : Int) - ((0 : Nat) : Int) = Builtin.Range.rangeSize lo hi 1 := by rw [rangeSize_one]; split <;> omega
    show IsRangeIter _ _ (lo + ((0 : Nat) : Int) * 1) ((((hi - lo).toNat : Nat) : Int) - ((0 : Nat) : Int)) 1
    rw [e1, e2]
    exact Heap.get?_push_size _ rfl
  · have e : b = (s.heap.push { cls := .type "range", data := .fields #[.int lo t, .int hi u, .int 1 v] }).objs.size := by simpa using hb
    subst e
    exact I1.fpOk (Nat.le_refl _) (I1.hok.fresh (Nat.le_refl _))
def iRng1 (ta : TA) : TI := fun σ H R => ta σ H fun vs H1 => ∃ j : Int, vs = [.int j] ∧ -(2 ^ 62) ≤ j ∧ j < 2 ^ 62 ∧ R (Itr 0 j.toNat) H1
def iRng2 (ta : TA) : TI := fun σ H R => ta σ H fun vs H1 => ∃ i j : Int, vs = [.int i, .int j] ∧ (-(2 ^ 62) ≤ i ∧ i < 2 ^ 62 ∧ -(2 ^ 62) ≤ j ∧ j < 2 ^ 62) ∧ R (Itr i (j - i).toNat) H1
theorem pi_range1 {a : Expr} {ta : TA} {p pos : Pos} (hg : Gl X "range") (hm : X.mg "range" = none) (ha : PA X [a] ta) (hs : starEach [a] X.env = [(false, eval a X.env)] := by rfl) : PI X tg (.Call (.Name "range" p) [a] [] pos) (iRng1 ta) := by
  intro pins s σ H R I h
  refine Call_ (ld_blt I hg hm boot_range (PyProof.Rows.callWith_type1 (thn (ha pos pins s σ H _ I h) fun us s1 ⟨vs, H1, I1, r1, q1⟩ => ?_) hs rfl))
  obtain ⟨j, e, q1, q2, q⟩ := q1
  subst e
  cases r1 with
  | cons r rr =>
    cases rr
    obtain ⟨t, rfl⟩ := r
    exact call_range_1 (range_it I1 (by omega) (by omega) q1 q2 (by simpa using q))
theorem pi_range2 {a b : Expr} {ta : TA} {p pos : Pos} (hg : Gl X "range") (hm : X.mg "range" = none) (ha : PA X [a, b] ta) (hs : starEach [a, b] X.env = [(false, eval a X.env), (false, eval b X.env)] := by rfl) (hs2 : starEach [b] X.env = [(false, eval b X.env)] := by rfl) :
    PI X tg (.Call (.Name "range" p) [a, b] [] pos) (iRng2 ta) := by
  intro pins s σ H R I h
  refine Call_ (ld_blt I hg hm boot_range (PyProof.Rows.callWith_type1 (thn (ha pos pins s σ H _ I h) fun us s1 ⟨vs, H1, I1, r1, q1⟩ => ?_) (by rw [hs, hs2]) (by rw [hs2]; rfl)))
  obtain ⟨i, j, e, ⟨q1, q2, q3, q4⟩, q⟩ := q1
  subst e
  cases r1 with
  | cons r rr =>
    cases rr with
    | cons r' rr =>
      cases rr
      obtain ⟨t, rfl⟩ := r
      obtain ⟨t', rfl⟩ := r'
      exact call_range_2 (range_it I1 q1 q2 q3 q4 q)
def tFor (wi : TI) (g : TG) (tb : TS) : TS := fun D σ H => wi σ H fun J H1 => ∃ W : Nat → Nat → St → Hp → Prop, (∃ m, W 0 m σ H1) ∧ ∀ i m σ H, W i m σ H →
  (J.stop i H ∧ D.nx σ H) ∨ (J.go i H ∧ ∃ N : St → Hp → Prop, (∀ σ' H', N σ' H' → ∃ m', m' < m ∧ W (i + 1) m' σ' H') ∧ ∀ x H', J.yld i H x H' → g x σ H' fun σ2 H2 => tb { D with nx := N, ct := N, bk := D.nx } σ2 H2)
def pinsAt (fp : List Addr) (h : Heap) : List (Addr × Obj) := fp.filterMap fun b => (h.get? b).map fun o => (b, o)
theorem mem_pinsAt {fp : List Addr} {h : Heap} {b : Addr} {o : Obj} (hb : b ∈ fp) (e : h.get? b = some o) : (b, o) ∈ pinsAt fp h := List.mem_filterMap.mpr ⟨b, hb, by rw [e]; rfl⟩
theorem of_pinsAt {fp : List Addr} {h : Heap} {p : Addr × Obj} (hp : p ∈ pinsAt fp h) : p.1 ∈ fp ∧ h.get? p.1 = some p.2 := by
  obtain ⟨b, hb, e⟩ := List.mem_filterMap.mp hp
  cases q : h.get? b with
  | none => rw [q] at e; cases e
  | some o =>
    rw [q] at e
    have e' : (b, o) = p := Option.some.inj e
    subst e'
    exact ⟨hb, q⟩
theorem Inv.pinned {pins : List (Addr × Obj)} {σ : St} {H : Hp} {s : Shared} {fp : List Addr} (I : Inv X pins σ H s) (hf : ∀ b ∈ fp, FpOk X pins H b) (ho : ∀ b ∈ fp, ∃ o, s.heap.get? b = some o ∧ ∀ v, o.data ≠ .cell v) : Inv X (pins ++ pinsAt fp s.heap) σ H s :=
  I.pins_of fun p hp => (List.mem_append.mp hp).elim (fun z => I.pin p (List.mem_append_right _ z)) fun z => by
    obtain ⟨hb, e⟩ := of_pinsAt z
    obtain ⟨f0, f1, f2, _⟩ := hf p.1 hb
    obtain ⟨o, e', d⟩ := ho p.1 hb
    rw [e] at e'; cases e'
    exact ⟨e, f0, f1, f2, d⟩
theorem Inv.unpinned {pins pl : List (Addr × Obj)} {σ : St} {H : Hp} {s : Shared} (I : Inv X (pins ++ pl) σ H s) : Inv X pins σ H s := I.pins_of fun p hp => I.pin p (List.mem_append_right _ (List.mem_append_left _ hp))
theorem ps_for {iter : Expr} {body : List Stmt} {wi : TI} {g : TG} {tb : TS} {pos : Pos} (hp : PassesOwn (model X.prog X.w) X.A X.env X.xe) (hc : X.calm = true) (hi : PI X tg iter wi) (hg : PG X tg g) (hb : PSs X body tb)
    (hs : ∀ x, foldedSetIterable iter X.env x = pure x := by intro _; rfl) : PS X (.For tg iter body [] pos) (tFor wi g tb) := by
  intro pins s σ H D I h
  refine wpAny_For (thn (hi pins s σ H _ I h) fun v s1 h1 => thn h1 fun itv s2 h2 => ?_) hs
  obtain ⟨it, fp, tn, J, H2, e, I2, T, st2, f2, W, ⟨m0, w0⟩, turn⟩ := h2
  subst e
  have stat : ∀ {H' : Hp}, (∀ b ∈ fp, H' b = none) → ∀ b ∈ fp, FpOk X pins H' b := fun hn b hb => ⟨hn b hb, (f2 b hb).2⟩
  refine codeAny_forLoop_any (fun n s' => ∃ i σ' H', Inv X pins σ' H' s' ∧ tn i s'.heap ∧ (∀ b ∈ fp, H' b = none) ∧ W i n σ' H') ?_ m0 ⟨0, σ, H2, I2, st2, fun b hb => (f2 b hb).1, w0⟩
  rintro n s3 ⟨i, σ3, H3, I3, st3, fr3, w3⟩
  rcases turn i n σ3 H3 w3 with ⟨stop, qn⟩ | ⟨go, N, hN, step⟩
  · refine wpAny_passesOwn hp (thn (T.done X rfl rfl rfl hc i pins s3 σ3 H3 X.xe I3 (stat fr3) st3 stop) fun r s4 ⟨hr, I4⟩ => ?_)
    subst hr
    exact wpAny_execs_nil ⟨σ3, H3, I4, qn⟩
  · refine wpAny_passesOwn hp (thn (T.item X rfl rfl rfl hc i pins s3 σ3 H3 X.xe I3 (stat fr3) st3 go) fun r s4 ⟨u, hr, h4⟩ => ?_)
    subst hr
    refine wpAny_passesOwn hp (thn h4 fun _ s5 ⟨x, H5, I5, r5, y5, st5, fr5⟩ => ?_)
    have I5' := I5.pinned (stat fr5) (T.obj _ _ st5)
    refine wpAny_passesOwn hp (thn (hg _ s5 σ3 H5 x u _ I5' r5 (step x H5 y5)) fun _ s6 ⟨σ6, H6, I6, q6⟩ => ?_)
    refine wpAny_passesOwn hp (thn (hb _ s6 σ6 H6 _ I6 q6) fun f s7 q7 => ?_)
    have again : ∀ {σ7 : St} {H7 : Hp}, Inv X (pins ++ pinsAt fp s5.heap) σ7 H7 s7 → N σ7 H7 → ∃ m, m < n ∧ ∃ i σ' H', Inv X pins σ' H' s7 ∧ tn i s7.heap ∧ (∀ b ∈ fp, H' b = none) ∧ W i m σ' H' := fun {σ7 H7} I7 n7 => by
      obtain ⟨m', hm, w7⟩ := hN σ7 H7 n7
      refine ⟨m', hm, i + 1, σ7, H7, I7.unpinned, T.keep _ _ _ st5 fun b hb o e => (I7.pin (b, o) (List.mem_append_right _ (List.mem_append_right _ (mem_pinsAt hb e)))).1, fun b hb => ?_, w7⟩
      obtain ⟨o, e, d⟩ := T.obj _ _ st5 b hb
      exact (I7.pin (b, o) (List.mem_append_right _ (List.mem_append_right _ (mem_pinsAt hb e)))).2.1
    cases f with
    | next => obtain ⟨σ7, H7, I7, n7⟩ := q7; exact again I7 n7
    | cont => obtain ⟨σ7, H7, I7, n7⟩ := q7; exact again I7 n7
    | brk => obtain ⟨σ7, H7, I7, q7⟩ := q7; exact ⟨σ7, H7, I7.unpinned, q7⟩
    | ret v => obtain ⟨x7, σ7, H7, I7, r7, q7⟩ := q7; exact ⟨x7, σ7, H7, I7.unpinned, r7, q7⟩
end
theorem for_list {K : PySem.W.Frag} {a : Addr} {xs : List V} {g : TG} {tb : TS} {D : Ends} {σ : St} {H : Hp} (Pv : Nat → St → Hp → Prop) (h0 : Pv 0 σ H) (hl : ∀ i σ H, i ≤ xs.length → Pv i σ H → SqL K H a xs)
    (hs : ∀ i x σ H, xs[i]? = some x → Pv i σ H → g x σ H fun σ2 H2 => tb { D with nx := Pv (i + 1), ct := Pv (i + 1), bk := D.nx } σ2 H2) (hd : ∀ σ H, Pv xs.length σ H → D.nx σ H) :
    ∃ W : Nat → Nat → St → Hp → Prop, (∃ m, W 0 m σ H) ∧ ∀ i m σ H, W i m σ H →
      ((Itl K a).stop i H ∧ D.nx σ H) ∨ ((Itl K a).go i H ∧ ∃ N : St → Hp → Prop, (∀ σ' H', N σ' H' → ∃ m', m' < m ∧ W (i + 1) m' σ' H') ∧ ∀ x H', (Itl K a).yld i H x H' → g x σ H' fun σ2 H2 => tb { D with nx := N, ct := N, bk := D.nx } σ2 H2) := by
  refine ⟨fun i m σ H => m = xs.length - i ∧ i ≤ xs.length ∧ Pv i σ H, ⟨xs.length, by simp, Nat.zero_le _, h0⟩, ?_⟩
  rintro i m σ H ⟨rfl, hi, p⟩
  have q := hl i σ H hi p
  by_cases hlt : i < xs.length
  · refine .inr ⟨⟨xs, xs[i], q, by simp [hlt]⟩, Pv (i + 1), fun σ' H' p' => ⟨xs.length - (i + 1), by omega, rfl, hlt, p'⟩, fun x H' y => ?_⟩
    obtain ⟨e, y⟩ := y
    subst e
    exact hs i x σ _ (y xs q) p
  · have e : i = xs.length := by omega
    subst e
    exact .inl ⟨⟨xs, q, Nat.le_refl _⟩, hd σ H p⟩
theorem for_range {lo : Int} {n : Nat} {g : TG} {tb : TS} {D : Ends} {σ : St} {H : Hp} (Pv : Nat → St → Hp → Prop) (h0 : Pv 0 σ H)
    (hs : ∀ i σ H, i < n → Pv i σ H → g (.int (lo + i)) σ H fun σ2 H2 => tb { D with nx := Pv (i + 1), ct := Pv (i + 1), bk := D.nx } σ2 H2) (hd : ∀ σ H, Pv n σ H → D.nx σ H) :
    ∃ W : Nat → Nat → St → Hp → Prop, (∃ m, W 0 m σ H) ∧ ∀ i m σ H, W i m σ H →
      ((Itr lo n).stop i H ∧ D.nx σ H) ∨ ((Itr lo n).go i H ∧ ∃ N : St → Hp → Prop, (∀ σ' H', N σ' H' → ∃ m', m' < m ∧ W (i + 1) m' σ' H') ∧ ∀ x H', (Itr lo n).yld i H x H' → g x σ H' fun σ2 H2 => tb { D with nx := N, ct := N, bk := D.nx } σ2 H2) := by
  refine ⟨fun i m σ H => m = n - i ∧ i ≤ n ∧ Pv i σ H, ⟨n, by simp, Nat.zero_le _, h0⟩, ?_⟩
  rintro i m σ H ⟨rfl, hi, p⟩
  by_cases hlt : i < n
  · refine .inr ⟨hlt, Pv (i + 1), fun σ' H' p' => ⟨n - (i + 1), by omega, rfl, hlt, p'⟩, fun x H' y => ?_⟩
    obtain ⟨e, y⟩ := y
    subst e y
    exact hs i σ _ hlt p
  · have e : i = n := by omega
    subst e
    exact .inl ⟨Nat.le_refl _, hd σ H p⟩
end L2
namespace L2
open PySem PySem.Spec PyProof.Rows
abbrev R2 := V → V → Hp → VK → Prop
def OpR (X : Cx) (f : Value → Value → Sem Value) (r : R2) : Prop :=
  ∀ (pins : List (Addr × Obj)) (s : Shared) (σ : St) (H : Hp) (x y : V) (v u : Value) (Q : VK), Inv X pins σ H s → RelV x v → RelV y u → r x y H Q →
    wpAny (model X.prog X.w) X.A (f v u) (EP X pins σ Q) X.xe s
def CallR (X : Cx) (f : Value) (r : List V → Hp → VK → Prop) : Prop :=
  ∀ (pins : List (Addr × Obj)) (s : Shared) (σ : St) (H : Hp) (xs : List V) (us : List Value) (Q : VK), Inv X pins σ H s → Vals xs us → r xs H Q →
    wpAny (model X.prog X.w) X.A (call f us) (EP X pins σ Q) X.xe s
def TruR (X : Cx) (r : V → Hp → (Bool → Hp → Prop) → Prop) : Prop :=
  ∀ (pins : List (Addr × Obj)) (s : Shared) (σ : St) (H : Hp) (x : V) (v : Value) (Q : Bool → Hp → Prop), Inv X pins σ H s → RelV x v → r x H Q →
    wpAny (model X.prog X.w) X.A (truthy v) (TP X pins σ Q) X.xe s
def tOp (r : R2) (ta tb : TE) : TE := fun σ H Q => ta σ H fun x H1 => tb σ H1 fun y H2 => r x y H2 Q
def rI (C : Int → Int → Prop) (g : Int → Int → V) : R2 := fun x y H Q => ∃ i j, x = .int i ∧ y = .int j ∧ C i j ∧ Q (g i j) H
def rI0 (g : Int → Int → V) : R2 := fun x y H Q => ∃ i j, x = .int i ∧ y = .int j ∧ Q (g i j) H
section
variable {X : Cx} {a b c : Expr} {ta tb tc : TE} {pos : Pos}
theorem binT (ha : PE X a ta) (hb : PE X b tb) {pins : List (Addr × Obj)} {s : Shared} {σ : St} {H : Hp} {R : V → V → Hp → Prop} (I : Inv X pins σ H s)
    (h : ta σ H fun x H1 => tb σ H1 fun y H2 => R x y H2) {Q : Value → Shared → Prop} {f : Value → Value → Sem Value}
    (hf : ∀ v u s2 x y H2, Inv X pins σ H2 s2 → RelV x v → RelV y u → R x y H2 → wpAny (model X.prog X.w) X.A (f v u) Q X.xe s2) :
    wpAny (model X.prog X.w) X.A (eval a X.env) (fun v s₁ => wpAny (model X.prog X.w) X.A (eval b X.env) (fun u s₂ => wpAny (model X.prog X.w) X.A (f v u) Q X.xe s₂) X.xe s₁) X.xe s := by
  refine thn (ha pins s σ H _ I h) fun v s1 ⟨x, H1, I1, r1, q1⟩ => ?_
  refine thn (hb pins s1 σ H1 _ I1 q1) fun u s2 ⟨y, H2, I2, r2, q2⟩ => ?_
  exact hf v u s2 x y H2 I2 r1 r2 q2
theorem pe_op {op : Operator} {r : R2} (ho : OpR X (binaryOp op) r) (ha : PE X a ta) (hb : PE X b tb) : PE X (.BinOp a op b pos) (tOp r ta tb) := by
  intro pins s σ H Q I h
  exact wpAny_BinOp (binT ha hb I h fun v u s2 x y H2 I2 rx ry q => ho pins s2 σ H2 x y v u Q I2 rx ry q)
theorem opI0 {f : Value → Value → Sem Value} {g : Int → Int → Int}
    (rule : ∀ (i j : Int) (t u : Tok) (s : Shared) (Q : Value → Shared → Prop) (E : Value → Shared → Prop), Q (.int (g i j) s.toks) { s with toks := s.toks + 1 } → wpAny (model X.prog X.w) X.A (f (.int i t) (.int j u)) Q E s) :
    OpR X f (rI0 fun i j => .int (g i j)) := by
  intro pins s σ H x y v u Q I rx ry h
  obtain ⟨i, j, rfl, rfl, q⟩ := h
  obtain ⟨t, rfl⟩ := rx
  obtain ⟨t', rfl⟩ := ry
  exact rule i j t t' s _ _ ⟨.int (g i j), H, I.tok _, ⟨_, rfl⟩, q⟩
theorem opB0 {f : Value → Value → Sem Value} {g : Int → Int → Bool}
    (rule : ∀ (i j : Int) (t u : Tok) (s : Shared) (Q : Value → Shared → Prop) (E : Value → Shared → Prop), Q (.bool (g i j)) s → wpAny (model X.prog X.w) X.A (f (.int i t) (.int j u)) Q E s) :
    OpR X f (rI0 fun i j => .bl (g i j)) := by
  intro pins s σ H x y v u Q I rx ry h
  obtain ⟨i, j, rfl, rfl, q⟩ := h
  obtain ⟨t, rfl⟩ := rx
  obtain ⟨t', rfl⟩ := ry
  exact rule i j t t' s _ _ ⟨.bl (g i j), H, I, rfl, q⟩
def CMul (i j : Int) : Prop := (-(2 ^ 64) < i ∧ i < 2 ^ 64) ∨ (-(2 ^ 64) < j ∧ j < 2 ^ 64)
theorem CMul.ok {i j : Int} (h : CMul i j) : IntMulOk i j := by
  rcases h with ⟨h1, h2⟩ | ⟨h1, h2⟩
  · exact .of_left (intBits_le_64 h1 h2)
  · exact .of_right (intBits_le_64 h1 h2)
theorem op_add : OpR X (binaryOp .Add) (rI0 fun i j => .int (i + j)) := opI0 fun _ _ _ _ _ _ _ q => add_int q
theorem op_sub : OpR X (binaryOp .Sub) (rI0 fun i j => .int (i - j)) := opI0 fun _ _ _ _ _ _ _ q => sub_int q
end
def scal : V → V → Bool
  | .non, .non => true | .non, .int _ => true | .int _, .non => true | .non, .bl _ => true | .bl _, .non => true | .non, .str _ => true | .str _, .non => true
  | .int _, .int _ => true | .bl _, .bl _ => true | .str _, .str _ => true | .byt _, .byt _ => true
  | .int _, .str _ => true | .str _, .int _ => true | .bl _, .str _ => true | .str _, .bl _ => true
  | _, _ => false
def rEq : R2 := fun x y H Q => scal x y = true ∧ Q (.bl (decide (x = y))) H
def rNe : R2 := fun x y H Q => scal x y = true ∧ Q (.bl (!decide (x = y))) H
theorem dec_int {i j : Int} : decide (V.int i = V.int j) = (i == j) := by
  rw [Bool.eq_iff_iff]
  simp
theorem dec_bl {i j : Bool} : decide (V.bl i = V.bl j) = (i == j) := by
  rw [Bool.eq_iff_iff]
  simp
theorem dec_str {i j : Str} : decide (V.str i = V.str j) = (i == j) := by
  rw [Bool.eq_iff_iff]
  simp
theorem dec_byt {i j : Array UInt8} : decide (V.byt i = V.byt j) = (i.toList == j.toList) := by
  rw [Bool.eq_iff_iff]
  cases i
  cases j
  simp
section
variable {X : Cx} {a b c : Expr} {ta tb tc : TE} {pos : Pos}
theorem fin_bl {pins : List (Addr × Obj)} {σ : St} {H : Hp} {s : Shared} {Q : VK} {k k' : Bool} (I : Inv X pins σ H s) (q : Q (.bl k) H) (e : k = k') : EP X pins σ Q (.bool k') s := by
  subst e
  exact ⟨.bl k, H, I, rfl, q⟩
theorem op_eq : OpR X (compareOp .Eq) rEq := by
  intro pins s σ H x y v u Q I rx ry h
  obtain ⟨hs, q⟩ := h
  cases x with
  | non =>
    cases rx
    cases y with
    | non => cases ry; exact PySem.EqNone.eq_none_none (fin_bl I q (by simp))
    | bl j => cases ry; exact PySem.EqNone.eq_none_bool (fin_bl I q (by simp))
    | int j => obtain ⟨t', rfl⟩ := ry; exact PySem.EqNone.eq_none_int (fin_bl I q (by simp))
    | str j => obtain ⟨t', rfl⟩ := ry; exact PySem.EqNone.eq_none_str (fin_bl I q (by simp))
    | _ => exact absurd (show false = true from hs) Bool.false_ne_true
  | bl i =>
    cases rx
    cases y with
    | non => cases ry; exact PySem.EqNone.eq_bool_none (fin_bl I q (by simp))
    | bl j => cases ry; exact eq_bool (fin_bl I q dec_bl)
    | str j => obtain ⟨t', rfl⟩ := ry; exact PySem.EqMixed.eq_bool_str (fin_bl I q (by simp))
    | _ => exact absurd (show false = true from hs) Bool.false_ne_true
  | int i =>
    obtain ⟨t, rfl⟩ := rx
    cases y with
    | non => cases ry; exact PySem.EqNone.eq_int_none (fin_bl I q (by simp))
    | int j => obtain ⟨t', rfl⟩ := ry; exact eq_int (fin_bl I q dec_int)
    | str j => obtain ⟨t', rfl⟩ := ry; exact PySem.EqMixed.eq_int_str (fin_bl I q (by simp))
    | _ => exact absurd (show false = true from hs) Bool.false_ne_true
  | str i =>
    obtain ⟨t, rfl⟩ := rx
    cases y with
    | non => cases ry; exact PySem.EqNone.eq_str_none (fin_bl I q (by simp))
    | bl j => cases ry; exact PySem.EqMixed.eq_str_bool (fin_bl I q (by simp))
    | int j => obtain ⟨t', rfl⟩ := ry; exact PySem.EqMixed.eq_str_int (fin_bl I q (by simp))
    | str j => obtain ⟨t', rfl⟩ := ry; exact eq_str (fin_bl I q dec_str)
    | _ => exact absurd (show false = true from hs) Bool.false_ne_true
  | byt i =>
    obtain ⟨t, rfl⟩ := rx
    cases y with
    | byt j => obtain ⟨t', rfl⟩ := ry; exact PySem.W.eq_bytes (fin_bl I q dec_byt)
    | _ => exact absurd (show false = true from hs) Bool.false_ne_true
  | _ => cases y <;> exact absurd (show false = true from hs) Bool.false_ne_true
theorem op_ne : OpR X (compareOp .NotEq) rNe := by
  intro pins s σ H x y v u Q I rx ry h
  obtain ⟨hs, q⟩ := h
  cases x with
  | non =>
    cases rx
    cases y with
    | non => cases ry; exact PySem.EqNone.ne_none_none (fin_bl I q (by simp))
    | bl j => cases ry; exact PySem.EqNone.ne_none_bool (fin_bl I q (by simp))
    | int j => obtain ⟨t', rfl⟩ := ry; exact PySem.EqNone.ne_none_int (fin_bl I q (by simp))
    | str j => obtain ⟨t', rfl⟩ := ry; exact PySem.EqNone.ne_none_str (fin_bl I q (by simp))
    | _ => exact absurd (show false = true from hs) Bool.false_ne_true
  | bl i =>
    cases rx
    cases y with
    | non => cases ry; exact PySem.EqNone.ne_bool_none (fin_bl I q (by simp))
    | bl j => cases ry; exact ne_bool (fin_bl I q (congrArg not dec_bl))
    | str j => obtain ⟨t', rfl⟩ := ry; exact PySem.EqMixed.ne_bool_str (fin_bl I q (by simp))
    | _ => exact absurd (show false = true from hs) Bool.false_ne_true
  | int i =>
    obtain ⟨t, rfl⟩ := rx
    cases y with
    | non => cases ry; exact PySem.EqNone.ne_int_none (fin_bl I q (by simp))
    | int j => obtain ⟨t', rfl⟩ := ry; exact ne_int (fin_bl I q (congrArg not dec_int))
    | str j => obtain ⟨t', rfl⟩ := ry; exact PySem.EqMixed.ne_int_str (fin_bl I q (by simp))
    | _ => exact absurd (show false = true from hs) Bool.false_ne_true
  | str i =>
    obtain ⟨t, rfl⟩ := rx
    cases y with
    | non => cases ry; exact PySem.EqNone.ne_str_none (fin_bl I q (by simp))
    | bl j => cases ry; exact PySem.EqMixed.ne_str_bool (fin_bl I q (by simp))
    | int j => obtain ⟨t', rfl⟩ := ry; exact PySem.EqMixed.ne_str_int (fin_bl I q (by simp))
    | str j => obtain ⟨t', rfl⟩ := ry; exact ne_str (fin_bl I q (congrArg not dec_str))
    | _ => exact absurd (show false = true from hs) Bool.false_ne_true
  | byt i =>
    obtain ⟨t, rfl⟩ := rx
    cases y with
    | byt j => obtain ⟨t', rfl⟩ := ry; exact PySem.W.ne_bytes (fin_bl I q (congrArg not dec_byt))
    | _ => exact absurd (show false = true from hs) Bool.false_ne_true
  | _ => cases y <;> exact absurd (show false = true from hs) Bool.false_ne_true
theorem op_lt : OpR X (compareOp .Lt) (rI0 fun i j => .bl (decide (i < j))) := opB0 fun _ _ _ _ _ _ _ q => lt_int q
theorem op_le : OpR X (compareOp .LtE) (rI0 fun i j => .bl (decide (i ≤ j))) := opB0 fun _ _ _ _ _ _ _ q => le_int q
theorem op_gt : OpR X (compareOp .Gt) (rI0 fun i j => .bl (decide (j < i))) := opB0 fun _ _ _ _ _ _ _ q => gt_int q
theorem op_ge : OpR X (compareOp .GtE) (rI0 fun i j => .bl (decide (j ≤ i))) := opB0 fun _ _ _ _ _ _ _ q => ge_int q
theorem op_isN : OpR X (compareOp .Is) (fun x y H Q => y = .non ∧ Q (.bl (decide (x = .non))) H) := by
  intro pins s σ H x y v u Q I rx ry h
  obtain ⟨rfl, q⟩ := h
  cases ry
  refine is_none_gen (fin_bl I q ?_)
  cases x <;> first
    | (cases rx; rfl)
    | (obtain ⟨t, rfl⟩ := rx; rfl)
theorem OpR.or {f : Value → Value → Sem Value} {r r' : R2} (h : OpR X f r) (h' : OpR X f r') : OpR X f (fun x y H Q => r x y H Q ∨ r' x y H Q) := by
  intro pins s σ H x y v u Q I rx ry q
  rcases q with q | q
  · exact h pins s σ H x y v u Q I rx ry q
  · exact h' pins s σ H x y v u Q I rx ry q
theorem nomark (b : Expr) {op : CmpOp} (h : op ≠ .In := by decide) (h2 : op ≠ .NotIn := by decide) : behindInMarks op b = false := by
  have e1 : (op == CmpOp.In) = false := by cases op <;> first | rfl | exact absurd rfl h
  have e2 : (op == CmpOp.NotIn) = false := by cases op <;> first | rfl | exact absurd rfl h2
  cases b <;> simp [behindInMarks, e1, e2]
theorem pe_cmpR {op : CmpOp} {r : R2} (ho : OpR X (compareOp op) r) (ha : PE X a ta) (hb : PE X b tb) (hm : behindInMarks op b = false) : PE X (.Compare a [op] [b] pos) (tOp r ta tb) := by
  intro pins s σ H Q I h
  exact wpAny_Compare1 (binT ha hb I h fun v u s2 x y H2 I2 rx ry q => ho pins s2 σ H2 x y v u Q I2 rx ry q) hm
def tTest (t : TE) : TT := fun σ H Q => t σ H fun x H' => ∃ k, x = .bl k ∧ Q k H'
theorem pt_cmpR {op : CmpOp} {r : R2} (ho : OpR X (compareOp op) r) (ha : PE X a ta) (hb : PE X b tb) (hm : behindInMarks op b = false) : PT X (.Compare a [op] [b] pos) (tTest (tOp r ta tb)) := by
  intro pins s σ H Q I h
  refine wpAny_isTrue_Compare1 (thn (ha pins s σ H _ I h) fun v s1 ⟨x, H1, I1, r1, q1⟩ => thn (hb pins s1 σ H1 _ I1 q1) fun u s2 ⟨y, H2, I2, r2, q2⟩ =>
    thn (ho pins s2 σ H2 x y v u _ I2 r1 r2 q2) fun c s3 ⟨z, H3, I3, r3, k, e, q3⟩ => ?_) hm
  subst e
  cases r3
  exact wpAny_truthy_bool ⟨H3, I3, q3⟩
def TruV (K : PySem.W.Frag) (x : V) (H : Hp) (k : Bool) : Prop :=
  match x with
  | .non => k = false
  | .bl b => k = b
  | .int i => k = (i != 0)
  | .str y => y.length ≤ sizeLine ∧ k = ((y.length : Int) != 0)
  | .byt y => y.size ≤ sizeLine ∧ k = ((y.size : Int) != 0)
  | .ref p => (∃ xs, SqL K H p xs ∧ k = !xs.isEmpty) ∨ (∃ xs, SqT K H p xs ∧ k = !xs.isEmpty) ∨ ∃ kvs, H p = some (.dK kvs) ∧ k = !kvs.isEmpty
  | _ => False
theorem isEmpty_kv {κ : Type} {kvs : List (κ × V)} {vs : List (κ × Value)} (r : KV kvs vs) : (!vs.isEmpty) = !kvs.isEmpty := by
  cases r <;> rfl
theorem isEmpty_of {xs : List V} {its : List Value} (r : Vals xs its) : (!its.toArray.isEmpty) = !xs.isEmpty := by
  cases r <;> simp
theorem line63 : (sizeLine : Nat) < 2 ^ 63 := by rw [sizeLine_eq]; decide
theorem tru_ok : TruR X (fun x H Q => ∃ k, TruV X.K x H k ∧ Q k H) := by
  intro pins s σ H x v Q I rx h
  obtain ⟨k, e, q⟩ := h
  have hl := line63
  have hs : sizeLine = 16777216 := sizeLine_eq
  cases x with
  | non =>
    cases rx
    have e' : k = false := e
    subst e'
    exact truthy_none ⟨H, I, q⟩
  | bl b =>
    cases rx
    have e' : k = b := e
    subst e'
    exact wpAny_truthy_bool ⟨H, I, q⟩
  | int i =>
    obtain ⟨t, rfl⟩ := rx
    have e' : k = (i != 0) := e
    subst e'
    exact PySem.P.truthy_int ⟨H, I, q⟩
  | str y =>
    obtain ⟨t, rfl⟩ := rx
    obtain ⟨hy, e'⟩ : y.length ≤ sizeLine ∧ k = ((y.length : Int) != 0) := e
    subst e'
    exact PySem.P.truthy_str (by omega) ⟨H, I.tok _, q⟩
  | byt y =>
    obtain ⟨t, rfl⟩ := rx
    obtain ⟨hy, e'⟩ : y.size ≤ sizeLine ∧ k = ((y.size : Int) != 0) := e
    subst e'
    exact PySem.W.truthy_bytes (by omega) ⟨H, I.tok _, q⟩
  | ref p =>
    cases rx
    have e' : (∃ xs, SqL X.K H p xs ∧ k = !xs.isEmpty) ∨ (∃ xs, SqT X.K H p xs ∧ k = !xs.isEmpty) ∨ ∃ kvs, H p = some (.dK kvs) ∧ k = !kvs.isEmpty := e
    rcases e' with ⟨xs, hx, e'⟩ | ⟨xs, hx, e'⟩ | ⟨kvs, hx, e'⟩
    · subst e'
      obtain ⟨its, r, pl, hz⟩ := I.list hx
      have hlen := r.length
      exact wpAny_truthy_list pl.isList (by simp only [List.size_toArray]; omega) ⟨H, I.tok _, by rw [isEmpty_of r]; exact q⟩
    · subst e'
      obtain ⟨its, r, pl, hz⟩ := I.tuple hx
      have hlen := r.length
      exact truthy_tuple pl (by simp only [List.size_toArray]; omega) ⟨H, I.tok _, by rw [isEmpty_of r]; exact q⟩
    · subst e'
      obtain ⟨hz, hS, vs, r, m⟩ : kvs.length ≤ sizeLine ∧ (p == sysModules) = false ∧ ∃ vs, KV kvs vs ∧ s.heap.DictOf (mixKind X.prog X.w) p vs := I.hok p _ hx
      have hlen : kvs.length = vs.length := Paired.length r
      exact wpAny_truthy_dict hS m (by omega) ⟨H, I.tok _, by rw [isEmpty_kv r]; exact q⟩
  | _ => exact (show False from e).elim
theorem pt_truth (ha : PE X a ta) (he : ∀ whole, isTrue a X.env whole = (do let v ← whole; standAt a.pos; holding [v] (truthy v))) :
    PT X a (fun σ H Q => ta σ H fun x H' => ∃ k, TruV X.K x H' k ∧ Q k H') := by
  intro pins s σ H Q I h
  exact isTrue_plain (thn (ha pins s σ H _ I h) fun v s1 ⟨x, H1, I1, r1, q1⟩ => tru_ok pins s1 σ H1 x v Q I1 r1 q1) (he _)
theorem vals1 {x : V} {us : List Value} (r : Vals [x] us) : ∃ u, us = [u] ∧ RelV x u := by
  cases r with
  | cons r1 r2 => cases r2; exact ⟨_, rfl, r1⟩
theorem vals2 {x y : V} {us : List Value} (r : Vals [x, y] us) : ∃ u w', us = [u, w'] ∧ RelV x u ∧ RelV y w' := by
  cases r with
  | cons r1 r2 =>
    cases r2 with
    | cons r3 r4 => cases r4; exact ⟨_, _, rfl, r1, r3⟩
theorem call_max2 (hc : X.calm = true) : CallR X (.builtin "max") (fun xs H Q => ∃ i j, xs = [.int i, .int j] ∧ Q (.int (if j > i then j else i)) H) := by
  intro pins s σ H xs us Q I r h
  obtain ⟨i, j, rfl, q⟩ := h
  obtain ⟨u, w', rfl, ⟨t, rfl⟩, ⟨t', rfl⟩⟩ := vals2 r
  refine max_two_ints (I.ok.hd hc) fun h' tk k => ⟨_, H, I.kept k, ?_, q⟩
  by_cases hj : j > i
  · rw [if_pos hj, if_pos hj]; exact ⟨_, rfl⟩
  · rw [if_neg hj, if_neg hj]; exact ⟨_, rfl⟩
theorem call_min2 (hc : X.calm = true) : CallR X (.builtin "min") (fun xs H Q => ∃ i j, xs = [.int i, .int j] ∧ Q (.int (if j < i then j else i)) H) := by
  intro pins s σ H xs us Q I r h
  obtain ⟨i, j, rfl, q⟩ := h
  obtain ⟨u, w', rfl, ⟨t, rfl⟩, ⟨t', rfl⟩⟩ := vals2 r
  refine min_two_ints (I.ok.hd hc) fun h' tk k => ⟨_, H, I.kept k, ?_, q⟩
  by_cases hj : j < i
  · rw [if_pos hj, if_pos hj]; exact ⟨_, rfl⟩
  · rw [if_neg hj, if_neg hj]; exact ⟨_, rfl⟩
end
end L2
namespace L2
open PySem PySem.Spec PyProof.Rows
structure ObjM (h : Heap) (x dx C : Addr) (mA : Str → Option Value) : Prop where
  obj : h.get? x = some (PySem.W.instObj C dx)
  ns : h.Ns1 dx mA
  ne : dx ≠ x
theorem lookIn_ns {h : Heap} {dx : Addr} {mA : Str → Option Value} (n : h.Ns1 dx mA) : ∃ od, h.get? dx = some od ∧ ∀ name, PySem.W.lookIn name od = some (mA name) := by
  obtain ⟨o, es, ep, ho, hd, hk, _, hm⟩ := n
  refine ⟨o, ho, fun name => ?_⟩
  have e := hm name
  unfold nsFind findBy at e
  rw [← Array.find?_toList] at e
  unfold PySem.W.lookIn
  rw [hd]
  dsimp only
  split
  · rename_i y q
    rw [q] at e
    exact congrArg some e
  · rename_i q
    rw [q] at e
    have a : es.toList.any (·.refKey) = false := by
      rw [List.any_eq_false]
      intro y hy
      obtain ⟨z, t, hkey⟩ := hk y (Array.mem_toList_iff.mp hy)
      simp [DictEntry.refKey, hkey]
    have a' : ¬ es.toList.any (·.refKey) = true := by rw [a]; exact Bool.false_ne_true
    rw [if_neg a']
    exact congrArg some e
theorem ObjM.look {h : Heap} {x dx C : Addr} {mA : Str → Option Value} (I : ObjM h x dx C mA) : ∃ od, PySem.W.InstAt h x (PySem.W.instObj C dx) C (some od) ∧ ∀ name, PySem.W.lookIn name od = some (mA name) :=
  let ⟨od, ho, hl⟩ := lookIn_ns I.ns
  ⟨od, ⟨I.obj, rfl, rfl, ho⟩, hl⟩
section
variable {prog : Program} {w : World} {A : Around} {E : Value → Shared → Prop} {s : Shared} {K : PySem.W.Frag} {x dx C f : Addr} {mA : Str → Option Value} {name : Str} {v : Value}
theorem get_map {expr : Bool} {Q : Value → Shared → Prop} (X : K.In s.heap) (I : ObjM s.heap x dx C mA) (hg : PySem.W.plainGet K C name = true) (hh : PySem.W.hasDictIn K C = true)
    (ha : PySem.W.findIn K (.ref C) name = some none) (hv : mA name = some v) (hv' : PySem.W.handedIn v = true) (h : Q v { s with toks := s.toks + 1 }) :
    wpAny (model prog w) A (getAttr (.ref x) name expr) Q E s := by
  obtain ⟨od, J, hl⟩ := I.look
  exact PySem.W.get_value X J (PySem.W.plainGet_of hg).1 (PySem.W.findObj_own hh ha rfl (by rw [hl, hv])) hv' h
theorem get_meth {pl : Sem Bool} {Q : Value × List Value → Shared → Prop} (X : K.In s.heap) (I : ObjM s.heap x dx C mA) (hg : PySem.W.plainGet K C name = true)
    (hf : PySem.W.findIn K (.ref C) name = some (some (.ref f))) (ht : PySem.W.isFn K (.ref f) = true) (hv : mA name = none) (h : Q (.ref f, [.ref x]) s) :
    wpAny (model prog w) A (getMethod (.ref x) name pl) Q E s := by
  obtain ⟨od, J, hl⟩ := I.look
  exact PySem.W.method_fn X J (PySem.W.plainGet_of hg).1 (PySem.W.plainGet_of hg).2 hf (beq_iff_eq.mp ht) (by show (PySem.W.lookIn name od).map (·.isSome) = some false; rw [hl, hv]; rfl) h
theorem set_map {ns : List Str} {Q : Unit → Shared → Prop} (X : K.In s.heap) (I : ObjM s.heap x dx C mA)
    (hs : PySem.W.findIn K (.ref C) "__setattr__" = some (some (.builtin "object.__setattr__"))) (hp : PySem.W.plainOver K C = true) (ht : PySem.W.takerIn K C name = some none) (hh : PySem.W.hasDictIn K C = true)
    (hw : PySem.Within mA ns) (hsz : ns.length ≤ sizeLine)
    (h : ∀ h', ObjM h' x dx C (fun y => if y = name then some v else mA y) → Heap.SameBut dx s.heap h' → Q () { s with heap := h', toks := s.toks + 2 }) :
    wpAny (model prog w) A (setAttr (.ref x) name v) Q E s := by
  obtain ⟨od, J, hl⟩ := I.look
  refine PySem.W.set_plain X J hs (PySem.W.osa_open (s := { s with toks := s.toks + 1 }) (r := none) X J hp ht fun b => ?_)
  obtain ⟨cd, hc, hd'⟩ := PySem.W.any_some hh
  have hx : s.heap.get? x = some ⟨.ref C, some dx, .plain, #[]⟩ := I.obj
  refine wpAny_bind (wpAny_pure (wpAny_bind (wpAny_bind (wpAny_loadPart hx (wpAny_bind (PySem.W.Looks.here (s := { s with toks := s.toks + 1 }) (PySem.W.looks_clsIn X hc) ?_))))))
  rw [hd']
  refine wpAny_pure (a := some dx) (wpAny_bind (wpAny_pure (wpAny_bind ?_)))
  refine wpAny_nsSet1 (s := { s with toks := s.toks + 1 }) I.ns fun h' hn2 hs2 => ?_
  obtain ⟨oD, esD, epD, hoD, hdD, hcD⟩ := hn2.count (PySem.Within.cons name v hw)
  refine wpAny_bind (wpAny_lookBehind hoD (by rw [hdD]; exact pastItsLine_dict (Nat.le_trans hcD (by rw [List.length_cons]; omega))) ?_)
  exact wpAny_pure (h _ ⟨(hs2.2 _ (Ne.symm I.ne)).trans I.obj, hn2, I.ne⟩ hs2)
theorem make_map {R : Result → Shared → Prop} {vs : List Value} {kw : List (Str × Value)} (X : K.In s.heap) (hm : PySem.W.makesIn K C = true)
    (hi : PySem.W.findIn K (.ref C) "__init__" = some (some (.ref f))) (hf : PySem.W.typeIn K (.ref f) = some (.type "function"))
    (h : codeAny (model prog w) (A.under (.builtin "type.__call__" ⟨.ref C :: vs, kw⟩)) (.call (.ref f) ⟨.ref (s.heap.objs.size + 1) :: vs, kw⟩) (PySem.W.InitBack (s.heap.objs.size + 1) R)
      { s with heap := (s.heap.push PySem.W.emptyDict).push (PySem.W.instObj C s.heap.objs.size) }) :
    codeAny (model prog w) A (.call (.ref C) ⟨vs, kw⟩) R s := by
  obtain ⟨hh, g, d, t, os⟩ := s
  exact PySem.W.make_core (PySem.W.makes_of X hm) (PySem.W.looks_findIn X hi) (fun self => PySem.W.bind_fn X self hf) (.inl rfl) h
end
def putF (f : Str) (v : V) : List (Str × V) → List (Str × V)
  | [] => [(f, v)]
  | (g, x) :: r => if g = f then (g, v) :: r else (g, x) :: putF f v r
theorem lookup_putF (f g : Str) (v : V) : ∀ fs : List (Str × V), (putF f v fs).lookup g = if g = f then some v else fs.lookup g
  | [] => by
    show List.lookup g [(f, v)] = _
    by_cases h : g = f
    · have hb : (g == f) = true := beq_iff_eq.mpr h
      simp only [List.lookup, hb, if_pos h]
    · have hb : (g == f) = false := beq_eq_false_iff_ne.mpr h
      simp only [List.lookup, hb, if_neg h]
  | (k, x) :: r => by
    have ih := lookup_putF f g v r
    rw [show putF f v ((k, x) :: r) = (if k = f then (k, v) :: r else (k, x) :: putF f v r) from rfl]
    by_cases hk : k = f
    · rw [if_pos hk]
      by_cases h : g = k
      · have hb : (g == k) = true := beq_iff_eq.mpr h
        simp only [List.lookup, hb, if_pos (h.trans hk)]
      · have hb : (g == k) = false := beq_eq_false_iff_ne.mpr h
        simp only [List.lookup, hb, if_neg (fun e : g = f => h (e.trans hk.symm))]
    · rw [if_neg hk]
      by_cases h : g = k
      · have hb : (g == k) = true := beq_iff_eq.mpr h
        simp only [List.lookup, hb, if_neg (fun e : g = f => hk (h.symm.trans e))]
      · have hb : (g == k) = false := beq_eq_false_iff_ne.mpr h
        simp only [List.lookup, hb]
        exact ih
theorem keys_putF (f : Str) (v : V) : ∀ fs : List (Str × V), f ∈ (putF f v fs).map (·.1) ∧ ∀ g, g ∈ fs.map (·.1) → g ∈ (putF f v fs).map (·.1)
  | [] => ⟨by simp [putF], fun g h => by simp at h⟩
  | (k, x) :: r => by
    obtain ⟨i1, i2⟩ := keys_putF f v r
    rw [show putF f v ((k, x) :: r) = (if k = f then (k, v) :: r else (k, x) :: putF f v r) from rfl]
    by_cases hk : k = f
    · rw [if_pos hk]
      subst hk
      exact ⟨by simp, fun g h => by simpa using h⟩
    · rw [if_neg hk]
      refine ⟨?_, fun g h => ?_⟩
      · rw [List.map_cons]
        exact List.mem_cons_of_mem _ i1
      · rw [List.map_cons] at h ⊢
        rcases List.mem_cons.mp h with e | e
        · exact List.mem_cons.mpr (.inl e)
        · exact List.mem_cons_of_mem _ (i2 g e)
theorem length_putF (f : Str) (v : V) : ∀ fs : List (Str × V), (putF f v fs).length ≤ fs.length + 1
  | [] => by simp [putF]
  | (k, x) :: r => by
    have ih := length_putF f v r
    rw [show putF f v ((k, x) :: r) = (if k = f then (k, v) :: r else (k, x) :: putF f v r) from rfl]
    by_cases hk : k = f
    · rw [if_pos hk, List.length_cons, List.length_cons]; omega
    · rw [if_neg hk, List.length_cons, List.length_cons]; omega
theorem RelO.some_of {v : V} {o : Option Value} (r : RelO (some v) o) : ∃ u, o = some u ∧ RelV v u := by
  cases o with
  | none => exact (show False from r).elim
  | some u => exact ⟨u, rfl, r⟩
theorem RelO.none_of {o : Option Value} (r : RelO none o) : o = none := by
  cases o with
  | none => rfl
  | some u => exact (show False from r).elim
theorem handed_of {v : V} {u : Value} (r : RelV v u) : PySem.W.handedIn u = true := by
  cases v with
  | non => cases (show u = Value.none from r); rfl
  | bl b => cases (show u = Value.bool b from r); rfl
  | int i => obtain ⟨t, e⟩ := (show ∃ t, u = Value.int i t from r); cases e; rfl
  | str x => obtain ⟨t, e⟩ := (show ∃ t, u = Value.str x t from r); cases e; rfl
  | byt b => obtain ⟨t, e⟩ := (show ∃ t, u = Value.bytes b t from r); cases e; rfl
  | flt b => obtain ⟨t, e⟩ := (show ∃ t, u = Value.float b t from r); cases e; rfl
  | ref a => cases (show u = Value.ref a from r); rfl
  | ty n => cases (show u = Value.type n from r); rfl
section
variable {P : Program} {w : World} {H H' : Hp} {h h' : Heap} {a C dx : Addr} {fs fs' : List (Str × V)}
theorem ins_get (hok : HOk P w H h) (e : H a = some (.ins C dx fs)) : ∃ mA, ObjM h a dx C mA ∧ (∀ f, RelO (fs.lookup f) (mA f)) ∧ PySem.Within mA (fs.map (·.1)) ∧ fs.length ≤ 1000 ∧ H dx = some (.own a) := by
  obtain ⟨d, z, ne, ob, mA, n, r, q⟩ := (show ObjOk P w H h a (.ins C dx fs) from hok a _ e)
  exact ⟨mA, ⟨ob, n, ne⟩, r, q, z, d⟩
end
structure Cls (K : PySem.W.Frag) (C : Addr) : Prop where
  pg : PySem.W.plainGet K C Str.empty = true
  hd : PySem.W.hasDictIn K C = true
  po : PySem.W.plainOver K C = true
  sa : PySem.W.findIn K (.ref C) "__setattr__" = some (some (.builtin "object.__setattr__"))
theorem Cls.get {K : PySem.W.Frag} {C : Addr} (c : Cls K C) (f : Str) : PySem.W.plainGet K C f = true := c.pg
def NoAttr (K : PySem.W.Frag) (C : Addr) (f : Str) : Prop := PySem.W.findIn K (.ref C) f = some none
theorem NoAttr.taker {K : PySem.W.Frag} {C : Addr} {f : Str} (n : NoAttr K C f) : PySem.W.takerIn K C f = some none := by
  unfold PySem.W.takerIn
  rw [show PySem.W.findIn K (.ref C) f = some none from n]
  rfl
structure Meth (K : PySem.W.Frag) (C : Addr) (m : Str) (f : Addr) : Prop where
  at_ : PySem.W.findIn K (.ref C) m = some (some (.ref f))
  fn : PySem.W.isFn K (.ref f) = true
  kp : PySem.W.keepIn K (.ref f) = true
section
variable {X : Cx} {pins : List (Addr × Obj)} {σ : St} {H : Hp} {s : Shared} {a C dx : Addr} {fs : List (Str × V)} {f : Str} {v : V} {A : Around} {E : Value → Shared → Prop}
theorem getattr_ok {b : Bool} {Q : Value → Shared → Prop} (I : Inv X pins σ H s) (e : H a = some (.ins C dx fs)) (c : Cls X.K C) (n : NoAttr X.K C f) (l : fs.lookup f = some v)
    (h : ∀ u s', Inv X pins σ H s' → RelV v u → Q u s') : wpAny (model X.prog X.w) A (getAttr (.ref a) f b) Q E s := by
  obtain ⟨mA, O, r, _, _, _⟩ := ins_get I.hok e
  obtain ⟨u, hu, ru⟩ := RelO.some_of (v := v) (o := mA f) (by rw [← l]; exact r f)
  exact get_map I.kIn O (c.get f) c.hd n hu (handed_of ru) (h u _ (I.tok _) ru)
theorem getmeth_ok {m : Str} {g : Addr} {pl : Sem Bool} {Q : Value × List Value → Shared → Prop} (I : Inv X pins σ H s) (e : H a = some (.ins C dx fs)) (c : Cls X.K C) (k : Meth X.K C m g) (l : fs.lookup m = none)
    (h : Q (.ref g, [.ref a]) s) : wpAny (model X.prog X.w) A (getMethod (.ref a) m pl) Q E s := by
  obtain ⟨mA, O, r, _, _, _⟩ := ins_get I.hok e
  have hn : mA m = none := RelO.none_of (by rw [← l]; exact r m)
  exact get_meth I.kIn O (c.get m) k.at_ k.fn hn h
theorem setattr_ok {y : V} {u : Value} {Q : Unit → Shared → Prop} (I : Inv X pins σ H s) (e : H a = some (.ins C dx fs)) (c : Cls X.K C) (n : NoAttr X.K C f) (hl : fs.length < 1000) (ry : RelV y u)
    (h : ∀ s', Inv X pins σ (upd H a (.ins C dx (putF f y fs))) s' → Q () s') : wpAny (model X.prog X.w) A (setAttr (.ref a) f u) Q E s := by
  obtain ⟨mA, O, r, wi, _, ho⟩ := ins_get I.hok e
  have hz : (fs.map (·.1)).length ≤ sizeLine := by rw [List.length_map, sizeLine_eq]; omega
  refine set_map I.kIn O c.sa c.po n.taker c.hd wi hz fun h' O' sb => h _ ?_
  have hd : ∃ o, h'.get? dx = some o := let ⟨o, _, _, e', _⟩ := O'.ns; ⟨o, e'⟩
  refine I.write (x := a) (e := dx) (by rw [e]; exact True.intro) (.inr ho) (fun b q hb z => (sb.2 b hb).trans z) hd ?_
  refine ⟨by rw [upd_ne O.ne]; exact ho, ?_, O.ne, O'.obj, _, O'.ns, fun g => ?_, fun g hg => ?_⟩
  · have := length_putF f y fs; omega
  · show RelO ((putF f y fs).lookup g) (if g = f then some u else mA g)
    rw [lookup_putF]
    by_cases q : g = f
    · rw [if_pos q, if_pos q]; exact ry
    · rw [if_neg q, if_neg q]; exact r g
  · by_cases q : g = f
    · rw [q]; exact (keys_putF f y fs).1
    · refine (keys_putF f y fs).2 g (wi g fun z => hg ?_)
      show (if g = f then some u else mA g) = none
      rw [if_neg q]; exact z
theorem Inv.made (I : Inv X pins σ H s) : Inv X pins σ (upd (upd H s.heap.objs.size (.own (s.heap.objs.size + 1))) (s.heap.objs.size + 1) (.ins C s.heap.objs.size []))
    { s with heap := (s.heap.push PySem.W.emptyDict).push (PySem.W.instObj C s.heap.objs.size) } := by
  have e1 : (s.heap.push PySem.W.emptyDict).get? s.heap.objs.size = some PySem.W.emptyDict := Heap.get?_push_size s.heap rfl
  have e2 : ((s.heap.push PySem.W.emptyDict).push (PySem.W.instObj C s.heap.objs.size)).get? (s.heap.objs.size + 1) = some (PySem.W.instObj C s.heap.objs.size) := by
    have := Heap.get?_push_size (s.heap.push PySem.W.emptyDict) (o := PySem.W.instObj C s.heap.objs.size) rfl
    rwa [Heap.size_push] at this
  have e3 : (s.heap.push PySem.W.emptyDict).Ns s.heap.objs.size (fun _ => none) := ⟨PySem.W.emptyDict, #[], _, e1, rfl, (fun e he => absurd he (by simp)), fun _ => rfl⟩
  have I1 := I.laid (a := s.heap.objs.size) (o := .own (s.heap.objs.size + 1)) (h' := s.heap.push PySem.W.emptyDict) (t' := s.toks) (fun b u q => Heap.get?_push_of_some _ q) (Nat.le_refl _) ⟨_, e1⟩
  refine I1.laid (a := s.heap.objs.size + 1) (o := .ins C s.heap.objs.size []) (t' := s.toks) (fun b u q => Heap.get?_push_of_some _ q) (Nat.le_of_eq (Heap.size_push _ _)) ?_
  have ne : s.heap.objs.size ≠ s.heap.objs.size + 1 := Nat.ne_of_lt (Nat.lt_succ_self _)
  refine ⟨by rw [upd_ne ne, upd_same], Nat.zero_le _, ne, e2, fun _ => none, (Heap.Ns1.of_empty e3).at fun o q => Heap.get?_push_of_some _ q, fun _ => True.intro, fun y hy => absurd rfl hy⟩
theorem attr_of {prog : Program} {w : World} {env : Env} {e : Expr} {f : Str} {pos : Pos} {s : Shared} {Q : Value → Shared → Prop} (hb : attributeBase e f env (eval e env) = eval e env)
    (h : wpAny (model prog w) A (eval e env) (fun o s₁ => wpAny (model prog w) A (getAttr o f true) Q E s₁) E s) : wpAny (model prog w) A (eval (.Attribute e f pos) env) Q E s :=
  Attribute_any_ h (by rw [arm_eval_Attribute, hb])
end
def tFld (K : PySem.W.Frag) (ta : TE) (f : Str) : TE := fun σ H Q => ta σ H fun x H1 => ∃ a C dx fs v, x = .ref a ∧ H1 a = some (.ins C dx fs) ∧ Cls K C ∧ NoAttr K C f ∧ fs.lookup f = some v ∧ Q v H1
def sFld (K : PySem.W.Frag) (ta tv : TE) (f : Str) : TS := fun D σ H => tv σ H fun y H1 => ta σ H1 fun x H2 => ∃ a C dx fs, x = .ref a ∧ H2 a = some (.ins C dx fs) ∧ Cls K C ∧ NoAttr K C f ∧ fs.length < 1000 ∧
  D.nx σ (upd H2 a (.ins C dx (putF f y fs)))
def InOp (X : Cx) (op : Operator) (rd : V → V → Hp → VK → Prop) : Prop :=
  ∀ (pins : List (Addr × Obj)) (s : Shared) (σ : St) (H : Hp) (x y : V) (u v : Value) (Q : VK), Inv X pins σ H s → RelV x u → RelV y v → rd x y H Q → wpAny (model X.prog X.w) X.A (inplaceOp op u v) (EP X pins σ Q) X.xe s
def sFldAug (K : PySem.W.Frag) (ta tv : TE) (rd : V → V → Hp → VK → Prop) (f : Str) : TS := fun D σ H => ta σ H fun x H1 => ∃ a C dx fs v, x = .ref a ∧ H1 a = some (.ins C dx fs) ∧ Cls K C ∧ NoAttr K C f ∧ fs.lookup f = some v ∧
  tv σ H1 fun y H2 => rd v y H2 fun z H3 => ∃ dx' fs', H3 a = some (.ins C dx' fs') ∧ fs'.length < 1000 ∧ D.nx σ (upd H3 a (.ins C dx' (putF f z fs')))
section
variable {X : Cx} {o e value : Expr} {f : Str} {pos pos' tpos : Pos} {ta tv : TE}
theorem pe_fld (he : PE X e ta) (hb : attributeBase e f X.env (eval e X.env) = eval e X.env) : PE X (.Attribute e f pos) (tFld X.K ta f) := by
  intro pins s σ H Q I h
  refine attr_of hb (thn (he pins s σ H _ I h) fun u s1 ⟨x, H1, I1, rx, a, C, dx, fs, v, ex, ea, c, n, l, q⟩ => ?_)
  subst ex
  obtain rfl : u = Value.ref a := rx
  exact getattr_ok I1 ea c n l fun u' s2 I2 ru => ⟨v, H1, I2, ru, q⟩
theorem ps_fld (ha : PE X o ta) (hv : PE X value tv) (hs : swapsWith value (some (.Attribute o f pos')) pos.line X.env = pure false) : PS X (.Assign [.Attribute o f pos'] value pos) (sFld X.K ta tv f) := by
  intro pins s σ H D I h
  refine plainObj_wpAny_Assign_Attribute (thn (hv pins s σ H _ I h) fun u s1 ⟨y, H1, I1, ry, q⟩ => thn (ha pins s1 σ H1 _ I1 q) fun ov s2 ⟨x, H2, I2, rx, a, C, dx, fs, ex, ea, c, n, l, q2⟩ => ?_) hs
  subst ex
  obtain rfl : ov = Value.ref a := rx
  exact setattr_ok I2 ea c n l ry fun s3 I3 => ⟨σ, _, I3, q2⟩
theorem ps_fldaug {op : Operator} {rd : V → V → Hp → VK → Prop} (ha : PE X o ta) (hv : PE X value tv) (hop : InOp X op rd) : PS X (.AugAssign (.Attribute o f tpos) op value pos) (sFldAug X.K ta tv rd f) := by
  intro pins s σ H D I h
  refine wpAny_AugAssign_AttributeAny (thn (ha pins s σ H _ I h) fun ov s1 ⟨x, H1, I1, rx, a, C, dx, fs, v, ex, ea, c, n, l, q⟩ => ?_)
  subst ex
  obtain rfl : ov = Value.ref a := rx
  refine getattr_ok I1 ea c n l fun u s2 I2 ru => thn (hv pins s2 σ H1 _ I2 q) fun w3 s3 ⟨y, H2, I3, ry, q3⟩ => thn (hop pins s3 σ H2 v y u w3 _ I3 ru ry q3) fun w4 s4 ⟨z, H3, I4, rz, dx', fs', ea', l', q4⟩ => ?_
  exact setattr_ok I4 ea' c n l' rz fun s5 I5 => ⟨σ, _, I5, q4⟩
def rAdd : V → V → Hp → VK → Prop := fun x y H Q => ∃ i j, x = .int i ∧ y = .int j ∧ Q (.int (i + j)) H
theorem in_add : InOp X .Add rAdd := by
  rintro pins s σ H x y u v Q I rx ry ⟨i, j, rfl, rfl, q⟩
  obtain ⟨t, rfl⟩ := (show ∃ t, u = Value.int i t from rx)
  obtain ⟨t', rfl⟩ := (show ∃ t', v = Value.int j t' from ry)
  exact PyProof.Rows.iadd_int ⟨.int (i + j), H, I.tok _, ⟨_, rfl⟩, q⟩
theorem methcall_of {pl : Sem Bool} {m : Str} {apos : Pos} {args : List Expr} {pins : List (Addr × Obj)} {s : Shared} {σ : St} {H : Hp} {Q : Value → Shared → Prop} {te : TE} (he : PE X e te) (I : Inv X pins σ H s)
    (h : te σ H fun x H1 => ∃ a C dx fs g, x = .ref a ∧ H1 a = some (.ins C dx fs) ∧ Cls X.K C ∧ Meth X.K C m g ∧ fs.lookup m = none ∧
      ∀ s1, Inv X pins σ H1 s1 → wpAny (model X.prog X.w) X.A (callWith pos (.ref g) [.ref a] (backTo pos (starEach args X.env)) (backToKw pos (keywordEach [] X.env))) Q X.xe s1)
    (ht : eval (.Call (.Attribute e m apos) args [] pos) X.env = (do
      let ov ← eval e X.env
      standAt apos.atName
      let (f, first) ← holding [ov] (getMethod ov m pl)
      callWith pos f first (backTo pos (starEach args X.env)) (backToKw pos (keywordEach [] X.env)))) :
    wpAny (model X.prog X.w) X.A (eval (.Call (.Attribute e m apos) args [] pos) X.env) Q X.xe s := by
  refine PySem.W.methodCall_KW (pl := pl) (thn (he pins s σ H _ I h) fun u s1 ⟨x, H1, I1, rx, a, C, dx, fs, g, ex, ea, c, k, l, q⟩ => ?_) ht
  subst ex
  obtain rfl : u = Value.ref a := rx
  exact getmeth_ok I1 ea c k l (q s1 I1)
end
section
variable {X : Cx} {pins : List (Addr × Obj)} {σ : St} {H : Hp} {s : Shared} {A : Around} {E : Value → Shared → Prop} {Q : Value → Shared → Prop} {c : Value} {b : Bool}
end
end L2
namespace L2
open PySem PySem.Spec PyProof.Rows
structure Room (k : Nat) (A : Around) : Prop where
  hd : A.handled = none
  dp : A.depth + 3 * k + 5 < recursionLimit
  un : A.units + 16 * k + 200 < cLine
theorem Room.mono {j k : Nat} {A : Around} (r : Room k A) (h : j ≤ k) : Room j A := ⟨r.hd, by have := r.dp; omega, by have := r.un; omega⟩
theorem Room.deeper {k : Nat} {A : Around} (r : Room (k + 1) A) (env : Env) : Room k (A.deeper env) :=
  ⟨r.hd, by have := r.dp; show A.depth + 1 + 3 * k + 5 < _; omega, by have := r.un; show A.units + 3 + 16 * k + 200 < _; omega⟩
theorem Room.in1 {k : Nat} {A : Around} (r : Room (k + 1) A) : Room k A.in1 :=
  ⟨r.hd, by have := r.dp; show A.depth + 3 * k + 5 < _; omega, by have := r.un; show A.units + 1 + 16 * k + 200 < _; omega⟩
theorem make_depth {A : Around} {C : Addr} {us : List Value} {kw : List (Str × Value)} : (A.under (.builtin "type.__call__" ⟨.ref C :: us, kw⟩)).depth = A.depth + 1 := by
  first | rfl | simp [Around.under, Code.weight, Code.isCreation, Code.isGuard, Code.isCaller, Code.frames, Code.isFrame, guardIds]
theorem make_units {A : Around} {C : Addr} {us : List Value} {kw : List (Str × Value)} : (A.under (.builtin "type.__call__" ⟨.ref C :: us, kw⟩)).units = A.units + 1 := by
  first | rfl | simp [Around.under, Code.cUnits, Code.frames, Code.isFrame]
theorem Room.make {k : Nat} {A : Around} (r : Room (k + 1) A) (C : Addr) (us : List Value) (kw : List (Str × Value)) : Room k (A.under (.builtin "type.__call__" ⟨.ref C :: us, kw⟩)) :=
  ⟨r.hd, by have := r.dp; rw [make_depth]; omega, by have := r.un; rw [make_units]; omega⟩
theorem Room.depth {k : Nat} {A : Around} (r : Room k A) : A.depth < recursionLimit := by have := r.dp; omega
theorem Room.units {k : Nat} {A : Around} (r : Room k A) : A.units + 64 < cLine := by have := r.un; omega
def tNil : TA := fun _ H Q => Q [] H
def tCons (ta : TE) (tr : TA) : TA := fun σ H Q => ta σ H fun x H1 => tr σ H1 fun xs H2 => Q (x :: xs) H2
section
variable {X : Cx} {e : Expr} {es : List Expr} {te : TE} {t : TA} {pos : Pos}
theorem pa_nil : PA X [] tNil := fun _ _ _ _ H Q I h => Calls.spliced_nil ⟨[], H, I, .nil, h⟩
theorem pa_cons (ha : PE X e te) (hr : PA X es t) (hs : starEach (e :: es) X.env = (false, eval e X.env) :: starEach es X.env := by rfl) : PA X (e :: es) (tCons te t) := by
  intro pos pins s σ H Q I h
  rw [hs]
  show wpAny _ _ (spliced ((false, eval e X.env) :: backTo pos (starEach es X.env))) _ _ s
  refine Calls.spliced_cons (thn (ha pins s σ H _ I h) fun u s1 ⟨x, H1, I1, r1, q1⟩ => ?_)
  exact thn (hr pos pins s1 σ H1 _ I1 q1) fun us s2 ⟨xs, H2, I2, r2, q2⟩ => ⟨x :: xs, H2, I2, .cons r1 r2, q2⟩
def tTup (t : TA) : TE := fun σ H Q => t σ H fun xs H1 => xs.length ≤ sizeLine ∧ ∀ p, H1 p = none → Q (.ref p) (upd H1 p (.tup xs))
def tLst (t : TA) : TE := fun σ H Q => t σ H fun xs H1 => xs.length ≤ sizeLine ∧ ∀ p, H1 p = none → Q (.ref p) (upd H1 p (.lst xs))
theorem pe_tup {x1} (h : PA X es t) : PE X (.Tuple es x1 pos) (tTup t) := by
  intro pins s σ H Q I hq
  refine wpAny_Tuple_spliced (thn (h pos pins s σ H _ I hq) fun us s1 ⟨xs, H1, I1, r, z, q⟩ => ⟨by rw [← r.length]; exact z, ?_⟩)
  have hf : H1 s1.heap.objs.size = none := I1.hok.fresh (Nat.le_refl _)
  refine ⟨.ref s1.heap.objs.size, upd H1 s1.heap.objs.size (.tup xs), I1.laid (t' := s1.toks) (fun b u e => Heap.get?_push_of_some _ e) (Nat.le_refl _) ?_, rfl, q _ hf⟩
  exact ⟨z, us, r, ⟨_, Heap.get?_push_size _ rfl, rfl, _, rfl⟩⟩
theorem pe_lst (h : PA X es t) : PE X (.List es pos) (tLst t) := by
  intro pins s σ H Q I hq
  refine wpAny_List_spliced (thn (h pos pins s σ H _ I hq) fun us s1 ⟨xs, H1, I1, r, z, q⟩ => ⟨by rw [← r.length]; exact z, ?_⟩)
  have hf : H1 s1.heap.objs.size = none := I1.hok.fresh (Nat.le_refl _)
  refine ⟨.ref s1.heap.objs.size, upd H1 s1.heap.objs.size (.lst xs), I1.laid (t' := s1.toks) (fun b u e => Heap.get?_push_of_some _ e) (Nat.le_refl _) ?_, rfl, q _ hf⟩
  exact ⟨z, us, 0, r, Heap.get?_push_size _ rfl⟩
end
abbrev Sp := List V → Hp → VK → XK → Prop
abbrev CXT := List Env → Hp → Shared → XK → Value → Shared → Prop
structure Env0 (P : Program) (w : World) (K : PySem.W.Frag) (mg : Str → Option Value) (base : Heap) (A : Around) (outer : List Env) (s : Shared) (H : Hp) : Prop where
  frames : A.frames = some outer
  mod : Mod K mg base
  bs : ∀ b o, base.get? b = some o → s.heap.get? b = some o ∧ H b = none
  bsz : base.objs.size ≤ s.heap.objs.size
  funs : s.heap.FunFrames base outer
  frf : ∀ b ∈ frs outer, H b = none
  hok : HOk P w H s.heap
  bare : AllBare s.gens
def CE (outer : List Env) (P : Program) (w : World) (H : Hp) (s : Shared) (Q : VK) (u : Value) (s' : Shared) : Prop :=
  ∃ v H', s'.os = s.os ∧ AllBare s'.gens ∧ Un (frs outer) [] H H' s.heap s'.heap ∧ HOk P w H' s'.heap ∧ RelV v u ∧ Q v H'
def CR (CX : CXT) (outer : List Env) (P : Program) (w : World) (H : Hp) (s : Shared) (Q : VK) (E : XK) (r : Result) (s' : Shared) : Prop :=
  match r with
  | .ok (.ret u) => CE outer P w H s Q u s'
  | .ok _ => False
  | .error e => CX outer H s E e s'
structure FnOk (P : Program) (w : World) (K : PySem.W.Frag) (mg : Str → Option Value) (base : Heap) (CX : CXT) (k : Nat) (f : Addr) (fd : FuncData) (ps : List Str) (sp : Sp) : Prop where
  len : ∀ vs H Q E, sp vs H Q E → vs.length = ps.length
  run : ∀ (A : Around) (outer : List Env) (s : Shared) (H : Hp) (args : Args) (us : List Value) (vs : List V) (Q : VK) (E : XK), Room k A → Env0 P w K mg base A outer s H → BindsTo s fd args (ps.zip us) → Vals vs us → sp vs H Q E →
    codeAny (model P w) A (.call (.ref f) args) (CR CX outer P w H s Q E) s
theorem FnOk.mono {P : Program} {w : World} {K : PySem.W.Frag} {mg : Str → Option Value} {base : Heap} {CX : CXT} {j k : Nat} {f : Addr} {fd : FuncData} {ps : List Str} {sp : Sp} (F : FnOk P w K mg base CX j f fd ps sp) (h : j ≤ k) :
    FnOk P w K mg base CX k f fd ps sp := ⟨F.len, fun A outer s H args us vs Q E hr => F.run A outer s H args us vs Q E (hr.mono h)⟩
theorem Env0.make {P : Program} {w : World} {K : PySem.W.Frag} {mg : Str → Option Value} {base : Heap} {A : Around} {outer : List Env} {s : Shared} {H : Hp} (e : Env0 P w K mg base A outer s H) (C : Addr) (us : List Value) (kw : List (Str × Value)) :
    Env0 P w K mg base (A.under (.builtin "type.__call__" ⟨.ref C :: us, kw⟩)) outer s H := ⟨by first | exact e.frames | (simpa [Around.under, Code.envs, Code.isFrame, pushEnvs] using e.frames), e.mod, e.bs, e.bsz, e.funs, e.frf, e.hok, e.bare⟩
theorem Env0.in1 {P : Program} {w : World} {K : PySem.W.Frag} {mg : Str → Option Value} {base : Heap} {A : Around} {outer : List Env} {s : Shared} {H : Hp} (e : Env0 P w K mg base A outer s H) :
    Env0 P w K mg base A.in1 outer s H := ⟨e.frames, e.mod, e.bs, e.bsz, e.funs, e.frf, e.hok, e.bare⟩
section
variable {X : Cx} {pins : List (Addr × Obj)} {σ : St} {H : Hp} {s s' : Shared}
theorem Inv.env0 (I : Inv X pins σ H s) : Env0 X.prog X.w X.K X.mg X.base X.A X.stack s H :=
  ⟨I.ok.frames, I.ok.mod, I.bs, Nat.le_trans I.ok.bsz I.sz, I.stack, I.stkFree, I.hok, I.bare⟩
theorem Inv.after {Q : VK} {u : Value} (I : Inv X pins σ H s) (h : CE X.stack X.prog X.w H s Q u s') : EP X pins σ Q u s' := by
  obtain ⟨v, H', os, bare, un, hok, r, q⟩ := h
  obtain ⟨hh, g, d, t, os'⟩ := s'
  obtain rfl : os' = s.os := os
  exact ⟨v, H', I.call (h' := hh) (g' := g) (d' := d) (t' := t) (ch := []) un hok bare (fun b z => absurd z (by simp)), r, q⟩
end
def tCall (sp : Sp) (dvs : List V) (E : XK) (t : TA) : TE := fun σ H Q => t σ H fun vs H1 => sp (vs ++ dvs) H1 Q E
def tMeth (C : Addr) (m : Str) (sp : Sp) (dvs : List V) (E : XK) (ta : TE) (t : TA) : TE := fun σ H Q => ta σ H fun x H1 => ∃ a dx fs, x = .ref a ∧ H1 a = some (.ins C dx fs) ∧ fs.lookup m = none ∧
  t σ H1 fun vs H2 => sp (x :: (vs ++ dvs)) H2 Q E
def tMake (C : Addr) (sp : Sp) (dvs : List V) (E : XK) (t : TA) : TE := fun σ H Q => t σ H fun vs H1 => ∀ x dx, H1 x = none → H1 dx = none → dx ≠ x →
  sp (.ref x :: (vs ++ dvs)) (upd (upd H1 dx (.own x)) x (.ins C dx [])) (fun v H2 => v = .non ∧ Q (.ref x) H2) E
def Binds (K : PySem.W.Frag) (fd : FuncData) (ps : List Str) (ds : List Value) : Prop :=
  ∀ (s : Shared) (us : List Value), K.In s.heap → (us ++ ds).length = ps.length → BindsTo s fd ⟨us, []⟩ (ps.zip (us ++ ds))
theorem Binds.all {K : PySem.W.Frag} {fd : FuncData} {ps : List Str} (h : ∀ us : List Value, us.length = ps.length → bindArgs fd ⟨us, []⟩ = pure (ps.zip us)) : Binds K fd ps [] := fun s us _ hl => by
  rw [List.append_nil] at hl ⊢
  exact .of_eq (h us hl)
def Passes (CX : CXT) (X : Cx) (E : XK) : Prop := ∀ (pins : List (Addr × Obj)) (σ : St) (H : Hp) (s : Shared) (e : Value) (s' : Shared), Inv X pins σ H s → CX X.stack H s E e s' → X.xe e s'
section
variable {X : Cx} {CX : CXT} {k : Nat} {f C : Addr} {fd : FuncData} {ps : List Str} {sp : Sp} {dvs : List V} {ds : List Value} {E : XK} {x m : Str} {p pos apos : Pos} {e o : Expr} {es : List Expr} {ta : TE} {t : TA}
theorem run_fn {pins : List (Addr × Obj)} {σ : St} {H : Hp} {s : Shared} {Q : VK} {us : List Value} {vs : List V} (F : FnOk X.prog X.w X.K X.mg X.base CX k f fd ps sp) (hr : Room k X.A) (hb : Binds X.K fd ps ds) (hd : Vals dvs ds) (hx : Passes CX X E)
    (I : Inv X pins σ H s) (r : Vals vs us) (h : sp (vs ++ dvs) H Q E) : wpAny (model X.prog X.w) X.A (call (.ref f) us) (EP X pins σ Q) X.xe s := by
  have r2 : Vals (vs ++ dvs) (us ++ ds) := r.append hd
  have hl : (us ++ ds).length = ps.length := by rw [← r2.length]; exact F.len _ _ _ _ h
  refine wpAny_call (codeAny_mono (F.run X.A X.stack s H ⟨us, []⟩ (us ++ ds) (vs ++ dvs) Q E hr I.env0 (hb s us I.kIn hl) r2 h) fun r s' hq => ?_)
  cases r with
  | error e => exact hx pins σ H s e s' I hq
  | ok fl =>
    cases fl with
    | ret u => exact I.after hq
    | next => exact False.elim hq
    | brk => exact False.elim hq
    | cont => exact False.elim hq
theorem pe_call (F : FnOk X.prog X.w X.K X.mg X.base CX k f fd ps sp) (hr : Room k X.A) (hg : Gl X x) (hm : X.mg x = some (.ref f)) (hk : PySem.W.keepIn X.K (.ref f) = true) (hb : Binds X.K fd ps ds) (hd : Vals dvs ds) (hx : Passes CX X E)
    (ha : PA X (e :: es) t) (hdb : (x == ("__debug__" : Str)) = false := by decide) (he : starEach (e :: es) X.env = (false, eval e X.env) :: starEach es X.env := by rfl) (hpl : (backTo pos (starEach es X.env)).any (·.1) = false := by rfl) :
    PE X (.Call (.Name x p) (e :: es) [] pos) (tCall sp dvs E t) := by
  intro pins s σ H Q I h
  refine wpAny_Call_Name_kw (ld_glob I hg hm ?_ hdb)
  refine PySem.W.callWith_K (h₀ := X.base) I.ok.mod.kin hk (thn (ha pos pins s σ H _ I h) fun us s1 ⟨vs, H1, I1, r, q⟩ => ⟨I1.kIn, ?_⟩) he hpl
  exact run_fn F hr hb hd hx I1 r q
theorem pe_call0 (F : FnOk X.prog X.w X.K X.mg X.base CX k f fd ps sp) (hr : Room k X.A) (hg : Gl X x) (hm : X.mg x = some (.ref f)) (hk : PySem.W.keepIn X.K (.ref f) = true) (hb : Binds X.K fd ps ds) (hd : Vals dvs ds) (hx : Passes CX X E)
    (hdb : (x == ("__debug__" : Str)) = false := by decide) : PE X (.Call (.Name x p) [] [] pos) (tCall sp dvs E tNil) := by
  intro pins s σ H Q I h
  refine wpAny_Call_Name_kw (ld_glob I hg hm ?_ hdb)
  exact PySem.W.callWith_K0 I.kIn hk (run_fn (us := []) F hr hb hd hx I .nil h)
theorem pe_meth {pl : Sem Bool} (he : PE X o ta) (c : Cls X.K C) (hm : Meth X.K C m f) (F : FnOk X.prog X.w X.K X.mg X.base CX k f fd ps sp) (hr : Room k X.A) (hb : Binds X.K fd ps ds) (hd : Vals dvs ds) (hx : Passes CX X E) (ha : PA X (e :: es) t)
    (hst : starEach (e :: es) X.env = (false, eval e X.env) :: starEach es X.env := by rfl) (hpl : (backTo pos (starEach es X.env)).any (·.1) = false := by rfl)
    (ht : eval (.Call (.Attribute o m apos) (e :: es) [] pos) X.env = (do
      let ov ← eval o X.env
      standAt apos.atName
      let (f, first) ← holding [ov] (getMethod ov m pl)
      callWith pos f first (backTo pos (starEach (e :: es) X.env)) (backToKw pos (keywordEach [] X.env))) := by rfl) :
    PE X (.Call (.Attribute o m apos) (e :: es) [] pos) (tMeth C m sp dvs E ta t) := by
  intro pins s σ H Q I h
  refine PySem.W.methodCall_KW (pl := pl) (thn (he pins s σ H _ I h) fun u s1 ⟨x, H1, I1, rx, a, dx, fs, ex, ea, l, q⟩ => ?_) ht
  subst ex
  obtain rfl : u = Value.ref a := rx
  refine getmeth_ok I1 ea c hm l ?_
  refine PySem.W.callWith_K (first := [.ref a]) (h₀ := X.base) I.ok.mod.kin hm.kp (thn (ha pos pins s1 σ H1 _ I1 q) fun us s2 ⟨vs, H2, I2, r, q2⟩ => ⟨I2.kIn, ?_⟩) hst hpl
  exact run_fn (us := .ref a :: us) (vs := .ref a :: vs) F hr hb hd hx I2 (.cons rfl r) q2
theorem pe_meth0 {pl : Sem Bool} (he : PE X o ta) (c : Cls X.K C) (hm : Meth X.K C m f) (F : FnOk X.prog X.w X.K X.mg X.base CX k f fd ps sp) (hr : Room k X.A) (hb : Binds X.K fd ps ds) (hd : Vals dvs ds) (hx : Passes CX X E)
    (ht : eval (.Call (.Attribute o m apos) [] [] pos) X.env = (do
      let ov ← eval o X.env
      standAt apos.atName
      let (f, first) ← holding [ov] (getMethod ov m pl)
      callWith pos f first (backTo pos (starEach [] X.env)) (backToKw pos (keywordEach [] X.env))) := by rfl) :
    PE X (.Call (.Attribute o m apos) [] [] pos) (tMeth C m sp dvs E ta tNil) := by
  intro pins s σ H Q I h
  refine PySem.W.methodCall_KW (pl := pl) (thn (he pins s σ H _ I h) fun u s1 ⟨x, H1, I1, rx, a, dx, fs, ex, ea, l, q⟩ => ?_) ht
  subst ex
  obtain rfl : u = Value.ref a := rx
  refine getmeth_ok I1 ea c hm l ?_
  exact PySem.W.callWith_K0 (first := [.ref a]) I1.kIn hm.kp (run_fn (us := [.ref a]) (vs := [.ref a]) F hr hb hd hx I1 (.cons rfl .nil) q)
structure Mk (K : PySem.W.Frag) (C f : Addr) : Prop where
  makes : PySem.W.makesIn K C = true
  init : PySem.W.findIn K (.ref C) "__init__" = some (some (.ref f))
  fn : PySem.W.isFn K (.ref f) = true
  kp : PySem.W.keepIn K (.ref C) = true
theorem run_make {pins : List (Addr × Obj)} {σ : St} {H : Hp} {s : Shared} {Q : VK} {us : List Value} {vs : List V} (M : Mk X.K C f) (F : FnOk X.prog X.w X.K X.mg X.base CX k f fd ps sp) (hr : Room (k + 1) X.A) (hb : Binds X.K fd ps ds) (hd : Vals dvs ds)
    (hx : Passes CX X E) (I : Inv X pins σ H s) (r : Vals vs us)
    (h : ∀ x dx, H x = none → H dx = none → dx ≠ x → sp (.ref x :: (vs ++ dvs)) (upd (upd H dx (.own x)) x (.ins C dx [])) (fun v H2 => v = .non ∧ Q (.ref x) H2) E) :
    wpAny (model X.prog X.w) X.A (call (.ref C) us) (EP X pins σ Q) X.xe s := by
  have hq := h (s.heap.objs.size + 1) s.heap.objs.size (I.hok.fresh (Nat.le_succ _)) (I.hok.fresh (Nat.le_refl _)) (Nat.ne_of_lt (Nat.lt_succ_self _))
  have I2 := Inv.made (C := C) I
  have r2 : Vals (V.ref (s.heap.objs.size + 1) :: (vs ++ dvs)) (Value.ref (s.heap.objs.size + 1) :: (us ++ ds)) := .cons rfl (r.append hd)
  have hl : (Value.ref (s.heap.objs.size + 1) :: us ++ ds).length = ps.length := by
    have e := r2.length
    rw [F.len _ _ _ _ hq] at e
    exact e.symm
  refine wpAny_call (make_map (f := f) I.kIn M.makes M.init (beq_iff_eq.mp M.fn) (codeAny_mono (F.run _ X.stack _ _ ⟨Value.ref (s.heap.objs.size + 1) :: us, []⟩ (Value.ref (s.heap.objs.size + 1) :: (us ++ ds)) _ _ E (hr.make C us [])
    (I2.env0.make C us []) (hb _ (Value.ref (s.heap.objs.size + 1) :: us) I2.kIn hl) r2 hq) fun r s' hq' => ?_))
  cases r with
  | error e => exact hx pins σ _ _ e s' I2 hq'
  | ok fl =>
    cases fl with
    | ret u =>
      obtain ⟨v, H', I3, rv, ev, q3⟩ := I2.after hq'
      subst ev
      exact ⟨rv, ⟨V.ref (s.heap.objs.size + 1), H', I3, rfl, q3⟩⟩
    | next => exact False.elim hq'
    | brk => exact False.elim hq'
    | cont => exact False.elim hq'
theorem pe_make (M : Mk X.K C f) (F : FnOk X.prog X.w X.K X.mg X.base CX k f fd ps sp) (hr : Room (k + 1) X.A) (hg : Gl X x) (hm : X.mg x = some (.ref C)) (hb : Binds X.K fd ps ds) (hd : Vals dvs ds) (hx : Passes CX X E)
    (ha : PA X (e :: es) t) (hdb : (x == ("__debug__" : Str)) = false := by decide) (he : starEach (e :: es) X.env = (false, eval e X.env) :: starEach es X.env := by rfl) (hpl : (backTo pos (starEach es X.env)).any (·.1) = false := by rfl) :
    PE X (.Call (.Name x p) (e :: es) [] pos) (tMake C sp dvs E t) := by
  intro pins s σ H Q I h
  refine wpAny_Call_Name_kw (ld_glob I hg hm ?_ hdb)
  refine PySem.W.callWith_K (h₀ := X.base) I.ok.mod.kin M.kp (thn (ha pos pins s σ H _ I h) fun us s1 ⟨vs, H1, I1, r, q⟩ => ⟨I1.kIn, ?_⟩) he hpl
  exact run_make M F hr hb hd hx I1 r q
theorem pe_make0 (M : Mk X.K C f) (F : FnOk X.prog X.w X.K X.mg X.base CX k f fd ps sp) (hr : Room (k + 1) X.A) (hg : Gl X x) (hm : X.mg x = some (.ref C)) (hb : Binds X.K fd ps ds) (hd : Vals dvs ds) (hx : Passes CX X E)
    (hdb : (x == ("__debug__" : Str)) = false := by decide) : PE X (.Call (.Name x p) [] [] pos) (tMake C sp dvs E tNil) := by
  intro pins s σ H Q I h
  refine wpAny_Call_Name_kw (ld_glob I hg hm ?_ hdb)
  exact PySem.W.callWith_K0 I.kIn M.kp (run_make (us := []) M F hr hb hd hx I .nil h)
end
section
variable {X : Cx} {CX : CXT} {k : Nat} {f C : Addr} {fd : FuncData} {ps ks : List Str} {sp : Sp} {E : XK} {x m : Str} {p pos apos kpos : Pos} {e o : Expr} {es : List Expr} {kws : List Keyword} {te ta : TE} {t tk : TA} {nm : Option Str}
variable {g : List Value → List Value → List Value} {gV : List V → List V → List V}
end
structure FnScope (N P : List Str) (sc : Scope) : Prop where
  kind : sc.kind = .function
  co : sc.isCoroutine = false
  gen : sc.isGenerator = false
  nd : N.Nodup
  pre : N.take P.length = P
  par : ∀ x ∈ P, sc.names.lookup x = some .local ∨ sc.names.lookup x = some .cell
  nofree : ∀ y ∈ sc.names, y.2 ≠ .free
theorem bindL_out {kindOf : Str → Option NameKind} {x : Str} : ∀ {binds : List (Str × Value)} {m : Str → Option Value}, (∀ v, (x, v) ∉ binds) → bindL kindOf binds m x = m x
  | [], _, _ => rfl
  | (n, v) :: r, m, h => by
    unfold bindL
    rw [bindL_out fun w hw => h w (List.mem_cons_of_mem _ hw)]
    split
    · have : x ≠ n := by rintro rfl; exact h v List.mem_cons_self
      simp [this]
    · rfl
theorem bindC_out {kindOf : Str → Option NameKind} {x : Str} : ∀ {binds : List (Str × Value)} {m : Str → Option Value}, (∀ v, (x, v) ∉ binds) → bindC kindOf binds m x = m x
  | [], _, _ => rfl
  | (n, v) :: r, m, h => by
    unfold bindC
    rw [bindC_out fun w hw => h w (List.mem_cons_of_mem _ hw)]
    split
    · rfl
    · have : x ≠ n := by rintro rfl; exact h v List.mem_cons_self
      simp [this]
theorem bindL_get {kindOf : Str → Option NameKind} {x : Str} {v : Value} : ∀ {P : List Str} {vs : List Value} {i : Nat} {m : Str → Option Value}, P.Nodup → P[i]? = some x → vs[i]? = some v → kindOf x = some .local →
    bindL kindOf (P.zip vs) m x = some v
  | [], _, _, _, _, h, _, _ => by simp at h
  | _ :: _, [], _, _, _, _, h, _ => by simp at h
  | p :: P, w :: vs, 0, m, nd, h1, h2, hk => by
    simp at h1 h2; subst h1; subst h2
    show bindL kindOf ((p, w) :: P.zip vs) m p = _
    unfold bindL
    rw [bindL_out fun v hv => (List.nodup_cons.mp nd).1 (List.of_mem_zip hv).1, if_pos hk]
    simp
  | p :: P, w :: vs, i + 1, m, nd, h1, h2, hk => by
    show bindL kindOf ((p, w) :: P.zip vs) m x = _
    unfold bindL
    exact bindL_get (i := i) (List.nodup_cons.mp nd).2 (by simpa using h1) (by simpa using h2) hk
theorem bindC_get {kindOf : Str → Option NameKind} {x : Str} {v : Value} : ∀ {P : List Str} {vs : List Value} {i : Nat} {m : Str → Option Value}, P.Nodup → P[i]? = some x → vs[i]? = some v → kindOf x ≠ some .local →
    bindC kindOf (P.zip vs) m x = some v
  | [], _, _, _, _, h, _, _ => by simp at h
  | _ :: _, [], _, _, _, _, h, _ => by simp at h
  | p :: P, w :: vs, 0, m, nd, h1, h2, hk => by
    simp at h1 h2; subst h1; subst h2
    show bindC kindOf ((p, w) :: P.zip vs) m p = _
    unfold bindC
    rw [bindC_out fun v hv => (List.nodup_cons.mp nd).1 (List.of_mem_zip hv).1, if_neg hk]
    simp
  | p :: P, w :: vs, i + 1, m, nd, h1, h2, hk => by
    show bindC kindOf ((p, w) :: P.zip vs) m x = _
    unfold bindC
    exact bindC_get (i := i) (List.nodup_cons.mp nd).2 (by simpa using h1) (by simpa using h2) hk
def start (N : List Str) (vs : List V) : St := vs.map some ++ List.replicate (N.length - vs.length) none
def cxOf (CX : CXT) (P : Program) (w : World) (K : PySem.W.Frag) (mg : Str → Option Value) (base : Heap) (N : List Str) (qual : Str) (scope : Scope) (f : Addr) (cd : Value) (A : Around) (outer : List Env) (s : Shared) (H : Hp) (E : XK) : Cx where
  prog := P
  w := w
  K := K
  mg := mg
  base := base
  A := A.deeper (envOfC qual scope s.heap.objs.size f cd)
  N := N
  s_0 := s
  H_0 := H
  env := envOfC qual scope s.heap.objs.size f cd
  outer := outer
  stack := envOfC qual scope s.heap.objs.size f cd :: outer
  ex := []
  calm := true
  fn := fun _ => true
  pn := []
  xe := fun e s' => wpAny (model P w) (A.deeper (envOfC qual scope s.heap.objs.size f cd)) (leaving (envOfC qual scope s.heap.objs.size f cd) e) (fun _ s'' => CX outer H s E e s'') (fun e' s'' => CX outer H s E e' s'') s'
theorem cell_has {sc : Scope} {n : Nat} {x : Str} (h : sc.names.lookup x = some .cell) : ∃ c, (cellsFrom n sc.names []).lookup x = some c := by
  have q := PySem.W.cellsFrom_some sc.names n [] (.inl h)
  exact Option.isSome_iff_exists.mp q
theorem inv_start {CX : CXT} {P : Program} {w : World} {K : PySem.W.Frag} {mg : Str → Option Value} {base : Heap} {N ps : List Str} {qual : Str} {scope : Scope} {f : Addr} {cd : Value} {A : Around} {outer : List Env} {s s1 : Shared} {H : Hp} {E : XK} {us : List Value} {vs : List V}
    (S : FnScope N ps scope) (hd : A.handled = none) (e0 : Env0 P w K mg base A outer s H) (hl : vs.length = ps.length) (r : Vals vs us)
    (x : InCallC s s.heap.objs.size (bindL (envOfC qual scope s.heap.objs.size f cd).kindOf (ps.zip us) fun _ => none) (cellsFrom (s.heap.objs.size + 1) scope.names []) (bindC (envOfC qual scope s.heap.objs.size f cd).kindOf (ps.zip us) fun _ => none) s1) :
    Inv (cxOf CX P w K mg base N qual scope f cd A outer s H E) [] (start N vs) H s1 := by
  have hpl : ps.length ≤ N.length := by have := congrArg List.length S.pre; rw [List.length_take] at this; omega
  obtain ⟨h1, tk, rfl, hk⟩ := x.done
  have noA : ∀ b : Addr, b ∉ (cxOf CX P w K mg base N qual scope f cd A outer s H E).ex := fun b z => absurd (show b ∈ ([] : List Addr) from z) (by simp)
  refine ⟨⟨e0.mod, S.kind, rfl, rfl, Nat.le_refl _, fun y z c h1 h2 => ?_, fun y hy => ?_, fun y c _ h => ?_, fun _ => hd, Around.frames_deeper e0.frames, .inr ⟨rfl, rfl⟩, fun b z => absurd z (noA b), e0.bs, e0.bsz, fun b _ _ => noA b, fun b z => absurd z (noA b), e0.funs, e0.frf⟩,
    rfl, e0.bare, Un.kept hk, ⟨_, x.toInCall.ns, fun i y v h1 h2 h3 => ?_⟩, fun y c h => ⟨_, x.cell y c h⟩, e0.hok.fresh (Nat.le_refl _), fun y c h => ?_, fun p hp => absurd (show p ∈ ([] : List (Addr × Obj)) from hp) (by simp), e0.hok.kept hk, ?_⟩
  · exact name_of_addr x.apart (PySem.mem_of_lookup h1) (PySem.mem_of_lookup h2)
  · have hy : scope.names.lookup y = some .cell ∨ scope.names.lookup y = some .free := hy
    rcases hy with hy | hy
    · exact cell_has hy
    · exact absurd rfl (S.nofree _ (PySem.mem_of_lookup hy))
  · exact Nat.le_of_lt (x.above y c (PySem.mem_of_lookup h))
  · have hi : i < vs.length := by
      unfold start at h2
      by_cases hi : i < vs.length
      · exact hi
      · rw [List.getElem?_append_right (by simpa using hi)] at h2
        rw [List.getElem?_replicate] at h2
        split at h2 <;> cases h2
    have ha : vs[i]? = some v := by
      unfold start at h2
      rw [List.getElem?_append_left (by simpa using hi), List.getElem?_map] at h2
      cases e : vs[i]? with
      | none => rw [e] at h2; cases h2
      | some a => rw [e] at h2; cases h2; rfl
    obtain ⟨u, hu, rv⟩ := r.get ha
    have hp : ps[i]? = some y := by
      rw [← S.pre, List.getElem?_take_of_lt (by omega)]; exact h1
    have ndP : ps.Nodup := by rw [← S.pre]; exact S.nd.sublist (List.take_sublist _ _)
    refine ⟨u, rv, ?_⟩
    rcases S.par y (List.mem_of_getElem? hp) with k | k
    · exact .inl ⟨k, bindL_get ndP hp hu k⟩
    · obtain ⟨c, e⟩ := cell_has (n := s.heap.objs.size + 1) k
      refine .inr ⟨.inl k, c, e, ?_⟩
      have q := x.cell y c e
      rw [bindC_get ndP hp hu (by show scope.names.lookup y ≠ _; rw [k]; decide)] at q
      exact q
  · exact e0.hok.fresh (Nat.le_of_lt (x.above y c (PySem.mem_of_lookup h)))
  · unfold start
    show _ = N.length
    rw [List.length_append, List.length_map, List.length_replicate]
    omega
theorem fn_of {CX : CXT} {P : Program} {w : World} {K : PySem.W.Frag} {mg : Str → Option Value} {base : Heap} {k : Nat} {f : Addr} {name qual : Str} {params : Arguments} {body : List Stmt} {scope : Scope} {dV kV doc pm cdv ct oc : Value} {an od : Option Addr}
    {osl : Array (Option Value)} {N ps : List Str} {sp : Sp} (lk : K.lookup f = some ⟨oc, od, .func (PySem.W.fnOf name qual params body scope dV kV doc pm an cdv ct), osl⟩) (hcd : PySem.W.codeIn K cdv qual = true) (S : FnScope N ps scope)
    (len : ∀ vs H Q E, sp vs H Q E → vs.length = ps.length)
    (hbody : ∀ (A : Around) (outer : List Env) (s : Shared) (H : Hp) (vs : List V) (Q : VK) (E : XK), Room k (A.deeper (envOfC qual scope s.heap.objs.size f cdv)) → sp vs H Q E →
      ∃ t, PSs (cxOf CX P w K mg base N qual scope f cdv A outer s H E) body t ∧ t { nx := fun _ H' => Q .non H', rt := Q } (start N vs) H) :
    FnOk P w K mg base CX (k + 1) f (PySem.W.fnOf name qual params body scope dV kV doc pm an cdv ct) ps sp := by
  refine ⟨len, fun A outer s H args us vs Q E hr e0 hb r hsp => ?_⟩
  have hl := len _ _ _ _ hsp
  have KX : K.In s.heap := e0.mod.kin.keeps fun b o e => (e0.bs b o e).1
  have lim : s.heap.NoLimit := e0.mod.nolimit.keeps fun b o e => (e0.bs b o e).1
  have hkind : ∀ y ∈ ps.zip us, scope.names.lookup y.1 = some .local ∨ (scope.names.lookup y.1 = some .cell ∧ ((cellsFrom (s.heap.objs.size + 1) scope.names []).lookup y.1).isSome = true) := fun ⟨n, v⟩ hy => by
    rcases S.par n (List.of_mem_zip hy).1 with q | q
    · exact .inl q
    · exact .inr ⟨q, PySem.W.cellsFrom_some _ _ _ (.inl q)⟩
  refine codeAny_call_function hr.depth (KX _ _ lk) rfl S.co S.gen rfl (PySem.W.codeRec_of KX hcd) (hb _ _ _ _ ?_)
  refine wpAny_newFunctionEnv_cells S.kind hkind fun env he s1 x => ?_
  subst he
  refine ⟨lim.keeps x.toInCall.keep, codeAny_func ?_⟩
  obtain ⟨t, ht, hq⟩ := hbody A outer s H vs Q E (hr.deeper _) hsp
  have I : Inv (cxOf CX P w K mg base N qual scope f cdv A outer s H E) [] (start N vs) H s1 := inv_start S hr.hd e0 hl r x
  refine wpAny_mono (ht [] s1 (start N vs) H _ I hq) (fun fl s' hs => ?_) fun e s' hs => hs
  have fin : ∀ {σ' : St} {H' : Hp} {v : V} {u : Value}, Inv (cxOf CX P w K mg base N qual scope f cdv A outer s H E) [] σ' H' s' → RelV v u → Q v H' → CE outer P w H s Q u s' :=
    fun {σ' H' v u} J rv q => ⟨v, H', J.os, J.bare, J.base, J.hok, rv, q⟩
  cases fl with
  | ret u =>
    obtain ⟨v, σ', H', J, rv, q⟩ := hs
    exact fin J rv q
  | next =>
    obtain ⟨σ', H', J, q⟩ := hs
    exact fin (v := V.non) (u := Value.none) J rfl q
  | brk =>
    obtain ⟨_, _, _, q⟩ := hs
    exact False.elim q
  | cont =>
    obtain ⟨_, _, _, q⟩ := hs
    exact False.elim q
end L2
namespace L2
open PySem PySem.Spec PyProof.Rows
section
variable {X : Cx} {x : Str} {p pos : Pos} {e : Expr} {es : List Expr} {t : TA} {id T : String} {r : List V → Hp → VK → Prop}
def tCB (r : List V → Hp → VK → Prop) (t : TA) : TE := fun σ H Q => t σ H fun vs H1 => r vs H1 Q
theorem pe_callB (hc : CallR X (.builtin id) r) (hg : Gl X x) (hm : X.mg x = none) (hv : bootBuiltins x = some (.builtin id)) (ha : PA X (e :: es) t) (hn : x ≠ "__name__" := by decide) (hdb : (x == ("__debug__" : Str)) = false := by decide)
    (he : starEach (e :: es) X.env = (false, eval e X.env) :: starEach es X.env := by rfl) (hpl : (backTo pos (starEach es X.env)).any (·.1) = false := by rfl) : PE X (.Call (.Name x p) (e :: es) [] pos) (tCB r t) := by
  intro pins s σ H Q I h
  refine wpAny_Call_Name_kw (ld_blt I hg hm hv ?_ hn hdb)
  exact PyProof.Rows.callWith_builtin1 (thn (ha pos pins s σ H _ I h) fun us s1 ⟨vs, H1, I1, r1, q1⟩ => hc pins s1 σ H1 vs us Q I1 r1 q1) he hpl
theorem pe_callTy (hc : CallR X (.type T) r) (hg : Gl X x) (hm : X.mg x = none) (hv : bootBuiltins x = some (.type T)) (ha : PA X (e :: es) t) (hn : x ≠ "__name__" := by decide) (hdb : (x == ("__debug__" : Str)) = false := by decide)
    (he : starEach (e :: es) X.env = (false, eval e X.env) :: starEach es X.env := by rfl) (hpl : (backTo pos (starEach es X.env)).any (·.1) = false := by rfl) : PE X (.Call (.Name x p) (e :: es) [] pos) (tCB r t) := by
  intro pins s σ H Q I h
  refine wpAny_Call_Name_kw (ld_blt I hg hm hv ?_ hn hdb)
  exact PyProof.Rows.callWith_type1 (thn (ha pos pins s σ H _ I h) fun us s1 ⟨vs, H1, I1, r1, q1⟩ => hc pins s1 σ H1 vs us Q I1 r1 q1) he hpl
end
end L2
namespace HT
open PySem PyProof.Rows
section
open PySem.SeqAt
open PySem.AutoSeq1 (wpAny_loadPart')
open PySem.MeetsSeq PySem.MeetsSeq2 PySem.MeetsSeq3
end
section
variable {prog : Program} {w : World} {A : Around} {E : Value → Shared → Prop} {s : Shared}
def sIx (n d : Nat) : Option Int → Nat
  | none => d
  | some v => if v < 0 then (v + (n : Int)).toNat else min v.toNat n
theorem sIx_nat (n d k : Nat) : sIx n d (some (k : Int)) = min k n := by
  show (if (k : Int) < 0 then ((k : Int) + (n : Int)).toNat else min (k : Int).toNat n) = min k n
  rw [if_neg (by omega), Int.toNat_natCast]
end
end HT
namespace L2
open PySem PySem.Spec PyProof.Rows
abbrev TO := St → Hp → (Option Int → Hp → Prop) → Prop
def PO (X : Cx) (e : Option Expr) (t : TO) : Prop :=
  ∀ (pins : List (Addr × Obj)) (s : Shared) (σ : St) (H : Hp) (Q : Option Int → Hp → Prop), Inv X pins σ H s → t σ H Q →
    wpAny (model X.prog X.w) X.A (evalPart e X.env) (fun u s' => ∃ o H', Inv X pins σ H' s' ∧ IsPart u o ∧ Q o H') X.xe s
def tNoPart : TO := fun _ H Q => Q none H
def tPart (t : TE) : TO := fun σ H Q => t σ H fun x H1 => ∃ i, x = .int i ∧ Q (some i) H1
section
variable {X : Cx} {e : Expr} {te : TE} {lo hi : Option Expr} {tl th : TO} {pos p2 : Pos}
theorem po_some (h : PE X e te) : PO X (some e) (tPart te) := by
  intro pins s σ H Q I hw
  rw [evalPart_some]
  refine thn (h pins s σ H _ I hw) fun u s1 ⟨x, H1, I1, r1, q1⟩ => ?_
  obtain ⟨i, rfl, q⟩ := q1
  obtain ⟨t, rfl⟩ := r1
  exact ⟨some i, H1, I1, .int i t, q⟩
def SlR (X : Cx) (r : V → Option Int → Option Int → Hp → VK → Prop) : Prop :=
  ∀ (pins : List (Addr × Obj)) (s : Shared) (σ : St) (H : Hp) (x : V) (v vl vu : Value) (lo hi : Option Int) (sl : Addr) (Q : VK), Inv X pins σ H s → RelV x v → s.heap.IsSliceOf sl vl vu .none → IsPart vl lo → IsPart vu hi → r x lo hi H Q →
    ∃ T id, typeLookup (.type T) "__getitem__" = pure (some (.builtin id)) ∧ s.TypeIs v T ∧ wpAny (model X.prog X.w) X.A (getItem v (.ref sl)) (EP X pins σ Q) X.xe s
theorem SlR.or {r r' : V → Option Int → Option Int → Hp → VK → Prop} (h : SlR X r) (h' : SlR X r') : SlR X (fun x lo hi H Q => r x lo hi H Q ∨ r' x lo hi H Q) := by
  intro pins s σ H x v vl vu lo hi sl Q I rx hs pl pu q
  rcases q with q | q
  · exact h pins s σ H x v vl vu lo hi sl Q I rx hs pl pu q
  · exact h' pins s σ H x v vl vu lo hi sl Q I rx hs pl pu q
def tSl (r : V → Option Int → Option Int → Hp → VK → Prop) (te : TE) (tl th : TO) : TE := fun σ H Q => te σ H fun x H1 => tl σ H1 fun l H2 => th σ H2 fun u H3 => r x l u H3 Q
theorem pe_slice {r : V → Option Int → Option Int → Hp → VK → Prop} (hr : SlR X r) (he : PE X e te) (hl : PO X lo tl) (hu : PO X hi th) : PE X (.Subscript e (.Slice lo hi none p2) pos) (tSl r te tl th) := by
  intro pins s σ H Q I h
  refine Subscript_ (thn (he pins s σ H _ I h) fun v s1 ⟨x, H1, I1, r1, q1⟩ => ?_)
  refine wpAny_Slice (thn (hl pins s1 σ H1 _ I1 q1) fun vl s2 ⟨l, H2, I2, pl, q2⟩ => thn (hu pins s2 σ H2 _ I2 q2) fun vu s3 ⟨u, H3, I3, pu, q3⟩ => ?_)
  rw [evalPart_none]
  refine wpAny_pure ?_
  have I4 : Inv X pins σ H3 { s3 with heap := s3.heap.push { cls := .type "slice", data := .fields #[vl, vu, .none] } } := I3.kept (t' := s3.toks) fun b ob q => Heap.get?_push_of_some _ q
  obtain ⟨T, id, hT, ht, hg⟩ := hr pins { s3 with heap := s3.heap.push { cls := .type "slice", data := .fields #[vl, vu, .none] } } σ H3 x v vl vu l u s3.heap.objs.size Q I4 r1 (Heap.IsSliceOf.new ..) pl pu q3
  show wpAny (model X.prog X.w) X.A (subscriptTail e (.Slice lo hi none p2) v (.ref s3.heap.objs.size)) (EP X pins σ Q) X.xe { s3 with heap := s3.heap.push { cls := .type "slice", data := .fields #[vl, vu, .none] } }
  exact tail_any (ops := [.ref s3.heap.objs.size, v]) ht hT hg (by with_unfolding_all rfl)
def cutV (xs : List V) (lo hi : Option Int) : List V := (xs.drop (HT.sIx xs.length 0 lo)).take (HT.sIx xs.length xs.length hi - HT.sIx xs.length 0 lo)
theorem cutV_length (xs : List V) (lo hi : Option Int) : (cutV xs lo hi).length ≤ xs.length := by
  unfold cutV
  rw [List.length_take, List.length_drop]
  omega
end
end L2
namespace L2
open PySem PySem.Spec PyProof.Rows
def ixN (n : Nat) (i : Int) : Option Nat := if 0 ≤ i then (if i < n then some i.toNat else none) else if -(n : Int) ≤ i then some (i + n).toNat else none
def atI {α : Type} (xs : List α) (i : Int) : Option α := (ixN xs.length i).bind fun j => xs[j]?
theorem ixN_seq {n : Nat} {i : Int} {j : Nat} (h : ixN n i = some j) : seqIndex? i n = some j ∧ j < n ∧ -(n : Int) ≤ i ∧ i < n := by
  unfold ixN at h
  by_cases h0 : 0 ≤ i
  · rw [if_pos h0] at h
    by_cases h1 : i < n
    · rw [if_pos h1] at h
      have e : i.toNat = j := Option.some.inj h
      exact ⟨by rw [seqIndex_of h0 h1, e], by omega, by omega, h1⟩
    · rw [if_neg h1] at h; cases h
  · rw [if_neg h0] at h
    by_cases h1 : -(n : Int) ≤ i
    · rw [if_pos h1] at h
      have e : (i + n).toNat = j := Option.some.inj h
      exact ⟨by rw [seqIndex_neg (by omega) h1, e], by omega, h1, by omega⟩
    · rw [if_neg h1] at h; cases h
theorem atI_get {α : Type} {xs : List α} {i : Int} {v : α} (h : atI xs i = some v) : ∃ j, seqIndex? i xs.length = some j ∧ xs[j]? = some v ∧ j < xs.length ∧ -(xs.length : Int) ≤ i ∧ i < xs.length := by
  unfold atI at h
  cases e : ixN xs.length i with
  | none => rw [e] at h; cases h
  | some j =>
    rw [e] at h
    obtain ⟨h1, h2, h3, h4⟩ := ixN_seq e
    exact ⟨j, h1, h, h2, h3, h4⟩
theorem atI_nat {α : Type} {xs : List α} {j : Nat} {v : α} (h : xs[j]? = some v) : atI xs (j : Int) = some v := by
  have hj : j < xs.length := (List.getElem?_eq_some_iff.mp h).1
  have e : ixN xs.length (j : Int) = some j := by
    unfold ixN
    rw [if_pos (by omega), if_pos (by omega)]; simp
  unfold atI; rw [e]; exact h
def PlainIx (b : Expr) : Prop := ∀ o i, subscripted b false o i = operate [o, i] (getItem o i)
def IxR (X : Cx) (r : R2) : Prop :=
  ∀ (value slice : Expr) (pins : List (Addr × Obj)) (s : Shared) (σ : St) (H : Hp) (x y : V) (v u : Value) (Q : VK), Inv X pins σ H s → RelV x v → RelV y u → r x y H Q →
    subscripted slice false v u = operate [v, u] (getItem v u) → wpAny (model X.prog X.w) X.A (subscriptTail value slice v u) (EP X pins σ Q) X.xe s
def MtR (X : Cx) (id : String) (r : V → List V → Hp → VK → Prop) : Prop :=
  ∀ (pins : List (Addr × Obj)) (s : Shared) (σ : St) (H : Hp) (x : V) (xs : List V) (v : Value) (us : List Value) (Q : VK), Inv X pins σ H s → RelV x v → Vals xs us → r x xs H Q →
    wpAny (model X.prog X.w) X.A (call (.builtin id) (v :: us)) (EP X pins σ Q) X.xe s
section
variable {X : Cx} {a b : Expr} {ta tb : TE} {pos : Pos}
theorem IxR.or {r r' : R2} (h : IxR X r) (h' : IxR X r') : IxR X (fun x y H Q => r x y H Q ∨ r' x y H Q) := by
  intro value slice pins s σ H x y v u Q I rx ry q hs
  rcases q with q | q
  · exact h value slice pins s σ H x y v u Q I rx ry q hs
  · exact h' value slice pins s σ H x y v u Q I rx ry q hs
theorem MtR.or {id : String} {r r' : V → List V → Hp → VK → Prop} (h : MtR X id r) (h' : MtR X id r') : MtR X id (fun x xs H Q => r x xs H Q ∨ r' x xs H Q) := by
  intro pins s σ H x xs v us Q I rx rs q
  rcases q with q | q
  · exact h pins s σ H x xs v us Q I rx rs q
  · exact h' pins s σ H x xs v us Q I rx rs q
theorem pe_ix {r : R2} (hr : IxR X r) (ha : PE X a ta) (hb : PE X b tb) (hs : PlainIx b) : PE X (.Subscript a b pos) (tOp r ta tb) := by
  intro pins s σ H Q I h
  exact Subscript_ (binT ha hb I h fun v u s2 x y H2 I2 rx ry q => hr a b pins s2 σ H2 x y v u Q I2 rx ry q (hs _ _))
def rIxL (K : PySem.W.Frag) : R2 := fun x y H Q => ∃ p xs i v, x = .ref p ∧ y = .int i ∧ SqL K H p xs ∧ atI xs i = some v ∧ Q v H
def rIxT (K : PySem.W.Frag) : R2 := fun x y H Q => ∃ p xs i v, x = .ref p ∧ y = .int i ∧ SqT K H p xs ∧ atI xs i = some v ∧ Q v H
theorem ix_list : IxR X (rIxL X.K) := by
  intro value slice pins s σ H x y v u Q I rx ry h hs
  obtain ⟨p, xs, i, z, rfl, rfl, hq, he, q⟩ := h
  cases rx
  obtain ⟨t, rfl⟩ := ry
  obtain ⟨its, r, pl, hz⟩ := I.list hq
  obtain ⟨j, h1, h2, h3, h4, h5⟩ := atI_get he
  obtain ⟨w, ew, rw'⟩ := r.get h2
  have hl := r.length
  have hn := line63
  have fin : EP X pins σ Q w s := ⟨z, H, I, rw', q⟩
  by_cases h0 : 0 ≤ i
  · have hj : i.toNat = j := by
      rw [seqIndex_of h0 h5] at h1
      exact Option.some.inj h1
    exact item_listR pl.isList h0 (by omega) (by rw [hj]; simpa using ew) fin hs
  · have hj : (i + (its.toArray.size : Int)).toNat = j := by
      rw [seqIndex_neg (by omega) h4] at h1
      rw [List.size_toArray, ← hl]
      exact Option.some.inj h1
    exact subscriptTail_builtinR (x := w) pl.isList.typeIs slot_list_getitem.lookup
      (wpAny_getItem_list_neg (Q := fun r s' => r = w ∧ EP X pins σ Q r s') pl.isList (by omega) (by rw [List.size_toArray] <;> omega) (by omega) (by rw [hj]; simpa using ew) ⟨rfl, fin⟩) hs
theorem ix_tup : IxR X (rIxT X.K) := by
  intro value slice pins s σ H x y v u Q I rx ry h hs
  obtain ⟨p, xs, i, z, rfl, rfl, hq, he, q⟩ := h
  cases rx
  obtain ⟨t, rfl⟩ := ry
  obtain ⟨its, r, pl, hz⟩ := I.tuple hq
  obtain ⟨j, h1, h2, h3, h4, h5⟩ := atI_get he
  obtain ⟨w, ew, rw'⟩ := r.get h2
  have hl := r.length
  have hn := line63
  have fin : EP X pins σ Q w s := ⟨z, H, I, rw', q⟩
  exact subscriptTail_builtinR (x := w) pl.typeIs slot_tuple_getitem.lookup
    (getItem_tuple (j := j) (Q := fun r s' => r = w ∧ EP X pins σ Q r s') pl (by omega) (by omega) (by rw [List.size_toArray, ← hl]; exact h1) (by simpa using ew) ⟨rfl, fin⟩) hs
theorem mapSeq_set (its : List Value) (n j : Nat) (u : Value) : Obj.mapSeq (·.setIfInBounds j u) { cls := .type "list", data := .seq its.toArray n } = { cls := .type "list", data := .seq (its.set j u).toArray n } := by
  simp [Obj.mapSeq]
theorem Inv.lst {pins : List (Addr × Obj)} {σ : St} {H : Hp} {s : Shared} {p : Addr} {xs : List V} (I : Inv X pins σ H s) (h : H p = some (.lst xs)) :
    ∃ (its : List Value) (n : Nat), Vals xs its ∧ s.heap.get? p = some { cls := .type "list", data := .seq its.toArray n } ∧ xs.length ≤ sizeLine := by
  obtain ⟨z, its, n, r, e⟩ := I.hok p _ h
  exact ⟨its, n, r, e, z⟩
theorem Inv.lstUpd {pins : List (Addr × Obj)} {σ : St} {H : Hp} {s : Shared} {p : Addr} {xs ys : List V} {its its' : List Value} {n n' : Nat} {f : Obj → Obj} (I : Inv X pins σ H s) (h : H p = some (.lst xs))
    (ho : s.heap.get? p = some { cls := .type "list", data := .seq its.toArray n }) (hf : f { cls := .type "list", data := .seq its.toArray n } = { cls := .type "list", data := .seq its'.toArray n' }) (r : Vals ys its') (hz : ys.length ≤ sizeLine) (t : Nat) :
    Inv X pins σ (upd H p (.lst ys)) { s with heap := s.heap.update p f, toks := t } := by
  have e : (s.heap.update p f).get? p = some { cls := .type "list", data := .seq its'.toArray n' } := by
    rw [Heap.get?_update_self f ho (by rw [hf] <;> rfl), hf]
  refine I.write (x := p) (e := p) (by rw [h]; trivial) (.inl rfl) (fun b u hb q => (Heap.get?_update_other _ _ (Ne.symm hb)).trans q) ⟨_, e⟩ ?_
  exact ⟨hz, its', n', r, e⟩
def rSetL : V → V → V → Hp → (Hp → Prop) → Prop := fun o i v H Q => ∃ p xs k j, o = .ref p ∧ i = .int k ∧ H p = some (.lst xs) ∧ ixN xs.length k = some j ∧ Q (upd H p (.lst (xs.set j v)))
theorem set_list : PSet X rSetL := by
  intro pins s σ H o i v ov iv u Q I ro ri rv h
  obtain ⟨p, xs, k, j, rfl, rfl, hp, hj, q⟩ := h
  cases ro
  obtain ⟨t, rfl⟩ := ri
  obtain ⟨its, n, r, ho, hz⟩ := I.lst hp
  obtain ⟨h1, h2, h3, h4⟩ := ixN_seq hj
  have hl := r.length
  have hn := line63
  have I' : Inv X pins σ (upd H p (.lst (xs.set j v))) { s with heap := s.heap.update p (Obj.mapSeq (·.setIfInBounds j u)) } :=
    I.lstUpd hp ho (mapSeq_set its n j u) (r.set rv j) (by rw [List.length_set]; exact hz) s.toks
  by_cases h0 : 0 ≤ k
  · have hk : k.toNat = j := by
      rw [seqIndex_of h0 h4] at h1
      exact Option.some.inj h1
    exact PySem.W.ki_setAt ho h0 (by omega) (by rw [List.size_toArray, ← hl]; exact h4) (by rw [hk]; exact ⟨_, I', q⟩)
  · have hk : (k + (its.toArray.size : Int)).toNat = j := by
      rw [seqIndex_neg (by omega) h3] at h1
      rw [List.size_toArray, ← hl]
      exact Option.some.inj h1
    exact PySem.W.ki_setBack ho (by omega) (by rw [List.size_toArray, ← hl]; exact h3) (by omega) (by rw [hk]; exact ⟨_, I', q⟩)
theorem slice_bounds (lo hi : Option Int) (n : Nat) : (sliceBounds lo hi none n).1 = ((HT.sIx n 0 lo : Nat) : Int) ∧ (sliceBounds lo hi none n).2.1 = ((HT.sIx n n hi : Nat) : Int) ∧ (sliceBounds lo hi none n).2.2 = 1 := by
  refine ⟨?_, ?_, rfl⟩
  · cases lo with
    | none => simp [sliceBounds, HT.sIx]
    | some i =>
      simp only [sliceBounds, HT.sIx, Option.getD_none, show (1 : Int) > 0 by decide, if_true]
      by_cases h : i < 0
      · simp only [h, if_true] <;> omega
      · simp only [h, if_false] <;> omega
  · cases hi with
    | none => simp [sliceBounds, HT.sIx]
    | some i =>
      simp only [sliceBounds, HT.sIx, Option.getD_none, show (1 : Int) > 0 by decide, if_true]
      by_cases h : i < 0
      · simp only [h, if_true] <;> omega
      · simp only [h, if_false] <;> omega
theorem slicePick_cut (its : List Value) (lo hi : Option Int) : slicePick its.toArray lo hi none = ((its.drop (HT.sIx its.length 0 lo)).take (HT.sIx its.length its.length hi - HT.sIx its.length 0 lo)).toArray := by
  obtain ⟨h1, h2, h3⟩ := slice_bounds lo hi its.toArray.size
  unfold slicePick
  rw [h1, h2, h3]
  simp only [sliceRange_one, pick_run, List.size_toArray] <;> rfl
def rSlL (K : PySem.W.Frag) : V → Option Int → Option Int → Hp → VK → Prop := fun x lo hi H Q => ∃ a xs, x = .ref a ∧ SqL K H a xs ∧ ∀ p, H p = none → Q (.ref p) (upd H p (.lst (cutV xs lo hi)))
theorem sl_list : SlR X (rSlL X.K) := by
  intro pins s σ H x v vl vu lo hi sl Q I rx hs pl pu h
  obtain ⟨a, xs, rfl, hx, q⟩ := h
  cases rx
  obtain ⟨its, r, ht, hz⟩ := I.list hx
  have hlen := r.length
  refine ⟨"list", _, slot_list_getitem.lookup, ht.isList.typeIs, ?_⟩
  refine wpAny_getItem_list_slice ht.isList hs pl pu .none (by simp) ?_ (by rw [List.size_toArray] <;> omega)
  rw [slicePick_cut, ← hlen]
  refine ⟨.ref s.heap.objs.size, _, I.laid (t' := s.toks) (o := .lst (cutV xs lo hi)) (fun b ob q => Heap.get?_push_of_some _ q) (Nat.le_refl _) ?_, rfl, q _ (I.hok.fresh (Nat.le_refl _))⟩
  exact ⟨Nat.le_trans (cutV_length xs lo hi) hz, _, 0, (r.drop (HT.sIx xs.length 0 lo)).take (HT.sIx xs.length xs.length hi - HT.sIx xs.length 0 lo), Heap.get?_push_size _ rfl⟩
def flatV : V → Bool
  | .non => true
  | .bl _ => true
  | .int _ => true
  | .str _ => true
  | _ => false
def eqV : V → V → Bool
  | .non, .non => true
  | .bl a, .bl b => a == b
  | .bl a, .int b => (if a then 1 else 0) == b
  | .int a, .bl b => a == (if b then 1 else 0)
  | .int a, .int b => a == b
  | .str a, .str b => a == b
  | _, _ => false
theorem eqAt_V {A : Around} {s : Shared} {y x : V} {u v : Value} (ry : RelV y u) (rx : RelV x v) (fy : flatV y = true) (fx : flatV x = true) : SeqAt.EqAt A s u v (eqV y x) := by
  cases y with
  | non =>
    cases ry
    cases x with
    | non => cases rx; exact SeqAt.EqAt.same _
    | bl b => cases rx; exact SeqAt.EqAt.none_bool b
    | int b => obtain ⟨t, rfl⟩ := rx; exact SeqAt.EqAt.none_int b t
    | str b => obtain ⟨t, rfl⟩ := rx; exact SeqAt.EqAt.none_str b t
    | _ => exact absurd (show false = true from fx) Bool.false_ne_true
  | bl a =>
    cases ry
    cases x with
    | non => cases rx; exact SeqAt.EqAt.bool_none a
    | bl b => cases rx; exact SeqAt.EqAt.bool_bool a b
    | int b => obtain ⟨t, rfl⟩ := rx; exact SeqAt.EqAt.bool_int a b t
    | str b => obtain ⟨t, rfl⟩ := rx; exact SeqAt.EqAt.bool_str a b t
    | _ => exact absurd (show false = true from fx) Bool.false_ne_true
  | int a =>
    obtain ⟨t', rfl⟩ := ry
    cases x with
    | non => cases rx; exact SeqAt.EqAt.int_none a t'
    | bl b => cases rx; exact SeqAt.EqAt.int_bool a t' b
    | int b => obtain ⟨t, rfl⟩ := rx; exact SeqAt.EqAt.int_int a t' b t
    | str b => obtain ⟨t, rfl⟩ := rx; exact SeqAt.EqAt.int_str a t' b t
    | _ => exact absurd (show false = true from fx) Bool.false_ne_true
  | str a =>
    obtain ⟨t', rfl⟩ := ry
    cases x with
    | non => cases rx; exact SeqAt.EqAt.str_none a t'
    | bl b => cases rx; exact SeqAt.EqAt.str_bool a t' b
    | int b => obtain ⟨t, rfl⟩ := rx; exact SeqAt.EqAt.str_int a t' b t
    | str b => obtain ⟨t, rfl⟩ := rx; exact SeqAt.EqAt.str_str a t' b t
    | _ => exact absurd (show false = true from fx) Bool.false_ne_true
  | _ => exact absurd (show false = true from fy) Bool.false_ne_true
def eqU (x : V) (u : Value) : Bool := match u with
  | .none => eqV .non x
  | .bool b => eqV (.bl b) x
  | .int i _ => eqV (.int i) x
  | .str z _ => eqV (.str z) x
  | _ => false
theorem eqU_of {x y : V} {u : Value} (r : RelV y u) (f : flatV y = true) : eqU x u = eqV y x := by
  cases y with
  | non => cases r; rfl
  | bl b => cases r; rfl
  | int i => obtain ⟨t, rfl⟩ := r; rfl
  | str z => obtain ⟨t, rfl⟩ := r; rfl
  | _ => exact absurd (show false = true from f) Bool.false_ne_true
theorem any_eqU {x : V} : ∀ {xs : List V} {us : List Value}, Vals xs us → xs.all flatV = true → us.any (eqU x) = xs.any fun y => eqV y x
  | _, _, .nil, _ => rfl
  | y :: xs, u :: us, .cons r t, f => by
    rw [List.all_cons, Bool.and_eq_true] at f
    rw [List.any_cons, List.any_cons, eqU_of r f.1, any_eqU t f.2]
theorem mem_eqAt {A : Around} {s : Shared} {x : V} {v : Value} (rx : RelV x v) (fx : flatV x = true) : ∀ {xs : List V} {us : List Value}, Vals xs us → xs.all flatV = true → ∀ u ∈ us, SeqAt.EqAt A s u v (eqU x u)
  | _, _, .nil, _ => fun u hu => by cases hu
  | y :: xs, u :: us, .cons r t, f => fun u' hu => by
    rw [List.all_cons, Bool.and_eq_true] at f
    rcases List.mem_cons.mp hu with rfl | hu
    · rw [eqU_of r f.1]; exact eqAt_V r rx f.1 fx
    · exact mem_eqAt rx fx t f.2 u' hu
def inV (x : V) (xs : List V) : Bool := xs.any fun y => eqV y x
def rIn (K : PySem.W.Frag) (neg : Bool) : R2 := fun x y H Q => ∃ p xs, y = .ref p ∧ (SqL K H p xs ∨ SqT K H p xs) ∧ flatV x = true ∧ xs.all flatV = true ∧ Q (.bl (if neg then !inV x xs else inV x xs)) H
theorem op_in_seq : OpR X (compareOp .In) (rIn X.K false) := by
  intro pins s σ H x y v u Q I rx ry h
  obtain ⟨p, xs, rfl, hq, fx, fs, q⟩ := h
  cases ry
  rcases hq with hq | hq
  · obtain ⟨its, r, pl, hz⟩ := I.list hq
    refine SeqAt.in_listAt (eqU x) pl.isList (fun w hw => mem_eqAt rx fx r fs w (by simpa using hw)) ⟨.bl _, H, I, rfl, ?_⟩
    rw [show its.toArray.any (eqU x) = its.any (eqU x) by simp, any_eqU r fs]
    exact q
  · obtain ⟨its, r, pl, hz⟩ := I.tuple hq
    refine SeqAt.in_tupleAt (eqU x) pl (fun w hw => mem_eqAt rx fx r fs w (by simpa using hw)) ⟨.bl _, H, I, rfl, ?_⟩
    rw [show its.toArray.any (eqU x) = its.any (eqU x) by simp, any_eqU r fs]
    exact q
theorem call_len_seq : CallR X (.builtin "len") (fun xs H Q => ∃ p ys, xs = [.ref p] ∧ (SqL X.K H p ys ∨ SqT X.K H p ys) ∧ Q (.int ys.length) H) := by
  intro pins s σ H xs us Q I r h
  obtain ⟨p, ys, rfl, hq, q⟩ := h
  obtain ⟨u, rfl, rx⟩ := vals1 r
  cases rx
  have hn := line63
  rcases hq with hq | hq
  · obtain ⟨its, r', pl, hz⟩ := I.list hq
    have hlen := r'.length
    exact Calls.call_len_list pl.isList (by simp only [List.size_toArray] <;> omega) ⟨.int ys.length, H, I.tok _, ⟨s.toks + 1, by rw [List.size_toArray, hlen]⟩, q⟩
  · obtain ⟨its, r', pl, hz⟩ := I.tuple hq
    have hlen := r'.length
    exact len_tuple pl (by simp only [List.size_toArray] <;> omega) ⟨.int ys.length, H, I.tok _, ⟨s.toks + 1, by rw [List.size_toArray, hlen]⟩, q⟩
theorem CallR.or {f : Value} {r r' : List V → Hp → VK → Prop} (h : CallR X f r) (h' : CallR X f r') : CallR X f (fun xs H Q => r xs H Q ∨ r' xs H Q) := by
  intro pins s σ H xs us Q I rs q
  rcases q with q | q
  · exact h pins s σ H xs us Q I rs q
  · exact h' pins s σ H xs us Q I rs q
theorem call_list_of : CallR X (.type "list") (fun xs H Q => ∃ p ys, xs = [.ref p] ∧ (SqL X.K H p ys ∨ SqT X.K H p ys) ∧ ∀ l, H l = none → Q (.ref l) (upd H l (.lst ys))) := by
  intro pins s σ H xs us Q I r h
  obtain ⟨p, ys, rfl, hq, q⟩ := h
  obtain ⟨u, rfl, rx⟩ := vals1 r
  cases rx
  have fin : ∀ (its : List Value), Vals ys its → ys.length ≤ sizeLine → ∀ (h' : Heap) (c' : Nat), (∀ b o', s.heap.get? b = some o' → h'.get? b = some o') →
      h'.get? s.heap.objs.size = some { cls := .type "list", dict := none, data := .seq its.toArray c', slots := #[] } → EP X pins σ Q (.ref s.heap.objs.size) { s with heap := h' } := fun its r' hz h' c' kp e =>
    ⟨.ref s.heap.objs.size, _, I.laid (t' := s.toks) kp (Nat.le_refl _) (show ObjOk X.prog X.w _ h' _ (.lst ys) from ⟨hz, its, c', r', e⟩), rfl, q _ (I.hok.fresh (Nat.le_refl _))⟩
  rcases hq with hq | hq
  · obtain ⟨its, r', pl, hz⟩ := I.list hq
    have hlen := r'.length
    obtain ⟨o, ho, hc, n, hd⟩ := pl.isList
    exact call_list_seq p (.inl rfl) ho hc hd (fun h' c' kp e => fin its r' hz h' c' kp e) (by simp only [List.size_toArray] <;> omega)
  · obtain ⟨its, r', pl, hz⟩ := I.tuple hq
    have hlen := r'.length
    obtain ⟨o, ho, hc, n, hd⟩ := pl
    exact call_list_seq p (.inr rfl) ho hc hd (fun h' c' kp e => fin its r' hz h' c' kp e) (by simp only [List.size_toArray] <;> omega)
def tyV (K : PySem.W.Frag) (T : String) (x : V) (H : Hp) : Prop := match x with
  | .str _ => T = "str"
  | .int _ => T = "int"
  | .ref p => (T = "list" ∧ ∃ xs, SqL K H p xs) ∨ (T = "tuple" ∧ ∃ o, K.lookup p = some o ∧ o.cls = .type "tuple" ∧ o.dict = none) ∨
      (T = "dict" ∧ ((∃ kvs, H p = some (.dK kvs)) ∨ ∃ kvs, H p = some (.dT kvs))) ∨ (T = "set" ∧ ∃ S n, H p = some (.set S n))
  | _ => False
theorem tyV_is {pins : List (Addr × Obj)} {σ : St} {H : Hp} {s : Shared} {T : String} {x : V} {v : Value} (I : Inv X pins σ H s) (r : RelV x v) (ty : tyV X.K T x H) :
    s.TypeIs v T ∧ ∀ a, v = .ref a → ∃ ob, s.heap.get? a = some ob ∧ ob.dict = none := by
  cases x with
  | str z =>
    obtain ⟨t, rfl⟩ := r
    cases (show T = "str" from ty)
    exact ⟨typeIs_str s z t, fun _ e => nomatch e⟩
  | int i =>
    obtain ⟨t, rfl⟩ := r
    cases (show T = "int" from ty)
    exact ⟨typeIs_int s i t, fun _ e => nomatch e⟩
  | ref p =>
    cases r
    rcases ty with ⟨rfl, xs, hq⟩ | ⟨rfl, o, hk, hc, hd⟩ | ⟨rfl, hk⟩ | ⟨rfl, S, n, hk⟩
    · obtain ⟨its, _, pl, _⟩ := I.list hq
      refine ⟨pl.isList.typeIs, fun a e => ?_⟩
      cases e
      obtain ⟨o, n, e, c, hd, _⟩ := pl
      exact ⟨o, e, hd⟩
    · refine ⟨⟨o, I.kIn p o hk, hc⟩, fun a e => ?_⟩
      cases e
      exact ⟨o, I.kIn _ o hk, hd⟩
    · have z : ∃ o, s.heap.get? p = some o ∧ o.ExactDict := by
        rcases hk with ⟨kvs, hk⟩ | ⟨kvs, hk⟩
        · obtain ⟨_, _, _, _, o, _, _, e, ex, _⟩ := I.hok p _ hk
          exact ⟨o, e, ex⟩
        · obtain ⟨_, _, _, _, o, _, _, e, ex, _⟩ := I.hok p _ hk
          exact ⟨o, e, ex⟩
      obtain ⟨o, e, ex⟩ := z
      refine ⟨⟨o, e, ex.1⟩, fun a e2 => ?_⟩
      cases e2
      exact ⟨o, e, ex.2.1⟩
    · obtain ⟨o, _, _, _, e, ex, _⟩ := I.hok p _ hk
      refine ⟨⟨o, e, ex.1⟩, fun a e2 => ?_⟩
      cases e2
      exact ⟨o, e, ex.2.1⟩
  | _ => exact False.elim ty
def tBM0 (K : PySem.W.Frag) (T : String) (r : V → List V → Hp → VK → Prop) (to : TE) : TE := fun σ H Q => to σ H fun x H1 => tyV K T x H1 ∧ r x [] H1 Q
def tBM (K : PySem.W.Frag) (T : String) (r : V → List V → Hp → VK → Prop) (to : TE) (t : TA) : TE := fun σ H Q => to σ H fun x H1 => tyV K T x H1 ∧ t σ H1 fun xs H2 => r x xs H2 Q
variable {o e : Expr} {es : List Expr} {to : TE} {t : TA} {name : Str} {apos cpos : Pos} {T id : String} {r : V → List V → Hp → VK → Prop}
theorem pe_bm (pa : PlainAttrs T) (slot : Slot T name id) (hty : typeOf (.builtin id) = pure (.type "method_descriptor")) (hm : MtR X id r) (ho : PE X o to) (ha : PA X (e :: es) t)
    (hbase : attributeBase o name X.env (eval o X.env) = eval o X.env := by rfl)
    (hfew : ((backTo cpos (starEach (e :: es) X.env)).all (fun x => !x.1) && (backToKw cpos (keywordEach [] X.env)).all (fun x => x.1.isSome)
      && decide ((e :: es).length + ([] : List Keyword).length + (if ([] : List Keyword).isEmpty then 0 else 1) < 30)) = true := by rfl)
    (hline : (apos.endLine == cpos.line) = true := by rfl) (hs : starEach (e :: es) X.env = (false, eval e X.env) :: starEach es X.env := by rfl) (hplain : (backTo cpos (starEach es X.env)).any (·.1) = false := by rfl) :
    PE X (.Call (.Attribute o name apos) (e :: es) [] cpos) (tBM X.K T r to t) := by
  intro pins s σ H Q I h
  refine wpAny_Call_method_late hbase hfew hline rfl (thn (ho pins s σ H _ I h) fun v s1 ⟨x, H1, I1, r1, ty, q1⟩ => ?_)
  obtain ⟨h1, h2⟩ := tyV_is I1 r1 ty
  refine ⟨T, id, pa, slot, hty, h1, h2, ?_⟩
  have hA := ha cpos pins s1 σ H1 _ I1 q1
  rw [hs] at hA ⊢
  refine Calls.callWith_builtin (by show (false || (backTo cpos (starEach es X.env)).any (·.1)) = false; rw [hplain] <;> rfl) (Calls.evalArgs_plain ?_)
  exact thn hA fun us s2 ⟨vs, H2, I2, r2, q2⟩ => hm pins s2 σ H2 x vs v us Q I2 r1 r2 q2
end
end L2
namespace L2
open PySem PySem.Spec PyProof.Rows
def MtM (X : Cx) (id : String) (r : V → List V → Hp → VK → Prop) : Prop :=
  ∀ (pins : List (Addr × Obj)) (s : Shared) (σ : St) (H : Hp) (x : V) (xs : List V) (v : Value) (us : List Value) (Q : VK), Inv X pins σ H s → RelV x v → Vals xs us → r x xs H Q →
    wpAny (model X.prog X.w) X.A (call (.builtin id) (v :: us)) (EP X pins σ Q) X.xe s
theorem Vals.one : ∀ {x : V} {us : List Value}, Vals [x] us → ∃ u, us = [u] ∧ RelV x u
  | _, _, .cons r .nil => ⟨_, rfl, r⟩
theorem Vals.two : ∀ {x y : V} {us : List Value}, Vals [x, y] us → ∃ u v, us = [u, v] ∧ RelV x u ∧ RelV y v
  | _, _, _, .cons r (.cons q .nil) => ⟨_, _, rfl, r, q⟩
theorem Vals.zero : ∀ {us : List Value}, Vals [] us → us = []
  | _, .nil => rfl
section
variable {X : Cx} {pins : List (Addr × Obj)} {σ : St} {H : Hp} {s : Shared} {l b : Addr} {xs ys zs : List V}
theorem Inv.lset {its its' : List Value} {n : Nat} {f : Array Value → Array Value} {t' : Nat} (I : Inv X pins σ H s) (hH : H l = some (.lst xs))
    (e : s.heap.get? l = some { cls := .type "list", data := .seq its.toArray n }) (hf : f its.toArray = its'.toArray) (hv : Vals ys its') (hz : ys.length ≤ sizeLine) :
    Inv X pins σ (upd H l (.lst ys)) { s with heap := s.heap.update l (Obj.mapSeq f), toks := t' } := by
  have q := PySem.IsL.update e f
  rw [hf] at q
  refine I.write (x := l) (e := l) (by rw [hH]; exact trivial) (.inl rfl) (fun b' u hb hu => (Heap.get?_update_other s.heap (Obj.mapSeq f) (Ne.symm hb)).trans hu) ⟨_, q⟩ ?_
  exact ⟨hz, its', _, hv, q⟩
theorem Inv.lnew {its : List Value} {t' : Nat} (I : Inv X pins σ H s) (hv : Vals ys its) (hz : ys.length ≤ sizeLine) :
    Inv X pins σ (upd H s.heap.objs.size (.lst ys)) { s with heap := s.heap.push { cls := .type "list", data := .seq its.toArray }, toks := t' } :=
  I.laid (fun _ _ q => Heap.get?_push_of_some _ q) (Nat.le_refl _) ⟨hz, its, 0, hv, Heap.get?_push_size _ rfl⟩
theorem Inv.fresh (I : Inv X pins σ H s) : H s.heap.objs.size = none := I.hok.fresh (Nat.le_refl _)
theorem Inv.lstM (I : Inv X pins σ H s) (hH : H l = some (.lst xs)) : xs.length ≤ sizeLine ∧ ∃ (its : List Value) (n : Nat), Vals xs its ∧ xs.length = its.length ∧ s.heap.get? l = some { cls := .type "list", data := .seq its.toArray n } := by
  obtain ⟨z, its, n, r, e⟩ := I.hok l _ hH
  exact ⟨z, its, n, r, r.length, e⟩
theorem notLongL {n : Nat} (h : n ≤ sizeLine) : Builtin.List.listTooLong n = false := by
  unfold Builtin.List.listTooLong
  exact decide_eq_false (by omega)
end
section
variable {X : Cx}
def rAppend : V → List V → Hp → VK → Prop := fun x vs H Q => ∃ l xs y, x = .ref l ∧ vs = [y] ∧ H l = some (.lst xs) ∧ xs.length < sizeLine ∧ Q .non (upd H l (.lst (xs ++ [y])))
theorem mt_append : MtM X "list.append" rAppend := by
  intro pins s σ H x vs v us Q I rx rv h
  obtain ⟨l, xs, y, rfl, rfl, hH, hz, q⟩ := h
  cases rx
  obtain ⟨u, rfl, ru⟩ := rv.one
  obtain ⟨z, its, n, r, hl, e⟩ := I.lstM hH
  refine call_meets F.slot_list_append ⟨_, e, rfl⟩ F.entry_list_append (F.args_list_append_2 _ _) (PySem.list_append l its.toArray n u (by rw [List.size_toArray]; omega)) ⟨e, ?_⟩
  refine ⟨.non, _, I.lset (its' := its ++ [u]) hH e (by simp) (r.append (.cons ru .nil)) ?_, rfl, q⟩
  rw [List.length_append, List.length_singleton]
  omega
def rExtend : V → List V → Hp → VK → Prop := fun x vs H Q => ∃ l b xs zs, x = .ref l ∧ vs = [.ref b] ∧ H l = some (.lst xs) ∧ H b = some (.lst zs) ∧ xs.length + zs.length ≤ sizeLine ∧ Q .non (upd H l (.lst (xs ++ zs)))
theorem mt_extend : MtM X "list.extend" rExtend := by
  intro pins s σ H x vs v us Q I rx rv h
  obtain ⟨l, b, xs, zs, rfl, rfl, hH, hB, hz, q⟩ := h
  cases rx
  obtain ⟨u, rfl, ru⟩ := rv.one
  cases ru
  obtain ⟨z, its, n, r, hl, e⟩ := I.lstM hH
  obtain ⟨z2, its2, n2, r2, hl2, e2⟩ := I.lstM hB
  have hsz : its.toArray.size + its2.toArray.size ≤ sizeLine := by rw [List.size_toArray, List.size_toArray]; omega
  have hlong : ¬ (!its.toArray.isEmpty && Builtin.List.listTooLong (its.toArray.size + its2.toArray.size)) = true := by
    rw [notLongL hsz, Bool.and_false]
    exact Bool.false_ne_true
  refine call_meets F.slot_list_extend ⟨_, e, rfl⟩ F.entry_list_extend (F.args_list_extend_2 _ _)
    (AutoSeq1.list_extend_list_list_0 l its.toArray n b its2.toArray n2 hlong (by rw [List.size_toArray]; omega) (by omega)) ⟨e, e2, ?_⟩
  refine ⟨.non, _, I.lset (its' := its ++ its2) hH e (by simp) (r.append r2) ?_, rfl, q⟩
  rw [List.length_append]
  omega
def rCat : R2 := fun x y H Q => ∃ l b xs zs, x = .ref l ∧ y = .ref b ∧ H l = some (.lst xs) ∧ H b = some (.lst zs) ∧ xs.length + zs.length ≤ sizeLine ∧ ∀ p, H p = none → Q (.ref p) (upd H p (.lst (xs ++ zs)))
theorem op_cat : OpR X (binaryOp .Add) rCat := by
  intro pins s σ H x y v u Q I rx ry h
  obtain ⟨l, b, xs, zs, rfl, rfl, hH, hB, hz, q⟩ := h
  cases rx
  cases ry
  obtain ⟨z, its, n, r, hl, e⟩ := I.lstM hH
  obtain ⟨z2, its2, n2, r2, hl2, e2⟩ := I.lstM hB
  refine PySem.P.add_list e e2 ?_ (by rw [List.size_toArray, List.size_toArray]; omega)
  have ea : its.toArray ++ its2.toArray = (its ++ its2).toArray := by simp
  rw [ea]
  exact ⟨.ref _, _, I.lnew (t' := s.toks) (r.append r2) (by rw [List.length_append]; omega), rfl, q _ I.fresh⟩
end
section
variable {prog : Program} {w : World} {A : Around} {E : Value → Shared → Prop} {s : Shared}
set_option maxRecDepth 100000 in
end
section
variable {X : Cx}
end
end L2
namespace L2
open PySem PySem.Spec PyProof.Rows
theorem Vals.ints : ∀ {ns : List Int} {us : List Value}, Vals (ns.map V.int) us → IntsAre us ns
  | [], us, h => by
    rw [List.map_nil] at h
    cases h
    exact IntsAre.nil
  | n :: ns, us, h => by
    rw [List.map_cons] at h
    cases h with
    | cons r t =>
      obtain ⟨k, rfl⟩ := r
      exact IntsAre.cons n k (Vals.ints t)
theorem Vals.strs : ∀ {xs : List Str} {us : List Value}, Vals (xs.map V.str) us → StrsAre us xs
  | [], us, h => by
    rw [List.map_nil] at h
    cases h
    exact StrsAre.nil
  | x :: xs, us, h => by
    rw [List.map_cons] at h
    cases h with
    | cons r t =>
      obtain ⟨k, rfl⟩ := r
      exact StrsAre.cons x k (Vals.strs t)
theorem Vals.bls : ∀ {bs : List Bool} {us : List Value}, Vals (bs.map V.bl) us → us = bs.map Value.bool
  | [], us, h => by
    rw [List.map_nil] at h
    cases h
    rfl
  | b :: bs, us, h => by
    rw [List.map_cons] at h
    cases h with
    | cons r t =>
      cases r
      rw [Vals.bls t, List.map_cons]
theorem Vals.ref1 {a : Addr} {us : List Value} (r : Vals [V.ref a] us) : us = [Value.ref a] := by
  cases r with
  | cons r t =>
    cases t
    cases r
    rfl
section
variable {prog : Program} {w : World} {A : Around} {E : Value → Shared → Prop} {s : Shared} {l : Addr} {its : List Value} {ns : List Int} {Q : Value → Shared → Prop}
theorem sum_raw (hh : A.handled = none) (hl : s.heap.IsList l its.toArray) (hi : IntsAre its ns)
    (h : ∀ h' tk t', (∀ b o, s.heap.get? b = some o → h'.get? b = some o) → Q (.int ns.sum t') { s with heap := h', toks := tk }) : wpAny (model prog w) A (call (.builtin "sum") [.ref l]) Q E s := by
  obtain ⟨xs, e⟩ := hi.allInts.items
  have hn : numsOf (intItems xs).toList = ns := by rw [← e]; exact hi.numsOf
  rw [nums_intItems] at hn
  rw [e] at hl
  refine PySem.sum_intListG hh hl fun h' tk t' hk => ?_
  have := h h' tk t' hk
  rw [preSum_eq, List.take_of_length_le (by simp), hn]; exact this
end
section
variable {X : Cx}
def rSum (K : PySem.W.Frag) : List V → Hp → VK → Prop := fun vs H Q => ∃ (a : Addr) (ns : List Int), vs = [V.ref a] ∧ SqL K H a (ns.map V.int) ∧ Q (.int ns.sum) H
theorem cr_sum (hc : X.calm = true) : CallR X (.builtin "sum") (rSum X.K) := by
  intro pins s σ H vs us Q I r h
  obtain ⟨a, ns, rfl, hs, q⟩ := h
  obtain ⟨its, rv, hl, _⟩ := I.list hs
  rw [Vals.ref1 r]
  exact sum_raw (I.ok.hd hc) hl.isList rv.ints fun h' tk t' hk => ⟨.int _, H, I.kept hk, ⟨_, rfl⟩, q⟩
end
section
variable {X : Cx}
end
section
variable {X : Cx}
end
theorem iter_any {prog : Program} {w : World} {A : Around} {E : Value → Shared → Prop} {s : Shared} {l : Addr} {items : Array Value} {Q : Value → Shared → Prop} (hl : s.heap.IsList l items)
    (h : ∀ s₂ : Shared, s₂ = { s with heap := s.heap.push { cls := .type "list_iterator", data := .fields #[.ref l, .int 0 0] } } →
      (s₂.heap.IsListIter s.heap.objs.size l 0 ∧ s₂.heap.IsList l items) → l ≠ s.heap.objs.size → Q (.ref s.heap.objs.size) s₂) : wpAny (model prog w) A (pyIter (.ref l)) Q E s := by
  have hlt : l < s.heap.objs.size := by obtain ⟨_, e, _⟩ := hl; exact Heap.lt_size e
  exact wpAny_pyIter_list hl (h _ rfl ⟨⟨_, Heap.get?_push_size _ rfl, rfl, rfl⟩, hl.push _⟩ (Nat.ne_of_lt hlt))
theorem truth_bools {prog : Program} {w : World} {A : Around} {bs : List Bool} {its : List Value} (e : its = bs.map Value.bool) :
    TruthOf prog w A (fun i v => its.toArray[i]? = some v) (fun i => bs.getD i false) := fun i v s Q E hv hq => by
  have hv' : its[i]? = some v := by simpa using hv
  rw [e, List.getElem?_map] at hv'
  obtain ⟨b, hb, rfl⟩ := Option.map_eq_some_iff.mp hv'
  have hg : bs.getD i false = b := by rw [List.getD_eq_getElem?_getD, hb] <;> rfl
  have hq' : Q (bs.getD i false) s := hq
  rw [hg] at hq'
  exact wpAny_truthy_bool hq'
theorem any_range : ∀ bs : List Bool, (List.range bs.length).any (fun i => bs.getD i false) = bs.any id
  | [] => rfl
  | b :: bs => by
    rw [List.length_cons, List.range_succ_eq_map, List.any_cons, List.any_map, List.any_cons, ← any_range bs]
    all_goals rfl
theorem all_range : ∀ bs : List Bool, (List.range bs.length).all (fun i => bs.getD i false) = bs.all id
  | [] => rfl
  | b :: bs => by
    rw [List.length_cons, List.range_succ_eq_map, List.all_cons, List.all_map, List.all_cons, ← all_range bs]
    all_goals rfl
section
variable {X : Cx}
def rAny (K : PySem.W.Frag) : List V → Hp → VK → Prop := fun vs H Q => ∃ (a : Addr) (bs : List Bool), vs = [V.ref a] ∧ SqL K H a (bs.map V.bl) ∧ Q (.bl (bs.any id)) H
def rAll (K : PySem.W.Frag) : List V → Hp → VK → Prop := fun vs H Q => ∃ (a : Addr) (bs : List Bool), vs = [V.ref a] ∧ SqL K H a (bs.map V.bl) ∧ Q (.bl (bs.all id)) H
theorem cr_any (hc : X.calm = true) : CallR X (.builtin "any") (rAny X.K) := by
  intro pins s σ H vs us Q I r h
  obtain ⟨a, bs, rfl, hs, q⟩ := h
  obtain ⟨its, rv, hl, _⟩ := I.list hs
  rw [Vals.ref1 r]
  have hb := rv.bls
  refine call_any_walk (iter_any hl.isList fun s₂ e2 st hne => ?_)
  subst e2
  refine ⟨_, _, _, _, _, _, _, rfl, Walks.list (A := X.A.in1) (I.ok.hd hc) _ a hne its.toArray, st, truth_bools hb, fun h' tk hk => ?_⟩
  refine ⟨.bl _, H, I.kept fun b o eo => hk b o (fun hmem => ?_) (Heap.get?_push_of_some _ eo), ?_, q⟩
  · rcases List.mem_cons.mp hmem with e1 | hmem
    · exact absurd (e1 ▸ Heap.lt_size eo) (Nat.lt_irrefl _)
    · cases hmem
  · show Value.bool _ = Value.bool _
    rw [← any_range, hb, List.size_toArray, List.length_map]
theorem cr_all (hc : X.calm = true) : CallR X (.builtin "all") (rAll X.K) := by
  intro pins s σ H vs us Q I r h
  obtain ⟨a, bs, rfl, hs, q⟩ := h
  obtain ⟨its, rv, hl, _⟩ := I.list hs
  rw [Vals.ref1 r]
  have hb := rv.bls
  refine call_all_walk (iter_any hl.isList fun s₂ e2 st hne => ?_)
  subst e2
  refine ⟨_, _, _, _, _, _, _, rfl, Walks.list (A := X.A.in1) (I.ok.hd hc) _ a hne its.toArray, st, truth_bools hb, fun h' tk hk => ?_⟩
  refine ⟨.bl _, H, I.kept fun b o eo => hk b o (fun hmem => ?_) (Heap.get?_push_of_some _ eo), ?_, q⟩
  · rcases List.mem_cons.mp hmem with e1 | hmem
    · exact absurd (e1 ▸ Heap.lt_size eo) (Nat.lt_irrefl _)
    · cases hmem
  · show Value.bool _ = Value.bool _
    rw [← all_range, hb, List.size_toArray, List.length_map]
end
mutual
inductive Dp (K : PySem.W.Frag) (H : Hp) : V → PyData → Prop
  | non : Dp K H .non .none
  | bl (b : Bool) : Dp K H (.bl b) (.bool b)
  | int (i : Int) : Dp K H (.int i) (.int i)
  | str (x : Str) : Dp K H (.str x) (.str x)
  | lst {a : Addr} {xs : List V} {ds : List PyData} : SqL K H a xs → DpAll K H xs ds → Dp K H (.ref a) (.list ds)
  | tup {a : Addr} {xs : List V} {ds : List PyData} : SqT K H a xs → DpAll K H xs ds → Dp K H (.ref a) (.tuple ds)
inductive DpAll (K : PySem.W.Frag) (H : Hp) : List V → List PyData → Prop
  | nil : DpAll K H [] []
  | cons {v : V} {vs : List V} {d : PyData} {ds : List PyData} : Dp K H v d → DpAll K H vs ds → DpAll K H (v :: vs) (d :: ds)
end
section
variable {X : Cx} {pins : List (Addr × Obj)} {σ : St} {H : Hp} {s : Shared}
mutual
theorem Dp.reads (I : Inv X pins σ H s) : ∀ (d : PyData) (v : V) (u : Value), Dp X.K H v d → RelV v u → ∃ as, Reads s.heap u d as
  | .none, _, _, h, r => by
    cases h
    cases r
    exact ⟨_, Reads.none⟩
  | .bool b, _, _, h, r => by
    cases h
    cases r
    exact ⟨_, Reads.bool b⟩
  | .int i, _, _, h, r => by
    cases h
    obtain ⟨t, rfl⟩ := r
    exact ⟨_, Reads.int i t⟩
  | .str x, _, _, h, r => by
    cases h
    obtain ⟨t, rfl⟩ := r
    exact ⟨_, Reads.str x t⟩
  | .list ds, _, _, h, r => by
    cases h with
    | lst hs ha =>
      cases r
      obtain ⟨its, rv, ⟨o, n, ho, hc, _, hd⟩, _⟩ := I.list hs
      obtain ⟨as, hr⟩ := Dp.readsAll I ds _ its ha rv
      exact ⟨_, Reads.list ho hc hd hr⟩
  | .tuple ds, _, _, h, r => by
    cases h with
    | tup hs ha =>
      cases r
      obtain ⟨its, rv, ⟨o, ho, hc, n, hd⟩, _⟩ := I.tuple hs
      obtain ⟨as, hr⟩ := Dp.readsAll I ds _ its ha rv
      exact ⟨_, Reads.tuple ho hc hd hr⟩
  | .dict _, _, _, h, _ => by cases h
theorem Dp.readsAll (I : Inv X pins σ H s) : ∀ (ds : List PyData) (vs : List V) (us : List Value), DpAll X.K H vs ds → Vals vs us → ∃ as, ReadsAll s.heap us ds as
  | [], _, _, h, r => by
    cases h
    cases r
    exact ⟨_, ReadsAll.nil⟩
  | d :: ds, _, _, h, r => by
    cases h with
    | cons h1 h2 =>
      cases r with
      | cons r1 r2 =>
        obtain ⟨as, q1⟩ := Dp.reads I d _ _ h1 r1
        obtain ⟨bs, q2⟩ := Dp.readsAll I ds _ _ h2 r2
        exact ⟨_, ReadsAll.cons q1 q2⟩
end
end
section
variable {X : Cx}
def rEqD (K : PySem.W.Frag) : R2 := fun x y H Q => ∃ d e, Dp K H x d ∧ Dp K H y e ∧ SeqAt.shaped d = true ∧ SeqAt.shaped e = true ∧ Q (.bl (PyData.eqv d e)) H
theorem op_eqD (hu : X.A.units + 64 < cLine) : OpR X (compareOp .Eq) (rEqD X.K) := by
  intro pins s σ H x y v u Q I rx ry h
  obtain ⟨d, e, hd, he, sd, se, q⟩ := h
  obtain ⟨as, r1⟩ := Dp.reads I d x v hd rx
  obtain ⟨bs, r2⟩ := Dp.reads I e y u he ry
  exact SeqAt.compareEq_shaped r1 r2 sd se hu ⟨.bl _, H, I, rfl, q⟩
end
end L2
namespace L2
open PySem PySem.Spec PyProof.Rows
abbrev CellAt (h : Heap) (c : Addr) (v : Option Value) : Prop := h.IsCell c v
def relS (scope sc : Scope) : Scope :=
  { scope with names := scope.names.map fun (n, k) => if (k == .free && sc.kind == .function && sc.names.lookup n == some .cell) then (n, .cell) else (n, k) }
def cloFrom (cells : List (Str × Addr)) : List (Str × NameKind) → List (Str × Addr) → List (Str × Addr)
  | [], acc => acc
  | (n, k) :: r, acc => if k == .free then cloFrom cells r ((n, (cells.lookup n).getD 0) :: acc) else cloFrom cells r acc
theorem closure_loop (env : Env) (f : Str × NameKind → List (Str × Addr) → Sem (ForInStep (List (Str × Addr))))
    (hf : ∀ n k c, f (n, k) c = if k == .free then (do let a ← cellOf env n; pure (.yield ((n, a) :: c))) else pure (.yield c)) :
    ∀ (names : List (Str × NameKind)) (acc : List (Str × Addr)), (∀ y ∈ names, y.2 = .free → ∃ c, env.cells.lookup y.1 = some c) → forIn names acc f = pure (cloFrom env.cells names acc)
  | [], acc, _ => by rw [List.forIn_nil]; rfl
  | (n, k) :: r, acc, h => by
    rw [List.forIn_cons, hf]
    have ih := fun acc => closure_loop env f hf r acc fun y hy => h y (List.mem_cons_of_mem _ hy)
    unfold cloFrom
    by_cases hk : (k == NameKind.free) = true
    · rw [if_pos hk, if_pos hk]
      obtain ⟨c, hc⟩ := h (n, k) List.mem_cons_self (by simpa using hk)
      have e : cellOf env n = pure c := by unfold cellOf; rw [hc]
      rw [e]
      have e2 : (env.cells.lookup n).getD 0 = c := by rw [hc]; rfl
      rw [e2]
      exact ih _
    · rw [if_neg hk, if_neg hk]
      exact ih _
theorem closure_ok {scope : Scope} {env : Env} (h : ∀ y ∈ scope.names, y.2 = .free → ∃ c, env.cells.lookup y.1 = some c) : closureFor scope env = pure (cloFrom env.cells scope.names []) := by
  simp only [closureFor]
  rw [closure_loop env _ (fun n k c => rfl) scope.names [] h]
  rfl
theorem mem_lookup {α : Type} : ∀ {l : List (Str × α)} {n : Str} {c : α}, (n, c) ∈ l → ∃ c', l.lookup n = some c'
  | (k, v) :: r, n, c, h => by
    rw [List.lookup_cons]
    cases hb : n == k with
    | true => exact ⟨_, rfl⟩
    | false =>
      rcases List.mem_cons.mp h with e | h
      · cases e; simp at hb
      · exact mem_lookup h
theorem cloFrom_mem {cells : List (Str × Addr)} : ∀ {names : List (Str × NameKind)} {acc : List (Str × Addr)} {n : Str} {c : Addr}, (n, c) ∈ cloFrom cells names acc → (n, c) ∈ acc ∨ ((n, .free) ∈ names ∧ c = (cells.lookup n).getD 0)
  | [], _, _, _, h => .inl h
  | (m, k) :: r, acc, n, c, h => by
    unfold cloFrom at h
    split at h
    · rename_i hk
      have hk : k = .free := by simpa using hk
      rcases cloFrom_mem h with h | ⟨h1, h2⟩
      · rcases List.mem_cons.mp h with e | h
        · cases e; exact .inr ⟨hk ▸ List.mem_cons_self, rfl⟩
        · exact .inl h
      · exact .inr ⟨List.mem_cons_of_mem _ h1, h2⟩
    · rcases cloFrom_mem h with h | ⟨h1, h2⟩
      · exact .inl h
      · exact .inr ⟨List.mem_cons_of_mem _ h1, h2⟩
theorem cloFrom_acc {cells : List (Str × Addr)} : ∀ {names : List (Str × NameKind)} {acc : List (Str × Addr)} {p : Str × Addr}, p ∈ acc → p ∈ cloFrom cells names acc
  | [], _, _, h => h
  | (m, k) :: r, acc, p, h => by
    unfold cloFrom
    split
    · exact cloFrom_acc (List.mem_cons_of_mem _ h)
    · exact cloFrom_acc h
theorem cloFrom_has {cells : List (Str × Addr)} : ∀ {names : List (Str × NameKind)} {acc : List (Str × Addr)} {n : Str}, (n, .free) ∈ names → (n, (cells.lookup n).getD 0) ∈ cloFrom cells names acc
  | (m, k) :: r, acc, n, h => by
    unfold cloFrom
    rcases List.mem_cons.mp h with e | h
    · cases e
      exact cloFrom_acc List.mem_cons_self
    · split
      · exact cloFrom_has h
      · exact cloFrom_has h
theorem cells_mem : ∀ {names : List (Str × NameKind)} {h : Heap} {acc : List (Str × Addr)} {x : Str} {c : Addr}, (x, c) ∈ cellsFrom h.objs.size names acc →
    (x, c) ∈ acc ∨ ((x, .cell) ∈ names ∧ h.objs.size ≤ c ∧ CellAt (pushCells h names) c none)
  | [], _, _, _, _, h => .inl h
  | (n, k) :: r, h, acc, x, c, hm => by
    unfold cellsFrom at hm
    unfold pushCells
    split at hm
    · rename_i hk
      rw [if_pos hk]
      have hk : k = .cell := by simpa using hk
      rw [← Heap.size_push h { cls := .type "cell", data := .cell none }] at hm
      rcases cells_mem hm with hm | ⟨h1, h2, h3⟩
      · rcases List.mem_cons.mp hm with e | hm
        · cases e
          exact .inr ⟨hk ▸ List.mem_cons_self, Nat.le_refl _, _, pushCells_keeps r _ _ _ (Heap.get?_push_size _ rfl), rfl⟩
        · exact .inl hm
      · rw [Heap.size_push] at h2
        exact .inr ⟨List.mem_cons_of_mem _ h1, Nat.le_of_succ_le h2, h3⟩
    · rename_i hk
      rw [if_neg hk]
      rcases cells_mem hm with hm | ⟨h1, h2, h3⟩
      · exact .inl hm
      · exact .inr ⟨List.mem_cons_of_mem _ h1, h2, h3⟩
theorem cells_acc : ∀ {names : List (Str × NameKind)} {n : Nat} {acc : List (Str × Addr)} {p : Str × Addr}, p ∈ acc → p ∈ cellsFrom n names acc
  | [], _, _, _, h => h
  | (m, k) :: r, n, acc, p, h => by
    unfold cellsFrom
    split
    · exact cells_acc (List.mem_cons_of_mem _ h)
    · exact cells_acc h
theorem cells_has : ∀ {names : List (Str × NameKind)} {n : Nat} {acc : List (Str × Addr)} {x : Str}, (x, .cell) ∈ names → ∃ c, (x, c) ∈ cellsFrom n names acc
  | (m, k) :: r, n, acc, x, h => by
    unfold cellsFrom
    rcases List.mem_cons.mp h with e | h
    · cases e
      exact ⟨n, cells_acc List.mem_cons_self⟩
    · split
      · exact cells_has h
      · exact cells_has h
theorem cells_inj : ∀ {names : List (Str × NameKind)} {h : Heap} {acc : List (Str × Addr)} {x y : Str} {c : Addr}, (∀ p ∈ acc, p.2 < h.objs.size) → (∀ x y c, (x, c) ∈ acc → (y, c) ∈ acc → x = y) →
    (x, c) ∈ cellsFrom h.objs.size names acc → (y, c) ∈ cellsFrom h.objs.size names acc → x = y
  | [], _, _, _, _, _, _, hi, h1, h2 => hi _ _ _ h1 h2
  | (n, k) :: r, h, acc, x, y, c, hl, hi, h1, h2 => by
    unfold cellsFrom at h1 h2
    split at h1
    · rename_i hk
      rw [if_pos hk] at h2
      rw [← Heap.size_push h { cls := .type "cell", data := .cell none }] at h1 h2
      refine cells_inj (h := h.push _) (fun p hp => ?_) (fun x y c a b => ?_) h1 h2
      · rw [Heap.size_push]
        rcases List.mem_cons.mp hp with rfl | hp
        · exact Nat.lt_succ_self _
        · exact Nat.lt_succ_of_lt (hl p hp)
      · rcases List.mem_cons.mp a with e | a <;> rcases List.mem_cons.mp b with e' | b
        · cases e; cases e'; rfl
        · cases e; exact absurd (hl _ b) (Nat.lt_irrefl _)
        · cases e'; exact absurd (hl _ a) (Nat.lt_irrefl _)
        · exact hi _ _ _ a b
    · rename_i hk
      rw [if_neg hk] at h2
      exact cells_inj hl hi h1 h2
theorem newEnv_comp {M : Model} {A : Around} {E : Value → Shared → Prop} {s : Shared} {scope : Scope} {globals : Addr} {closure : List (Str × Addr)} {qual : Str} {func : Option Addr} {code : Value} {around : Env} {builtins : Addr} {Q : Env → Shared → Prop}
    (h : Q (newEnv scope s.heap.objs.size globals (cellsFrom (s.heap.objs.size + 1) scope.names closure) qual func code (some around) builtins)
      { s with heap := pushCells (s.heap.push { cls := .type "dict", data := .dict #[] }) scope.names }) :
    wpAny M A (newFunctionEnv scope globals closure [] qual func code (some around) builtins) Q E s := by
  simp only [newFunctionEnv, Option.isSome_some, if_true]
  refine wpAny_bind (wpAny_alloc ?_)
  refine wpAny_bind (wpAny_layCells _ (fun n k c => rfl) scope.names closure _ _ ?_)
  rw [show ({ s with heap := s.heap.push { cls := .type "dict", data := .dict #[] } } : Shared).heap.objs.size = s.heap.objs.size + 1 from Heap.size_push ..]
  rw [List.forIn_nil]
  exact wpAny_bind (wpAny_pure (wpAny_pure h))
theorem lookup_relS {sc : Scope} : ∀ {names : List (Str × NameKind)} {x : Str} {k : NameKind},
    (names.map fun (n, k) => if (k == NameKind.free && sc.kind == .function && sc.names.lookup n == some .cell) then (n, NameKind.cell) else (n, k)).lookup x = some k →
    ∃ k', names.lookup x = some k' ∧ (k = k' ∨ (k' = .free ∧ k = .cell))
  | [], _, _, h => by simp at h
  | (n, k₀) :: r, x, k, h => by
    have ih := @lookup_relS sc r x k
    have h' : List.lookup x ((if (k₀ == NameKind.free && sc.kind == .function && sc.names.lookup n == some .cell) = true then (n, NameKind.cell) else (n, k₀)) :: (r.map _)) = some k := h
    cases hx : x == n with
    | true =>
      simp only [List.lookup_cons, hx]
      by_cases hc : (k₀ == NameKind.free && sc.kind == .function && sc.names.lookup n == some .cell) = true
      · rw [if_pos hc] at h'
        simp only [List.lookup_cons, hx] at h'
        cases h'
        simp only [Bool.and_eq_true, beq_iff_eq] at hc
        exact ⟨k₀, rfl, .inr ⟨hc.1.1, rfl⟩⟩
      · rw [if_neg hc] at h'
        simp only [List.lookup_cons, hx] at h'
        cases h'
        exact ⟨_, rfl, .inl rfl⟩
    | false =>
      simp only [List.lookup_cons, hx]
      by_cases hc : (k₀ == NameKind.free && sc.kind == .function && sc.names.lookup n == some .cell) = true
      · rw [if_pos hc] at h'
        simp only [List.lookup_cons, hx] at h'
        exact ih h'
      · rw [if_neg hc] at h'
        simp only [List.lookup_cons, hx] at h'
        exact ih h'
structure BlkOk (N : List Str) (sc scope : Scope) (own : List (Str × Nat)) : Prop where
  kind : scope.kind = .function
  uniq : ∀ y ∈ scope.names, scope.names.lookup y.1 = some y.2
  ix : ∀ p ∈ own, N[p.2]? = some p.1
  free : ∀ y ∈ scope.names, y.2 = .free → sc.names.lookup y.1 = some .cell ∨ sc.names.lookup y.1 = some .free
  own : ∀ y ∈ scope.names, y.2 = .local ∨ y.2 = .cell → y.1 ∈ own.map (·.1) ∨ y.1 ∉ N
def wipe (σ : St) : List Nat → St
  | [] => σ
  | v :: vs => (wipe σ vs).set v none
theorem wipe_length (σ : St) : ∀ vs : List Nat, (wipe σ vs).length = σ.length
  | [] => rfl
  | v :: vs => by unfold wipe; rw [List.length_set, wipe_length σ vs]
theorem wipe_some {σ : St} {i : Nat} {x : V} : ∀ {vs : List Nat}, (wipe σ vs)[i]? = some (some x) → σ[i]? = some (some x) ∧ i ∉ vs
  | [], h => ⟨h, by simp⟩
  | v :: vs, h => by
    unfold wipe at h
    by_cases hi : v = i
    · subst hi
      by_cases hv : v < (wipe σ vs).length
      · rw [List.getElem?_set_self hv] at h; cases h
      · rw [List.getElem?_eq_none (by simpa using hv)] at h; cases h
    · rw [List.getElem?_set_ne hi] at h
      obtain ⟨h1, h2⟩ := wipe_some h
      exact ⟨h1, by simp only [List.mem_cons, not_or]; exact ⟨fun e => hi e.symm, h2⟩⟩
abbrev Cx.blk (X : Cx) (s : Shared) (H : Hp) (scope : Scope) (cenv : Env) (fp : List Addr) : Cx := { X with s_0 := s, H_0 := H, env := cenv, outer := X.stack, ex := fp, fn := fun x => scope.names.lookup x == some .cell, pn := [], xe := fun _ _ => False }
section
variable {X : Cx} {pins : List (Addr × Obj)} {σ : St} {H : Hp} {s : Shared}
theorem block_start {scope : Scope} {own : List (Str × Nat)} {fp : List Addr} (I : Inv X pins σ H s) (ok : BlkOk X.N X.env.scope scope own) (hN : X.N.Nodup) (hfp : ∀ b ∈ fp, FpOk X pins H b ∧ b < s.heap.objs.size) :
    Inv (X.blk s H scope (compEnvC scope (cellsFrom (s.heap.objs.size + 1) scope.names (cloFrom X.env.cells scope.names [])) s.heap.objs.size X.env) fp) [] (wipe σ (own.map (·.2))) H { s with heap := pushCells (s.heap.push { cls := .type "dict", data := .dict #[] }) scope.names } := by
  have hfree : ∀ y ∈ scope.names, y.2 = .free → ∃ c, X.env.cells.lookup y.1 = some c := fun y hy e => by
    rcases ok.free y hy e with k | k
    · exact I.ok.has _ (.inl k)
    · exact I.ok.has _ (.inr k)
  generalize hcenv : compEnvC scope (cellsFrom (s.heap.objs.size + 1) scope.names (cloFrom X.env.cells scope.names [])) s.heap.objs.size X.env = cenv
  have kp : ∀ b o, s.heap.get? b = some o → (pushCells (s.heap.push { cls := .type "dict", data := .dict #[] }) scope.names).get? b = some o := fun b o e => pushCells_keeps _ _ _ _ (Heap.get?_push_of_some _ e)
  have hL : cenv.locals = s.heap.objs.size := by rw [← hcenv]; rfl
  have hcl : cenv.cells = cellsFrom (s.heap.objs.size + 1) scope.names (cloFrom X.env.cells scope.names []) := by rw [← hcenv]; rfl
  have hsc : cenv.scope = relS scope X.env.scope := by rw [← hcenv]; rfl
  rw [← Heap.size_push s.heap { cls := .type "dict", data := .dict #[] }] at hcl
  have cm : ∀ {y c}, (y, c) ∈ cloFrom X.env.cells scope.names [] → X.env.cells.lookup y = some c ∧ c < s.heap.objs.size := fun {y c} hm => by
    rcases cloFrom_mem hm with hm | ⟨h1, rfl⟩
    · cases hm
    · obtain ⟨c, hc⟩ := hfree _ h1 rfl
      rw [hc]
      obtain ⟨w, z⟩ := I.cell _ _ hc
      exact ⟨rfl, z.lt⟩
  have mem : ∀ {y c}, cenv.cells.lookup y = some c → (X.env.cells.lookup y = some c ∧ c < s.heap.objs.size) ∨ (s.heap.objs.size + 1 ≤ c ∧ CellAt (pushCells (s.heap.push { cls := .type "dict", data := .dict #[] }) scope.names) c none) := fun {y c} e => by
    rw [hcl] at e
    rcases cells_mem (PySem.mem_of_lookup e) with hm | ⟨_, h2, h3⟩
    · exact .inl (cm hm)
    · rw [Heap.size_push] at h2; exact .inr ⟨h2, h3⟩
  have look : ∀ {y}, scope.names.lookup y = some .free → ∃ c, cenv.cells.lookup y = some c ∧ X.env.cells.lookup y = some c := fun {y} hl => by
    have hy : (y, NameKind.free) ∈ scope.names := PySem.mem_of_lookup hl
    obtain ⟨c', e'⟩ := mem_lookup (cells_acc (names := scope.names) (n := (s.heap.push { cls := .type "dict", data := .dict #[] }).objs.size) (cloFrom_has (cells := X.env.cells) (acc := []) hy))
    rw [← hcl] at e'
    refine ⟨c', e', ?_⟩
    rw [hcl] at e'
    rcases cells_mem (PySem.mem_of_lookup e') with hm | ⟨h1, _, _⟩
    · exact (cm hm).1
    · have := ok.uniq _ h1
      rw [hl] at this; cases this
  have okB : (X.blk s H scope cenv fp).Ok := by
    refine ⟨I.ok.mod, by show cenv.scope.kind = _; rw [hsc]; exact ok.kind, by show cenv.globals = _; rw [← hcenv]; exact I.ok.glob, by show cenv.builtins = _; rw [← hcenv]; exact I.ok.blt, by show s.heap.objs.size ≤ cenv.locals; rw [hL]; exact Nat.le_refl _,
      fun y z c e1 e2 => ?_, fun y hy => ?_, fun y c z e => ?_, I.ok.hd, I.ok.frames, .inl rfl, fun b hb => ⟨?_, fun y c e z => ?_⟩, I.bs, Nat.le_trans I.ok.bsz I.sz, fun b o e hb => ?_, fun b hb z => ?_, I.stack, I.stkFree⟩
    · have e1 : cenv.cells.lookup y = some c := e1
      have e2 : cenv.cells.lookup z = some c := e2
      rw [hcl] at e1 e2
      refine cells_inj (fun p hp => ?_) (fun y z c a b => I.ok.inj y z c (cm a).1 (cm b).1) (PySem.mem_of_lookup e1) (PySem.mem_of_lookup e2)
      rw [Heap.size_push]
      exact Nat.lt_succ_of_lt (cm (y := p.1) (c := p.2) hp).2
    · show ∃ c, cenv.cells.lookup y = some c
      have key : ∀ k, cenv.kindOf y = some k → (k = .cell ∨ k = .free) → ∃ c, cenv.cells.lookup y = some c := fun k hk hk' => by
        unfold Env.kindOf at hk
        rw [hsc] at hk
        obtain ⟨k', e, r⟩ := lookup_relS hk
        have : k' = .cell ∨ k' = .free := by
          rcases r with rfl | ⟨rfl, _⟩
          · exact hk'
          · exact .inr rfl
        rcases this with rfl | rfl
        · obtain ⟨c, hm⟩ := cells_has (n := (s.heap.push { cls := .type "dict", data := .dict #[] }).objs.size) (acc := cloFrom X.env.cells scope.names []) (PySem.mem_of_lookup e)
          obtain ⟨c', e'⟩ := mem_lookup hm
          exact ⟨c', by rw [hcl]; exact e'⟩
        · obtain ⟨c, h1, _⟩ := look e
          exact ⟨c, h1⟩
      rcases hy with hy | hy
      · exact key _ hy (.inl rfl)
      · exact key _ hy (.inr rfl)
    · have z : (scope.names.lookup y == some NameKind.cell) = true := z
      have z : scope.names.lookup y = some .cell := by simpa using z
      have e : cenv.cells.lookup y = some c := e
      rw [hcl] at e
      rcases cells_mem (PySem.mem_of_lookup e) with hm | ⟨_, h2, _⟩
      · rcases cloFrom_mem hm with hm | ⟨h1, _⟩
        · cases hm
        · have q := ok.uniq _ h1
          rw [z] at q; cases q
      · rw [Heap.size_push] at h2
        exact Nat.le_of_succ_le h2
    · show b ≠ cenv.locals
      rw [hL]; exact Nat.ne_of_lt (hfp b hb).2
    · have e : cenv.cells.lookup y = some c := e
      rcases mem e with ⟨h1, _⟩ | ⟨h1, _⟩
      · exact (hfp b hb).1.2.2.2.2.1 y c h1 z
      · have h2 : s.heap.objs.size + 1 ≤ b := by rw [← z]; exact h1
        exact absurd (Nat.lt_of_lt_of_le (hfp b hb).2 (Nat.le_of_succ_le h2)) (Nat.lt_irrefl _)
    · rcases (hfp b hb).1.2.2.2.1 with z | z
      · exact I.ok.noex b o e z
      · exact absurd (Nat.lt_of_lt_of_le (Heap.lt_size e) (Nat.le_trans I.ok.bsz z)) (Nat.lt_irrefl _)
    · rcases List.mem_cons.mp (I.stkSub b z) with z | z
      · exact (hfp b hb).1.2.1 z
      · exact (hfp b hb).1.2.2.1 z
  refine ⟨okB, rfl, I.bare, Un.kept kp, ⟨fun _ => none, ?_, fun i y av e1 e2 e3 => ?_⟩, fun y c e => ?_, ?_, fun y c e => ?_, fun p hp => ?_, I.hok.kept kp, by rw [wipe_length]; exact I.len⟩
  · show Heap.Ns _ cenv.locals _
    rw [hL]
    exact Heap.Ns.keeps (Heap.Ns.new ..) fun b o e => pushCells_keeps _ _ _ _ e
  · obtain ⟨e2, hne⟩ := wipe_some e2
    have hfr : scope.names.lookup y = some .free ∧ (cenv.kindOf y = some .cell ∨ cenv.kindOf y = some .free) := by
      have key : ∀ k, cenv.scope.names.lookup y = some k → k = .local ∨ k = .cell ∨ k = .free → scope.names.lookup y = some .free ∧ (cenv.kindOf y = some .cell ∨ cenv.kindOf y = some .free) := fun k hk hk' => by
        have hk0 := hk
        rw [hsc] at hk
        obtain ⟨k', e, r⟩ := lookup_relS hk
        have no : ¬ (k' = .local ∨ k' = .cell) := fun hh => by
          rcases ok.own _ (PySem.mem_of_lookup e) hh with e' | e'
          · obtain ⟨p, hp, hpy⟩ := List.mem_map.mp e'
            have e3 := ok.ix p hp
            have : p.1 = y := hpy
            rw [this] at e3
            exact hne (List.mem_map.mpr ⟨p, hp, nodup_ix hN e3 e1⟩)
          · exact e' (List.mem_of_getElem? e1)
        rcases r with rfl | ⟨rfl, rfl⟩
        · rcases hk' with rfl | rfl | rfl
          · exact absurd (.inl rfl) no
          · exact absurd (.inr rfl) no
          · exact ⟨e, .inr hk0⟩
        · exact ⟨e, .inl hk0⟩
      have e3 : Vis cenv.scope y := e3
      rcases e3 with e3 | e3 | e3
      · exact key _ e3 (.inl rfl)
      · exact key _ e3 (.inr (.inl rfl))
      · exact key _ e3 (.inr (.inr rfl))
    obtain ⟨m, hn, hl⟩ := I.loc
    have hvis : Vis X.env.scope y := (ok.free _ (PySem.mem_of_lookup hfr.1) rfl).elim (fun k => .inr (.inl k)) (fun k => .inr (.inr k))
    obtain ⟨w, r, q⟩ := hl i y av e1 e2 hvis
    refine ⟨w, r, .inr ⟨hfr.2, ?_⟩⟩
    obtain ⟨c, h1, h2⟩ := look hfr.1
    rcases q with ⟨k, _⟩ | ⟨_, c', e', z⟩
    · have k : X.env.scope.names.lookup y = some .local := k
      rcases ok.free _ (PySem.mem_of_lookup hfr.1) rfl with k' | k' <;> rw [show X.env.scope.names.lookup y = _ from k'] at k <;> cases k
    · rw [h2] at e'; cases e'
      exact ⟨c, h1, z.keeps kp⟩
  · have e : cenv.cells.lookup y = some c := e
    rcases mem e with ⟨h1, _⟩ | ⟨_, z⟩
    · obtain ⟨w, z⟩ := I.cell y c h1
      exact ⟨w, z.keeps kp⟩
    · exact ⟨_, z⟩
  · show H cenv.locals = none
    rw [hL]; exact I.hok.fresh (Nat.le_refl _)
  · have e : cenv.cells.lookup y = some c := e
    rcases mem e with ⟨h1, _⟩ | ⟨h1, _⟩
    · exact I.freeC y c h1
    · exact I.hok.fresh (Nat.le_of_succ_le h1)
  · exact absurd (show p ∈ ([] : List (Addr × Obj)) ++ [] from hp) (by simp)
theorem app_ok {E : Value → Shared → Prop} {D : Addr} {xs : List V} {y : V} {v : Value} {Q : Value → Shared → Prop} (I : Inv X pins σ H s) (hD : H D = some (.lst xs)) (hz : xs.length < sizeLine) (r : RelV y v)
    (h : ∀ s', Inv X pins σ (upd H D (.lst (xs ++ [y]))) s' → Q .none s') : wpAny (model X.prog X.w) X.A (call (.builtin "list.append") [.ref D, v]) Q E s := by
  obtain ⟨hz', its, n, ri, e⟩ := I.hok D _ hD
  have hl := ri.length
  refine append_at (hsz := by rw [List.size_toArray]; omega) e fun h' sb ho' => ?_
  refine h { s with heap := h' } (I.write (t' := s.toks) (by rw [hD]; trivial) (.inl rfl) (fun b u hb q => (sb.2 b hb).trans q) ⟨_, ho'⟩ ⟨by rw [List.length_append]; exact hz, its ++ [v], n + 1, ri.append (.cons r .nil), ?_⟩)
  rw [ho']
  simp
def PTs (X : Cx) (ifs : List Expr) (t : TT) : Prop :=
  ∀ (pins : List (Addr × Obj)) (s : Shared) (σ : St) (H : Hp) (Q : Bool → Hp → Prop), Inv X pins σ H s → t σ H Q →
    wpAny (model X.prog X.w) X.A (forIn ifs true fun c r => if r = true then do let ok ← isTrue c X.env (eval c X.env); pure (ForInStep.yield ok) else pure (ForInStep.yield r)) (TP X pins σ Q) X.xe s
def tYes : TT := fun _ H Q => Q true H
theorem pts_nil : PTs X [] tYes := fun _ _ _ H _ I h => wpAny_tests_nil ⟨H, I, h⟩
theorem pts_one {c : Expr} {t : TT} (h : PT X c t) : PTs X [c] t := fun pins s σ H Q I hw => wpAny_tests_one (h pins s σ H Q I hw)
end
theorem thnF {α : Type} {t : Sem α} {Q Q' : α → Shared → Prop} {M : Model} {A : Around} {E : Value → Shared → Prop} {s : Shared} (h : wpAny M A t Q (fun _ _ => False) s) (hQ : ∀ a s, Q a s → Q' a s) : wpAny M A t Q' E s := wpAny_mono h hQ fun _ _ z => False.elim z
theorem compLoop_any {prog : Program} {w : World} {A : Around} {R : Result → Shared → Prop} {s : Shared} {elt target iter : Expr} {ifs : List Expr} {scope : Scope} {pos : Pos} {it acc : Value} {env : Env} (I : Nat → Shared → Prop)
    (turn : ∀ n s, I n s → wpAny (model prog w) A (pyNext it) (fun r s₁ => match r with
      | none => R (.ok .next) s₁
      | some v => wpAny (model prog w) A (letOwnedTupleGo target it v) (fun _ s₁' => wpAny (model prog w) A (assign target env v) (fun _ s₂ =>
          wpAny (model prog w) A (forIn ifs true fun c r => if r = true then do let ok ← isTrue c env (eval c env); pure (ForInStep.yield ok) else pure (ForInStep.yield r)) (fun ok s₃ =>
            if ok = true then wpAny (model prog w) A (eval elt env) (fun x s₄ =>
              wpAny (model prog w) A (call (.builtin "list.append") [acc, x]) (fun _ s₅ => ∃ m, m < n ∧ I m s₅) (notedBy (model prog w) A env fun e s' => R (.error e) s') s₄) (notedBy (model prog w) A env fun e s' => R (.error e) s') s₃
            else ∃ m, m < n ∧ I m s₃) (notedBy (model prog w) A env fun e s' => R (.error e) s') s₂) (notedBy (model prog w) A env fun e s' => R (.error e) s') s₁') (notedBy (model prog w) A env fun e s' => R (.error e) s') s₁) (notedBy (model prog w) A env fun e s' => R (.error e) s') s)
    (n : Nat) (h : I n s) :
    codeAny (model prog w) A (.compLoop (.ListComp elt [⟨target, iter, ifs, 0⟩] scope pos) 0 it acc env) R s := by
  refine codeAny_loop rfl I (fun n s hI => ?_) n h
  show wpAny _ A ((compTurn (.ListComp elt [⟨target, iter, ifs, 0⟩] scope pos) 0 it acc env).onRaise (fun x => do noteFrame x env; theTreesLotGoes x)) _ _ s
  refine wpAny_noted ?_
  rw [compTurn_list]
  refine wpAny_bind (wpAny_standAt (wpAny_bind (wpAny_mono (turn n s hI) (fun r s₁ h₁ => ?_) fun _ _ h' => h')))
  cases r with
  | none => exact wpAny_pure h₁
  | some v =>
    refine wpAny_bind (wpAny_mono h₁ (fun _ s₁' h₁' => ?_) fun _ _ h' => h')
    refine wpAny_bind (wpAny_mono h₁' (fun _ s₂ h₂ => wpAny_bind (wpAny_mono h₂ (fun ok s₃ h₃ => ?_) fun _ _ h' => h')) fun _ _ h' => h')
    cases ok with
    | false => exact wpAny_pure ⟨rfl, h₃⟩
    | true =>
      exact wpAny_bind (wpAny_bind (wpAny_mono h₃ (fun x s₄ h₄ => wpAny_bind (wpAny_mono h₄ (fun _ s₅ h₅ => wpAny_pure (wpAny_pure ⟨rfl, h₅⟩)) fun _ _ h' => h')) fun _ _ h' => h'))
section
variable {X : Cx}
def tLc (wi : TI) (g : TG) (tt : TT) (te : TE) (vs : List Nat) : TE := fun σ H Q => wi σ H fun J H1 => ∀ D, H1 D = none → ∃ W : Nat → Nat → Hp → Prop, (∃ m, W 0 m (upd H1 D (.lst []))) ∧ ∀ i m H, W i m H →
  (J.stop i H ∧ Q (.ref D) H) ∨ (J.go i H ∧ ∃ Nx : Hp → Prop, (∀ H', Nx H' → ∃ m', m' < m ∧ W (i + 1) m' H') ∧ ∀ x H', J.yld i H x H' → g x (wipe σ vs) H' fun σ2 H2 => wipe σ2 vs = wipe σ vs ∧ tt σ2 H2 fun b H3 =>
    if b = true then te σ2 H3 fun y H4 => ∃ acc, H4 D = some (.lst acc) ∧ acc.length < sizeLine ∧ Nx (upd H4 D (.lst (acc ++ [y]))) else Nx H3)
theorem lc_core {pins : List (Addr × Obj)} {s : Shared} {σ : St} {H : Hp} {Q : VK} {elt tg iter : Expr} {ifs : List Expr} {scope : Scope} {own : List (Str × Nat)} {pos pos' : Pos} {wi : TI} {g : TG} {tt : TT} {te : TE} {use : Option (Value → Sem Unit)} {Qf : Value → Shared → Prop}
    (hc : X.calm = true) (hN : X.N.Nodup) (I : Inv X pins σ H s) (hi : PI X tg iter wi) (ok : BlkOk X.N X.env.scope scope own)
    (hg : ∀ (s : Shared) (H : Hp) (C : Addr) (cl : List (Str × Addr)) (fp : List Addr), PG (X.blk s H scope (compEnvC scope cl C X.env) fp) tg g) (ht : ∀ (s : Shared) (H : Hp) (C : Addr) (cl : List (Str × Addr)) (fp : List Addr), PTs (X.blk s H scope (compEnvC scope cl C X.env) fp) ifs tt)
    (he : ∀ (s : Shared) (H : Hp) (C : Addr) (cl : List (Str × Addr)) (fp : List Addr), PE (X.blk s H scope (compEnvC scope cl C X.env) fp) elt te) (hs : ∀ x, foldedSetIterable iter X.env x = pure x)
    (h : tLc wi g tt te (own.map (·.2)) σ H Q)
    (hRR : ∀ D C s' m H', Inv X pins σ H' s' → Q (.ref D) H' → s'.heap.Ns C m → FpOk X pins H' C → compPost (model X.prog X.w) X.A X.xe use Qf (.ref D) C (.ok .next) s') :
    wpAny (model X.prog X.w) X.A (comprehension (.ListComp elt [⟨tg, iter, ifs, 0⟩] scope pos) scope X.env pos' (newList []) false (eval iter X.env) use) Qf X.xe s := by
  have hfree : ∀ y ∈ scope.names, y.2 = .free → ∃ c, X.env.cells.lookup y.1 = some c := fun y hy e => by
    rcases ok.free y hy e with k | k
    · exact I.ok.has _ (.inl k)
    · exact I.ok.has _ (.inr k)
  refine wpAny_comprehension_free (use := use) rfl hs (closure_ok hfree) ok.kind (fun y hy e => by rw [ok.uniq y hy, e])
    (thn (hi pins s σ H _ I h) fun xv s1 hx => thn hx fun itv s2 h2 => ?_)
  obtain ⟨it, fp, tn, J, H2, e, I2, T, st2, f2, q⟩ := h2
  subst e
  refine wpAny_newObj_type (newEnv_comp ?_) (by show 0 ≤ sizeLine; decide)
  generalize hD : s2.heap.objs.size = D
  have hDn : H2 D = none := I2.hok.fresh (Nat.le_of_eq hD)
  obtain ⟨W, ⟨m0, w0⟩, turn⟩ := q D hDn
  generalize hs3 : ({ s2 with heap := s2.heap.push { cls := .type "list", data := .seq ([] : List Value).toArray } } : Shared) = s3
  have I3 : Inv X pins σ (upd H2 D (.lst [])) s3 := by
    rw [← hs3]
    refine I2.laid (t' := s2.toks) (fun b o e => Heap.get?_push_of_some _ e) (Nat.le_of_eq hD) ⟨Nat.zero_le _, [], 0, .nil, ?_⟩
    rw [← hD]
    exact Heap.get?_push_size _ rfl
  have h3 : s3.heap = s2.heap.push { cls := .type "list", data := .seq ([] : List Value).toArray } := by rw [← hs3]
  have sz : ∀ b ∈ fp, b < s2.heap.objs.size := fun b hb => by
    obtain ⟨o, e, _⟩ := T.obj _ _ st2 b hb
    exact Heap.lt_size e
  have f3 : ∀ b ∈ fp, FpOk X pins (upd H2 D (.lst [])) b ∧ b < s3.heap.objs.size := fun b hb => by
    have hlt := sz b hb
    refine ⟨⟨?_, (f2 b hb).2⟩, by rw [h3, Heap.size_push]; exact Nat.lt_succ_of_lt hlt⟩
    rw [upd_ne (by rw [← hD]; exact Nat.ne_of_lt hlt)]
    exact (f2 b hb).1
  have st3 : tn 0 s3.heap := T.keep _ _ _ st2 fun b _ o e => by rw [h3]; exact Heap.get?_push_of_some _ e
  have I4 := block_start I3 ok hN f3
  have pg := hg s3 (upd H2 D (.lst [])) s3.heap.objs.size (cellsFrom (s3.heap.objs.size + 1) scope.names (cloFrom X.env.cells scope.names [])) fp
  have pt := ht s3 (upd H2 D (.lst [])) s3.heap.objs.size (cellsFrom (s3.heap.objs.size + 1) scope.names (cloFrom X.env.cells scope.names [])) fp
  have pe := he s3 (upd H2 D (.lst [])) s3.heap.objs.size (cellsFrom (s3.heap.objs.size + 1) scope.names (cloFrom X.env.cells scope.names [])) fp
  show codeAny _ _ (.compStart (.ListComp elt [⟨tg, iter, ifs, 0⟩] scope pos) 0 (.ref it) (.ref D) (compEnvC scope (cellsFrom (s3.heap.objs.size + 1) scope.names (cloFrom X.env.cells scope.names [])) s3.heap.objs.size X.env)) (compPost (model X.prog X.w) X.A X.xe use Qf (.ref D) s3.heap.objs.size) { s3 with heap := pushCells (s3.heap.push { cls := .type "dict", data := .dict #[] }) scope.names }
  have nfp : ∀ b ∈ fp, (upd H2 D (.lst [])) b = none := fun b hb => (f3 b hb).1.1
  generalize hce : compEnvC scope (cellsFrom (s3.heap.objs.size + 1) scope.names (cloFrom X.env.cells scope.names [])) s3.heap.objs.size X.env = ce at I4 pg pt pe ⊢
  have cL : ce.locals = s3.heap.objs.size := by subst hce; rfl
  generalize hH3 : upd H2 D (.lst []) = H3 at I3 I4 pg pt pe w0 nfp f3
  generalize hs4 : ({ s3 with heap := pushCells (s3.heap.push { cls := .type "dict", data := .dict #[] }) scope.names } : Shared) = s4 at I4 ⊢
  have st4 : tn 0 s4.heap := T.keep _ _ _ st3 fun b _ o e => by rw [← hs4]; exact pushCells_keeps _ _ _ _ (Heap.get?_push_of_some _ e)
  have stat : ∀ {σ' : St} {H' : Hp} {s' : Shared}, Inv (X.blk s3 H3 scope ce fp) [] σ' H' s' → (∀ b ∈ fp, H' b = none) → ∀ b ∈ fp, FpOk (X.blk s3 H3 scope ce fp) [] H' b := fun {σ' H' s'} I' hn b hb =>
    ⟨hn b hb, (I'.ok.exf b hb).1, I'.ok.exfs b hb, .inl hb, fun x c e => (I'.ok.exf b hb).2 x c e, fun p hp => absurd (show p ∈ ([] : List (Addr × Obj)) ++ [] from hp) (by simp)⟩
  have loop : codeAny (model X.prog X.w) X.A (.compLoop (.ListComp elt [⟨tg, iter, ifs, 0⟩] scope pos) 0 (.ref it) (.ref D) ce) (compPost (model X.prog X.w) X.A X.xe use Qf (.ref D) s3.heap.objs.size) s4 := by
    refine compLoop_any (fun n s' => ∃ i H', Inv (X.blk s3 H3 scope ce fp) [] (wipe σ (own.map (·.2))) H' s' ∧ tn i s'.heap ∧ (∀ b ∈ fp, H' b = none) ∧ W i n H') ?_ m0 ⟨0, H3, I4, st4, nfp, w0⟩
    rintro n s5 ⟨i, H5, I5, st5, n5, w5⟩
    rcases turn i n H5 w5 with ⟨stop, qq⟩ | ⟨go, Nx, hNx, step⟩
    · have td := T.done (X.blk s3 H3 scope ce fp) rfl rfl rfl hc i [] s5 _ H5 (fun _ _ => False) I5 (stat I5 n5) st5 stop
      refine thnF td fun r s6 ⟨hr, I6⟩ => ?_
      subst hr
      have I7 : Inv X pins σ H5 s6 := I3.call' (ch := fp) I6.os I6.base I6.hok I6.bare fun b hb => ⟨(f3 b hb).1.2.2.2.1, (f3 b hb).1.2.1, (f3 b hb).1.2.2.2.2.1, (f3 b hb).1.2.2.2.2.2⟩
      have nC : H5 s3.heap.objs.size = none := by
        have z : H5 ce.locals = none := I6.free
        rw [cL] at z
        exact z
      obtain ⟨m, hn, _⟩ := I6.loc
      have hn : s6.heap.Ns ce.locals m := hn
      rw [cL] at hn
      exact hRR D s3.heap.objs.size s6 m H5 I7 qq hn (I3.fpOk (Nat.le_refl _) nC)
    · have ti := T.item (X.blk s3 H3 scope ce fp) rfl rfl rfl hc i [] s5 _ H5 (fun _ _ => False) I5 (stat I5 n5) st5 go
      refine thnF ti fun r s6 ⟨u, hr, h6⟩ => ?_
      subst hr
      refine thnF h6 fun _ s7 ⟨x, H7, I7, r7, y7, st7, n7⟩ => ?_
      have I7' := I7.pinned (stat I7 n7) (T.obj _ _ st7)
      refine thnF (pg _ s7 _ H7 x u _ I7' r7 (step x H7 y7)) fun _ s8 ⟨σ8, H8, I8, hw8, q8⟩ => ?_
      refine thnF (pt _ s8 σ8 H8 _ I8 q8) fun b s9 ⟨H9, I9, q9⟩ => ?_
      have fin : ∀ {s' : Shared} {H' : Hp}, Inv (X.blk s3 H3 scope ce fp) ([] ++ pinsAt fp s7.heap) σ8 H' s' → Nx H' → ∃ m, m < n ∧ ∃ i H', Inv (X.blk s3 H3 scope ce fp) [] (wipe σ (own.map (·.2))) H' s' ∧ tn i s'.heap ∧ (∀ b ∈ fp, H' b = none) ∧ W i m H' := fun {s' H'} I' nx => by
        obtain ⟨m', hm, w'⟩ := hNx H' nx
        have pin' : ∀ b ∈ fp, ∀ o, s7.heap.get? b = some o → s'.heap.get? b = some o ∧ H' b = none := fun b hb o e =>
          let z := I'.pin (b, o) (List.mem_append_right _ (List.mem_append_right _ (mem_pinsAt hb e)))
          ⟨z.1, z.2.1⟩
        have hl : (wipe σ (own.map (·.2))).length = σ8.length := by rw [← hw8, wipe_length]
        refine ⟨m', hm, i + 1, H', (I'.unpinned (pins := [])).weak hl (fun j v e => ?_), T.keep _ _ _ st7 fun b hb o e => (pin' b hb o e).1, fun b hb => ?_, w'⟩
        · rw [← hw8] at e
          exact (wipe_some e).1
        · obtain ⟨o, e, _⟩ := T.obj _ _ st7 b hb
          exact (pin' b hb o e).2
      cases b with
      | false =>
        simp only [Bool.false_eq_true, if_false] at q9 ⊢
        exact fin I9 q9
      | true =>
        simp only [if_true] at q9 ⊢
        refine thnF (pe _ s9 σ8 H9 _ I9 q9) fun z s10 ⟨yv, H10, I10, r10, acc, hD10, hz10, nx⟩ => ?_
        exact app_ok (X := X.blk s3 H3 scope ce fp) I10 hD10 hz10 r10 fun s11 I11 => fin I11 nx
  exact codeAny_compStart_list loop (T.self X.A 0 _ _ _ st4 loop)
theorem pe_lc {elt tg iter : Expr} {ifs : List Expr} {scope : Scope} {own : List (Str × Nat)} {pos : Pos} {wi : TI} {g : TG} {tt : TT} {te : TE} (hc : X.calm = true) (hN : X.N.Nodup) (hi : PI X tg iter wi) (ok : BlkOk X.N X.env.scope scope own)
    (hg : ∀ (s : Shared) (H : Hp) (C : Addr) (cl : List (Str × Addr)) (fp : List Addr), PG (X.blk s H scope (compEnvC scope cl C X.env) fp) tg g) (ht : ∀ (s : Shared) (H : Hp) (C : Addr) (cl : List (Str × Addr)) (fp : List Addr), PTs (X.blk s H scope (compEnvC scope cl C X.env) fp) ifs tt)
    (he : ∀ (s : Shared) (H : Hp) (C : Addr) (cl : List (Str × Addr)) (fp : List Addr), PE (X.blk s H scope (compEnvC scope cl C X.env) fp) elt te) (hs : ∀ x, foldedSetIterable iter X.env x = pure x := by intro _; rfl) :
    PE X (.ListComp elt [⟨tg, iter, ifs, 0⟩] scope pos) (tLc wi g tt te (own.map (·.2))) := by
  intro pins s σ H Q I h
  rw [eval_ListComp]
  refine lc_core hc hN I hi ok hg ht he hs h fun D C s' m H' I' q hn f => ⟨m, hn, fun h'' sb => ?_⟩
  obtain ⟨f0, f1, f2, f3, f4, f5⟩ := f
  exact ⟨.ref D, H', I'.turned (t' := s'.toks) (fun b o hb e => (sb.2 b hb).trans e) f0 f1 f3 f4 f5, rfl, q⟩
end
theorem lc_range {lo : Int} {n : Nat} {g : TG} {tt : TT} {te : TE} {vs : List Nat} {σ : St} {H1 : Hp} {D : Addr} {Qd : Hp → Prop} (Pv : Nat → Hp → Prop) (h0 : Pv 0 (upd H1 D (.lst [])))
    (hs : ∀ i H, i < n → Pv i H → g (.int (lo + i)) (wipe σ vs) H fun σ2 H2 => wipe σ2 vs = wipe σ vs ∧ tt σ2 H2 fun b H3 =>
      if b = true then te σ2 H3 fun y H4 => ∃ acc, H4 D = some (.lst acc) ∧ acc.length < sizeLine ∧ Pv (i + 1) (upd H4 D (.lst (acc ++ [y]))) else Pv (i + 1) H3) (hd : ∀ H, Pv n H → Qd H) :
    ∃ W : Nat → Nat → Hp → Prop, (∃ m, W 0 m (upd H1 D (.lst []))) ∧ ∀ i m H, W i m H →
      ((Itr lo n).stop i H ∧ Qd H) ∨ ((Itr lo n).go i H ∧ ∃ Nx : Hp → Prop, (∀ H', Nx H' → ∃ m', m' < m ∧ W (i + 1) m' H') ∧ ∀ x H', (Itr lo n).yld i H x H' → g x (wipe σ vs) H' fun σ2 H2 => wipe σ2 vs = wipe σ vs ∧ tt σ2 H2 fun b H3 =>
        if b = true then te σ2 H3 fun y H4 => ∃ acc, H4 D = some (.lst acc) ∧ acc.length < sizeLine ∧ Nx (upd H4 D (.lst (acc ++ [y]))) else Nx H3) := by
  refine ⟨fun i m H => m = n - i ∧ i ≤ n ∧ Pv i H, ⟨n, by simp, Nat.zero_le _, h0⟩, ?_⟩
  rintro i m H ⟨rfl, hi, p⟩
  by_cases hlt : i < n
  · refine .inr ⟨hlt, Pv (i + 1), fun H' p' => ⟨n - (i + 1), by omega, rfl, hlt, p'⟩, fun x H' y => ?_⟩
    obtain ⟨e, y⟩ := y
    subst e y
    exact hs i _ hlt p
  · have e : i = n := by omega
    subst e
    exact .inl ⟨Nat.le_refl _, hd H p⟩
theorem lc_list {K : PySem.W.Frag} {a : Addr} {xs : List V} {g : TG} {tt : TT} {te : TE} {vs : List Nat} {σ : St} {H1 : Hp} {D : Addr} {Qd : Hp → Prop} (Pv : Nat → Hp → Prop) (h0 : Pv 0 (upd H1 D (.lst []))) (hl : ∀ i H, i ≤ xs.length → Pv i H → SqL K H a xs)
    (hs : ∀ i x H, xs[i]? = some x → Pv i H → g x (wipe σ vs) H fun σ2 H2 => wipe σ2 vs = wipe σ vs ∧ tt σ2 H2 fun b H3 =>
      if b = true then te σ2 H3 fun y H4 => ∃ acc, H4 D = some (.lst acc) ∧ acc.length < sizeLine ∧ Pv (i + 1) (upd H4 D (.lst (acc ++ [y]))) else Pv (i + 1) H3) (hd : ∀ H, Pv xs.length H → Qd H) :
    ∃ W : Nat → Nat → Hp → Prop, (∃ m, W 0 m (upd H1 D (.lst []))) ∧ ∀ i m H, W i m H →
      ((Itl K a).stop i H ∧ Qd H) ∨ ((Itl K a).go i H ∧ ∃ Nx : Hp → Prop, (∀ H', Nx H' → ∃ m', m' < m ∧ W (i + 1) m' H') ∧ ∀ x H', (Itl K a).yld i H x H' → g x (wipe σ vs) H' fun σ2 H2 => wipe σ2 vs = wipe σ vs ∧ tt σ2 H2 fun b H3 =>
        if b = true then te σ2 H3 fun y H4 => ∃ acc, H4 D = some (.lst acc) ∧ acc.length < sizeLine ∧ Nx (upd H4 D (.lst (acc ++ [y]))) else Nx H3) := by
  refine ⟨fun i m H => m = xs.length - i ∧ i ≤ xs.length ∧ Pv i H, ⟨xs.length, by simp, Nat.zero_le _, h0⟩, ?_⟩
  rintro i m H ⟨rfl, hi, p⟩
  have q := hl i H hi p
  by_cases hlt : i < xs.length
  · refine .inr ⟨⟨xs, xs[i], q, by simp [hlt]⟩, Pv (i + 1), fun H' p' => ⟨xs.length - (i + 1), by omega, rfl, hlt, p'⟩, fun x H' y => ?_⟩
    obtain ⟨e, y⟩ := y
    subst e
    exact hs i x _ (y xs q) p
  · have e : i = xs.length := by omega
    subst e
    exact .inl ⟨⟨xs, q, Nat.le_refl _⟩, hd H p⟩
end L2
namespace L2
open PySem PySem.Spec PyProof.Rows
section
variable {prog : Program} {w : World} {A : Around} {R : Result → Shared → Prop} {s : Shared} {elt t0 i0 t1 i1 : Expr} {ifs0 ifs1 : List Expr} {scope : Scope} {pos : Pos} {it acc : Value} {env : Env}
end
section
variable {X : Cx}
end
end L2
namespace L2
open PySem PySem.Spec PyProof.Rows
section
variable {κ : Type} [DecidableEq κ]
def valV (kvs : List (κ × V)) (k : κ) : Option V := (kvs.find? fun kv => decide (kv.1 = k)).map (·.2)
def putK (kvs : List (κ × V)) (k : κ) (v : V) : List (κ × V) :=
  if (kvs.any fun kv => decide (kv.1 = k)) = true then kvs.map (fun kv => if kv.1 = k then (kv.1, v) else kv) else kvs ++ [(k, v)]
def dropK (kvs : List (κ × V)) (k : κ) : List (κ × V) := kvs.filter fun kv => decide (kv.1 ≠ k)
theorem valV_pos {p : κ × V} {r : List (κ × V)} {k : κ} (e : p.1 = k) : valV (p :: r) k = some p.2 := by simp [valV, List.find?_cons, e]
theorem valV_neg {p : κ × V} {r : List (κ × V)} {k : κ} (e : ¬ p.1 = k) : valV (p :: r) k = valV r k := by simp [valV, List.find?_cons, e]
theorem valV_any (k : κ) : ∀ kvs : List (κ × V), (kvs.any fun kv => decide (kv.1 = k)) = (valV kvs k).isSome
  | [] => rfl
  | p :: r => by
    rw [List.any_cons]
    by_cases e : p.1 = k
    · simp only [valV_pos e, decide_eq_true e, Bool.true_or, Option.isSome_some]
    · rw [valV_neg e, decide_eq_false e, Bool.false_or]; exact valV_any k r
theorem valV_map (k j : κ) (y : V) : ∀ kvs : List (κ × V), valV (kvs.map fun kv => if kv.1 = k then (kv.1, y) else kv) j = (valV kvs j).map fun x => if j = k then y else x
  | [] => rfl
  | p :: r => by
    have ih := valV_map k j y r
    rw [List.map_cons]
    by_cases h : p.1 = k
    · rw [if_pos h]
      by_cases e : p.1 = j
      · rw [valV_pos (p := (p.1, y)) e, valV_pos e, Option.map_some, if_pos (e.symm.trans h)]
      · rw [valV_neg (p := (p.1, y)) e, valV_neg e, ih]
    · rw [if_neg h]
      by_cases e : p.1 = j
      · rw [valV_pos (p := p) e, valV_pos e, Option.map_some, if_neg (fun z => h (e.trans z))]
      · rw [valV_neg (p := p) e, valV_neg e, ih]
theorem valV_snoc (k j : κ) (y : V) : ∀ kvs : List (κ × V), valV kvs k = none → valV (kvs ++ [(k, y)]) j = if j = k then some y else valV kvs j
  | [], _ => by
    by_cases e : k = j
    · rw [if_pos e.symm]; exact valV_pos (p := (k, y)) e
    · rw [if_neg (fun z => e z.symm)]; exact valV_neg (p := (k, y)) e
  | p :: r, hn => by
    rw [List.cons_append]
    have hk : ¬ p.1 = k := fun z => by rw [valV_pos z] at hn; cases hn
    rw [valV_neg hk] at hn
    have ih := valV_snoc k j y r hn
    by_cases e : p.1 = j
    · rw [valV_pos e, valV_pos e, if_neg (fun z => hk (e.trans z))]
    · rw [valV_neg e, valV_neg e, ih]
theorem valV_put (kvs : List (κ × V)) (k j : κ) (y : V) : valV (putK kvs k y) j = if j = k then some y else valV kvs j := by
  unfold putK
  by_cases a : (kvs.any fun kv => decide (kv.1 = k)) = true
  · rw [if_pos a, valV_map]
    rw [valV_any] at a
    by_cases e : j = k
    · obtain ⟨x, hx⟩ := Option.isSome_iff_exists.mp a
      rw [if_pos e, e, hx, Option.map_some, if_pos rfl]
    · rw [if_neg e]
      cases valV kvs j with
      | none => rfl
      | some x => rw [Option.map_some, if_neg e]
  · rw [if_neg a]
    refine valV_snoc k j y kvs ?_
    rw [valV_any] at a
    cases q : valV kvs k with
    | none => rfl
    | some x => rw [q] at a; exact (a rfl).elim
theorem length_putK (kvs : List (κ × V)) (k : κ) (v : V) : (putK kvs k v).length ≤ kvs.length + 1 := by
  unfold putK
  split
  · rw [List.length_map]; omega
  · rw [List.length_append, List.length_cons, List.length_nil]; omega
theorem RelO.isSome_eq {o : Option V} {u : Option Value} (r : RelO o u) : o.isSome = u.isSome := by
  cases o with
  | none => cases u with
    | none => rfl
    | some _ => exact (show False from r).elim
  | some _ => cases u with
    | none => exact (show False from r).elim
    | some _ => rfl
theorem RelO.getD {o : Option V} {u : Option Value} {d : V} {d' : Value} (r : RelO o u) (rd : RelV d d') : RelV (o.getD d) (u.getD d') := by
  cases o with
  | none => cases u with
    | none => exact rd
    | some _ => exact (show False from r).elim
  | some _ => cases u with
    | none => exact (show False from r).elim
    | some _ => exact r
theorem KV.val {kvs : List (κ × V)} {vs : List (κ × Value)} (r : KV kvs vs) (k : κ) : RelO (valV kvs k) (valueAt vs k) := by
  unfold KV at r
  induction r with
  | nil => exact True.intro
  | @cons p q ps qs h t ih =>
    obtain ⟨h1, h2⟩ := h
    by_cases e : p.1 = k
    · have e' : q.1 = k := h1.symm.trans e
      have b : valueAt (q :: qs) k = some q.2 := by simp [valueAt, List.find?_cons, e']
      rw [valV_pos e, b]; exact h2
    · have e' : ¬ q.1 = k := fun z => e (h1.trans z)
      have b : valueAt (q :: qs) k = valueAt qs k := by simp [valueAt, List.find?_cons, e']
      rw [valV_neg e, b]; exact ih
theorem KV.any {kvs : List (κ × V)} {vs : List (κ × Value)} (r : KV kvs vs) (k : κ) : (kvs.any fun kv => decide (kv.1 = k)) = vs.any fun kv => decide (kv.1 = k) := by
  unfold KV at r
  induction r with
  | nil => rfl
  | cons h t ih => rw [List.any_cons, List.any_cons, ih, h.1]
theorem KV.repl {kvs : List (κ × V)} {vs : List (κ × Value)} (r : KV kvs vs) (k : κ) {y : V} {u : Value} (ry : RelV y u) :
    KV (kvs.map fun kv => if kv.1 = k then (kv.1, y) else kv) (vs.map fun kv => if kv.1 = k then (kv.1, u) else kv) := by
  unfold KV at r ⊢
  induction r with
  | nil => exact .nil
  | @cons p q ps qs h t ih =>
    rw [List.map_cons, List.map_cons]
    refine .cons ?_ ih
    obtain ⟨h1, h2⟩ := h
    by_cases e : p.1 = k
    · rw [if_pos e, if_pos (h1.symm.trans e)]; exact ⟨h1, ry⟩
    · rw [if_neg e, if_neg (fun z => e (h1.trans z))]; exact ⟨h1, h2⟩
theorem KV.put {kvs : List (κ × V)} {vs : List (κ × Value)} (r : KV kvs vs) (k : κ) {y : V} {u : Value} (ry : RelV y u) : KV (putK kvs k y) (stored vs k u) := by
  unfold putK stored
  rw [r.any k]
  by_cases e : (vs.any fun kv => decide (kv.1 = k)) = true
  · rw [if_pos e, if_pos e]; exact r.repl k ry
  · rw [if_neg e, if_neg e]; exact Paired.snoc r ⟨rfl, ry⟩
theorem KV.drop {kvs : List (κ × V)} {vs : List (κ × Value)} (r : KV kvs vs) (k : κ) : KV (dropK kvs k) (without vs k) := by
  unfold KV at r ⊢
  unfold dropK without
  induction r with
  | nil => exact .nil
  | @cons p q ps qs h t ih =>
    obtain ⟨h1, h2⟩ := h
    rw [List.filter_cons, List.filter_cons]
    by_cases e : p.1 = k
    · have a : ¬ decide (p.1 ≠ k) = true := by simp [e]
      have b : ¬ decide (q.1 ≠ k) = true := by simp [h1.symm.trans e]
      rw [if_neg a, if_neg b]; exact ih
    · have e' : ¬ q.1 = k := fun z => e (h1.trans z)
      have a : decide (p.1 ≠ k) = true := by simp [e]
      have b : decide (q.1 ≠ k) = true := by simp [e']
      rw [if_pos a, if_pos b]; exact .cons ⟨h1, h2⟩ ih
theorem KV.keys {kvs : List (κ × V)} {vs : List (κ × Value)} (r : KV kvs vs) : kvs.map (·.1) = vs.map (·.1) := by
  unfold KV at r
  induction r with
  | nil => rfl
  | cons h t ih => rw [List.map_cons, List.map_cons, ih, h.1]
theorem KV.length {kvs : List (κ × V)} {vs : List (κ × Value)} (r : KV kvs vs) : kvs.length = vs.length := Paired.length r
end
theorem kV_is {P : Program} {w : World} {k : Key} {u : Value} (r : RelV (kV k) u) : (mixKind P w).is k u = true := by
  cases k with
  | inl i => obtain ⟨t, e⟩ := (show ∃ t, u = Value.int i t from r); subst e; exact mixKind_int P w i t
  | inr x => obtain ⟨t, e⟩ := (show ∃ t, u = Value.str x t from r); subst e; exact mixKind_str P w x t
theorem items_are {P : Program} {w : World} : ∀ {ks : List Key} {us : List Value}, Vals (ks.map kV) us → ItemsAre (mixKind P w) ks us
  | [], _, r => by rw [List.map_nil] at r; cases r; exact .nil
  | k :: ks, _, r => by
    rw [List.map_cons] at r
    cases r with
    | cons h t => exact .cons (kV_is h) (items_are t)
abbrev KT (H : Hp) : List (List Key × V) → List (List Key × Addr × Value) → Prop := Paired fun p q => p.1 = q.1 ∧ H q.2.1 = some (.tup (p.1.map kV)) ∧ RelV p.2 q.2.2
theorem KT.val {H : Hp} {kvs : List (List Key × V)} {xs : List (List Key × Addr × Value)} (r : KT H kvs xs) (k : List Key) : RelO (valV kvs k) ((atKey xs k).map (·.2)) := by
  induction r with
  | nil => exact True.intro
  | @cons p q ps qs h t ih =>
    obtain ⟨h1, _, h2⟩ := h
    by_cases e : p.1 = k
    · have e' : q.1 = k := h1.symm.trans e
      have b : atKey (q :: qs) k = some q.2 := by simp [atKey, List.find?_cons, e']
      rw [valV_pos e, b]; exact h2
    · have e' : ¬ q.1 = k := fun z => e (h1.trans z)
      have b : atKey (q :: qs) k = atKey qs k := by simp [atKey, List.find?_cons, e']
      rw [valV_neg e, b]; exact ih
theorem KT.repl {H : Hp} {kvs : List (List Key × V)} {xs : List (List Key × Addr × Value)} (r : KT H kvs xs) (k : List Key) {y : V} {u : Value} (ry : RelV y u) :
    KT H (kvs.map fun kv => if kv.1 = k then (kv.1, y) else kv) (xs.map (putAt k u)) := by
  induction r with
  | nil => exact .nil
  | @cons p q ps qs h t ih =>
    rw [List.map_cons, List.map_cons]
    refine .cons ?_ ih
    obtain ⟨h1, h2, h3⟩ := h
    unfold putAt
    by_cases e : p.1 = k
    · rw [if_pos e, if_pos (h1.symm.trans e)]; exact ⟨h1, h2, ry⟩
    · rw [if_neg e, if_neg (fun z => e (h1.trans z))]; exact ⟨h1, h2, h3⟩
theorem KT.put {H : Hp} {kvs : List (List Key × V)} {xs : List (List Key × Addr × Value)} (r : KT H kvs xs) (k : List Key) {b : Addr} {y : V} {u : Value} (hb : H b = some (.tup (k.map kV))) (ry : RelV y u) :
    KT H (putK kvs k y) (storedH xs k b u) := by
  have e : (kvs.any fun kv => decide (kv.1 = k)) = (atKey xs k).isSome := by
    rw [valV_any, (r.val k).isSome_eq, Option.isSome_map]
  unfold putK storedH
  rw [e]
  by_cases q : (atKey xs k).isSome = true
  · rw [if_pos q, if_pos q]; exact r.repl k ry
  · rw [if_neg q, if_neg q]; exact Paired.snoc r ⟨rfl, hb, ry⟩
theorem KT.keeps {H H' : Hp} {kvs : List (List Key × V)} {xs : List (List Key × Addr × Value)} (r : KT H kvs xs) (ht : ∀ b ys, H b = some (.tup ys) → H' b = some (.tup ys)) : KT H' kvs xs :=
  Paired.mapP r fun _ _ z => ⟨z.1, ht _ _ z.2.1, z.2.2⟩
section
variable {P : Program} {w : World} {H : Hp} {h : Heap} {a : Addr}
theorem rd_of {u : HO} (ok : HOk P w H h) (e : Rd H a u) : ObjOk P w H h a u := e.ok ok
theorem dk_rd {kvs : List (Key × V)} (ok : HOk P w H h) (e : Rd H a (.dK kvs)) : kvs.length ≤ sizeLine ∧ (a == sysModules) = false ∧ ∃ vs, KV kvs vs ∧ h.DictOf (mixKind P w) a vs :=
  show ObjOk P w H h a (.dK kvs) from rd_of ok e
theorem dk_of {kvs : List (Key × V)} (ok : HOk P w H h) (e : H a = some (.dK kvs)) : kvs.length ≤ sizeLine ∧ (a == sysModules) = false ∧ ∃ vs, KV kvs vs ∧ h.DictOf (mixKind P w) a vs := dk_rd ok (.inl e)
theorem key_of {ks : List Key} (ok : HOk P w H h) (e : H a = some (.tup (ks.map kV))) : (tupleKind (mixKind P w)).is h ks a := by
  obtain ⟨_, its, r, o, h1, h2, n, h3⟩ := (show ObjOk P w H h a (.tup (ks.map kV)) from ok a _ e)
  exact ⟨o, its.toArray, n, h1, h2, h3, by simpa using items_are r⟩
theorem dt_rd {kvs : List (List Key × V)} (ok : HOk P w H h) (e : Rd H a (.dT kvs)) : kvs.length ≤ sizeLine ∧ (a == sysModules) = false ∧
    ∃ xs, KT H kvs xs ∧ h.DictOfH (tupleKind (mixKind P w)) a xs := by
  obtain ⟨z, y, xs, r, o, es, ep, h1, h2, h3, h4, h5⟩ := (show ObjOk P w H h a (.dT kvs) from rd_of ok e)
  refine ⟨z, y, xs, r, o, es, ep, h1, h2, h3, h4, fun x hx => ?_, h5⟩
  have all : ∀ {l : List (List Key × V)} {m : List (List Key × Addr × Value)}, KT H l m → ∀ x ∈ m, (tupleKind (mixKind P w)).is h x.1 x.2.1 := by
    intro l m q
    induction q with
    | nil => intro x hx; exact nomatch hx
    | @cons p q ps qs hq t ih =>
      intro x hx
      rcases List.mem_cons.mp hx with e | hx
      · subst e
        exact key_of ok (by rw [← hq.1]; exact hq.2.1)
      · exact ih x hx
  exact all r x hx
end
def DGet (H : Hp) (a : Addr) (y : V) (r : Option V) : Prop :=
  (∃ kvs k, Rd H a (.dK kvs) ∧ y = kV k ∧ r = valV kvs k) ∨ ∃ kvs k b, Rd H a (.dT kvs) ∧ y = .ref b ∧ H b = some (.tup (k.map kV)) ∧ r = valV kvs k
def DPut (H : Hp) (a : Addr) (y v : V) (H' : Hp) : Prop :=
  (∃ kvs k, H a = some (.dK kvs) ∧ y = kV k ∧ kvs.length < sizeLine ∧ H' = upd H a (.dK (putK kvs k v))) ∨
  ∃ kvs k b, H a = some (.dT kvs) ∧ y = .ref b ∧ H b = some (.tup (k.map kV)) ∧ kvs.length < sizeLine ∧ H' = upd H a (.dT (putK kvs k v))
theorem DGet.k {H : Hp} {a : Addr} {kvs : List (Key × V)} {k : Key} (e : H a = some (.dK kvs)) : DGet H a (kV k) (valV kvs k) := .inl ⟨kvs, k, .inl e, rfl, rfl⟩
theorem DGet.t {H : Hp} {a b : Addr} {kvs : List (List Key × V)} {k : List Key} (e : H a = some (.dT kvs)) (eb : H b = some (.tup (k.map kV))) : DGet H a (.ref b) (valV kvs k) := .inr ⟨kvs, k, b, .inl e, rfl, eb, rfl⟩
theorem DPut.k {H : Hp} {a : Addr} {kvs : List (Key × V)} {k : Key} {v : V} (e : H a = some (.dK kvs)) (hl : kvs.length < sizeLine) : DPut H a (kV k) v (upd H a (.dK (putK kvs k v))) := .inl ⟨kvs, k, e, rfl, hl, rfl⟩
theorem DPut.t {H : Hp} {a b : Addr} {kvs : List (List Key × V)} {k : List Key} {v : V} (e : H a = some (.dT kvs)) (eb : H b = some (.tup (k.map kV))) (hl : kvs.length < sizeLine) :
    DPut H a (.ref b) v (upd H a (.dT (putK kvs k v))) := .inr ⟨kvs, k, b, e, rfl, eb, hl, rfl⟩
section
variable {X : Cx} {pins : List (Addr × Obj)} {σ : St} {H : Hp} {s : Shared} {a : Addr} {y v : V} {u r : Value} {o : Option V} {A : Around} {E : Value → Shared → Prop}
theorem Inv.big (I : Inv X pins σ H s) : sysModules < s.heap.objs.size := by
  have h : mainGlobals < s.heap.objs.size := (I.mod.glob.keeps I.bk).lt
  exact Nat.lt_trans (by decide) h
theorem d_getItem {Q : Value → Shared → Prop} (hu : A.units + 1 < cLine) (I : Inv X pins σ H s) (g : DGet H a y (some v)) (ry : RelV y u) (h : ∀ w' s', Inv X pins σ H s' → RelV v w' → Q w' s') :
    wpAny (model X.prog X.w) A (getItem (.ref a) u) Q E s := by
  rcases g with ⟨kvs, k, e, ey, l⟩ | ⟨kvs, k, b, e, ey, eb, l⟩
  · subst ey
    obtain ⟨z, hd, vs, rel, dd⟩ := dk_rd I.hok e
    obtain ⟨w', hw, rw'⟩ := RelO.some_of (v := v) (o := valueAt vs k) (by rw [l]; exact rel.val k)
    exact wpAny_getItem_of (kV_is ry) dd.mapOf hw (h w' _ (I.tok _) rw')
  · subst ey
    cases (show u = Value.ref b from ry)
    obtain ⟨z, hd, xs, rel, dd⟩ := dt_rd I.hok e
    obtain ⟨w', hw, rw'⟩ := RelO.some_of (v := v) (o := (atKey xs k).map (·.2)) (by rw [l]; exact rel.val k)
    obtain ⟨p, hp, hp2⟩ := Option.map_eq_some_iff.mp hw
    refine wpAny_getItem_heap (tupleKind_room_in1 hu) (key_of I.hok eb) dd hp ?_
    rw [hp2]
    exact h w' _ (I.tok _) rw'
theorem d_in {Q : Value → Shared → Prop} (hu : A.units + 1 < cLine) (I : Inv X pins σ H s) (g : DGet H a y o) (ry : RelV y u) (h : ∀ s', Inv X pins σ H s' → Q (.bool o.isSome) s') :
    wpAny (model X.prog X.w) A (compareOp .In u (.ref a)) Q E s := by
  rcases g with ⟨kvs, k, e, ey, l⟩ | ⟨kvs, k, b, e, ey, eb, l⟩
  · subst ey
    obtain ⟨z, hd, vs, rel, dd⟩ := dk_rd I.hok e
    refine wpAny_in_of (kV_is ry) hd dd.mapOf ?_
    rw [← (rel.val k).isSome_eq, ← l]
    exact h _ (I.tok _)
  · subst ey
    cases (show u = Value.ref b from ry)
    obtain ⟨z, hd, xs, rel, dd⟩ := dt_rd I.hok e
    refine wpAny_in_heap (tupleKind_room_in1 hu) (key_of I.hok eb) hd dd ?_
    have q := (rel.val k).isSome_eq
    rw [Option.isSome_map] at q
    rw [← q, ← l]
    exact h _ (I.tok _)
theorem d_notIn {Q : Value → Shared → Prop} (hu : A.units + 1 < cLine) (I : Inv X pins σ H s) (g : DGet H a y o) (ry : RelV y u) (h : ∀ s', Inv X pins σ H s' → Q (.bool (!o.isSome)) s') :
    wpAny (model X.prog X.w) A (compareOp .NotIn u (.ref a)) Q E s := by
  rcases g with ⟨kvs, k, e, ey, l⟩ | ⟨kvs, k, b, e, ey, eb, l⟩
  · subst ey
    obtain ⟨z, hd, vs, rel, dd⟩ := dk_rd I.hok e
    refine wpAny_notIn_of (kV_is ry) hd dd.mapOf ?_
    rw [← (rel.val k).isSome_eq, ← l]
    exact h _ (I.tok _)
  · subst ey
    cases (show u = Value.ref b from ry)
    obtain ⟨z, hd, xs, rel, dd⟩ := dt_rd I.hok e
    refine wpAny_notIn_heap (tupleKind_room_in1 hu) (key_of I.hok eb) hd dd ?_
    have q := (rel.val k).isSome_eq
    rw [Option.isSome_map] at q
    rw [← q, ← l]
    exact h _ (I.tok _)
theorem d_write {h' : Heap} {t' : Nat} {ob : HO} (I : Inv X pins σ H s) (mu : Mut (H a)) (hs : Heap.SameBut a s.heap h') (he : ∃ q, h'.get? a = some q) (new : ObjOk X.prog X.w (upd H a ob) h' a ob) :
    Inv X pins σ (upd H a ob) { s with heap := h', toks := t' } :=
  I.write (x := a) (e := a) mu (.inl rfl) (fun b q hb z => (hs.2 b hb).trans z) he new
theorem dk_new {P : Program} {w : World} {H' : Hp} {h' : Heap} {kvs : List (Key × V)} {vs : List (Key × Value)} (z : kvs.length ≤ sizeLine) (hd : (a == sysModules) = false) (rel : KV kvs vs) (dd : h'.DictOf (mixKind P w) a vs) :
    ObjOk P w H' h' a (.dK kvs) := ⟨z, hd, vs, rel, dd⟩
end
section
variable {X : Cx} {pins : List (Addr × Obj)} {σ : St} {H : Hp} {s : Shared} {a : Addr} {kvs : List (Key × V)} {k : Key} {u : Value} {A : Around} {E : Value → Shared → Prop}
end
def NoSl (i : Expr) : Prop := ∀ ov iv, subscripted i false ov iv = operate [ov, iv] (getItem ov iv)
theorem subD_of {prog : Program} {w : World} {A : Around} {E : Value → Shared → Prop} {s : Shared} {env : Env} {value slice : Expr} {pos : Pos} {T id : String} {Q : Value → Shared → Prop}
    (hl : typeLookup (.type T) "__getitem__" = pure (some (.builtin id))) (hs : NoSl slice)
    (h : wpAny (model prog w) A (eval value env) (fun o s₁ => wpAny (model prog w) A (eval slice env) (fun i s₂ => s₂.TypeIs o T ∧ wpAny (model prog w) A (getItem o i) Q E s₂) E s₁) E s) :
    wpAny (model prog w) A (eval (.Subscript value slice pos) env) Q E s := by
  refine Subscript_ (wpAny_mono h (fun o s₁ h₁ => wpAny_mono h₁ (fun i s₂ h₂ => ?_) fun _ _ x => x) fun _ _ x => x)
  obtain ⟨hT, h₂⟩ := h₂
  unfold subscriptTail
  refine wpAny_bind ?_
  rw [getitemInPython_of_ne hT.not_modules]
  refine wpAny_bind (wpAny_specialOf hT hl ?_)
  have fin : wpAny (model prog w) A (subscripted slice false o i) (fun r s₃ => wpAny (model prog w) A (letTemporaryGo value o r >>= fun _ => pure r) Q E s₃) E s₂ := by
    rw [hs o i]
    exact wpAny_operating (wpAny_mono h₂ (fun r s₃ h₃ => wpAny_bind (wpAny_letTemporaryGo (wpAny_pure h₃))) fun _ _ x => x)
  first
    | exact wpAny_pure (wpAny_bind fin)
    | exact wpAny_bind (wpAny_pure (wpAny_bind fin))
    | exact wpAny_bind fin
theorem dict_typeIs {X : Cx} {pins : List (Addr × Obj)} {σ : St} {H : Hp} {s : Shared} {a : Addr} {y : V} {o : Option V} (I : Inv X pins σ H s) (g : DGet H a y o) : s.TypeIs (.ref a) "dict" := by
  rcases g with ⟨kvs, k, e, _, _⟩ | ⟨kvs, k, b, e, _, _, _⟩
  · obtain ⟨_, _, vs, _, dd⟩ := dk_rd I.hok e
    exact dd.typeIs
  · obtain ⟨_, _, xs, _, dd⟩ := dt_rd I.hok e
    exact dd.typeIs
def tDGet (td ty : TE) : TE := fun σ H Q => td σ H fun x H1 => ty σ H1 fun y H2 => ∃ a v, x = .ref a ∧ DGet H2 a y (some v) ∧ Q v H2
def tDIn (ty td : TE) : TE := fun σ H Q => ty σ H fun y H1 => td σ H1 fun x H2 => ∃ a o, x = .ref a ∧ DGet H2 a y o ∧ Q (.bl o.isSome) H2
def tDNotIn (ty td : TE) : TE := fun σ H Q => ty σ H fun y H1 => td σ H1 fun x H2 => ∃ a o, x = .ref a ∧ DGet H2 a y o ∧ Q (.bl (!o.isSome)) H2
section
variable {X : Cx} {o i e value : Expr} {pos pos' tpos : Pos} {td ty tv : TE}
theorem pe_dget (hu : X.A.units + 1 < cLine) (ho : PE X o td) (hi : PE X i ty) (hs : NoSl i) : PE X (.Subscript o i pos) (tDGet td ty) := by
  intro pins s σ H Q I h
  refine subD_of PySem.F.slot_dict_getitem.lookup hs (thn (ho pins s σ H _ I h) fun u s1 ⟨x, H1, I1, rx, q1⟩ => thn (hi pins s1 σ H1 _ I1 q1) fun iv s2 ⟨y, H2, I2, ry, a, v, ex, g, q2⟩ => ?_)
  subst ex
  obtain rfl : u = Value.ref a := rx
  exact ⟨dict_typeIs I2 g, d_getItem hu I2 g ry fun w' s3 I3 rw' => ⟨v, H2, I3, rw', q2⟩⟩
theorem pc_din (hu : X.A.units + 1 < cLine) (hi : PE X i ty) (ho : PE X o td) : PC X .In i o (tDIn ty td) := by
  intro pins s σ H Q I h
  refine thn (hi pins s σ H _ I h) fun iv s1 ⟨y, H1, I1, ry, q1⟩ => thn (ho pins s1 σ H1 _ I1 q1) fun u s2 ⟨x, H2, I2, rx, a, ov, ex, g, q2⟩ => ?_
  subst ex
  obtain rfl : u = Value.ref a := rx
  exact d_in hu I2 g ry fun s3 I3 => ⟨.bl ov.isSome, H2, I3, rfl, q2⟩
theorem pc_dnotin (hu : X.A.units + 1 < cLine) (hi : PE X i ty) (ho : PE X o td) : PC X .NotIn i o (tDNotIn ty td) := by
  intro pins s σ H Q I h
  refine thn (hi pins s σ H _ I h) fun iv s1 ⟨y, H1, I1, ry, q1⟩ => thn (ho pins s1 σ H1 _ I1 q1) fun u s2 ⟨x, H2, I2, rx, a, ov, ex, g, q2⟩ => ?_
  subst ex
  obtain rfl : u = Value.ref a := rx
  exact d_notIn hu I2 g ry fun s3 I3 => ⟨.bl (!ov.isSome), H2, I3, rfl, q2⟩
end
theorem dk_empty {P : Program} {w : World} {H : Hp} (h : Heap) (hb : sysModules < h.objs.size) : ObjOk P w H (h.push { cls := .type "dict", data := .dict #[] }) h.objs.size (.dK []) :=
  ⟨Nat.zero_le _, beq_eq_false_iff_ne.mpr (Ne.symm (Nat.ne_of_lt hb)), [], .nil, Heap.DictOf.new h⟩
def tDNewK : TE := fun _ H Q => ∀ p, H p = none → Q (.ref p) (upd H p (.dK []))
section
variable {X : Cx} {pos : Pos}
theorem pe_dnewK : PE X (.Dict [] [] pos) tDNewK := fun pins s σ H Q I h =>
  wpAny_Dict_empty ⟨.ref s.heap.objs.size, _, I.laid (a := s.heap.objs.size) (o := .dK []) (t' := s.toks) (fun _ _ q => Heap.get?_push_of_some _ q) (Nat.le_refl _) (dk_empty s.heap I.big), rfl, h _ (I.hok.fresh (Nat.le_refl _))⟩
end
structure M2 (X : Cx) (o : Expr) (m : Str) (apos : Pos) (e f : Expr) (cpos : Pos) : Prop where
  base : attributeBase o m X.env (eval o X.env) = eval o X.env
  few : ((backTo cpos (starEach [e, f] X.env)).all (fun x => !x.1) && (backToKw cpos (keywordEach [] X.env)).all (fun x => x.1.isSome)
    && decide (([e, f] : List Expr).length + ([] : List Keyword).length + (if ([] : List Keyword).isEmpty then 0 else 1) < 30)) = true
  line : (apos.endLine == cpos.line) = true
  trees : backTo cpos (starEach [e, f] X.env) = [(false, eval e X.env), (false, eval f X.env)]
def IsD (H : Hp) (a : Addr) : Prop := (∃ kvs, Rd H a (.dK kvs)) ∨ ∃ kvs, Rd H a (.dT kvs)
theorem isD_at {X : Cx} {pins : List (Addr × Obj)} {σ : St} {H : Hp} {s : Shared} {a : Addr} (I : Inv X pins σ H s) (d : IsD H a) :
    s.TypeIs (.ref a) "dict" ∧ (∀ b, Value.ref a = .ref b → ∃ ob, s.heap.get? b = some ob ∧ ob.dict = none) ∧ (a == sysModules) = false := by
  rcases d with ⟨kvs, e⟩ | ⟨kvs, e⟩
  · obtain ⟨_, hd, vs, _, dd⟩ := dk_rd I.hok e
    refine ⟨dd.typeIs, fun b q => ?_, hd⟩
    cases q
    obtain ⟨ob, _, _, h1, h2, _⟩ := dd
    exact ⟨ob, h1, h2.2.1⟩
  · obtain ⟨_, hd, xs, _, dd⟩ := dt_rd I.hok e
    refine ⟨dd.typeIs, fun b q => ?_, hd⟩
    cases q
    obtain ⟨ob, _, _, h1, h2, _⟩ := dd
    exact ⟨ob, h1, h2.2.1⟩
section
variable {X : Cx} {pins : List (Addr × Obj)} {σ : St} {H : Hp} {s : Shared} {a : Addr} {y d : V} {u r : Value} {o : Option V} {A : Around} {E : Value → Shared → Prop}
theorem d_get2 {Q : Value → Shared → Prop} (hu : A.units + 1 < cLine) (I : Inv X pins σ H s) (g : DGet H a y o) (ry : RelV y u) (rd : RelV d r) (h : ∀ w' s', Inv X pins σ H s' → RelV (o.getD d) w' → Q w' s') :
    wpAny (model X.prog X.w) A (call (.builtin "dict.get") [.ref a, u, r]) Q E s := by
  rcases g with ⟨kvs, k, e, ey, l⟩ | ⟨kvs, k, b, e, ey, eb, l⟩
  · subst ey
    obtain ⟨z, hd, vs, rel, dd⟩ := dk_rd I.hok e
    refine call_meetsIn PySem.F.slot_dict_get dd.typeIs PySem.F.entry_dict_get (PySem.F.args_dict_get_3 _ _ _) (meets_dict_get_default (mixKind X.prog X.w) a (kV_is ry) hd r) ⟨_, dd.mapOf, h _ _ (I.tok _) ?_⟩
    rw [l]
    exact (rel.val k).getD rd
  · subst ey
    cases (show u = Value.ref b from ry)
    obtain ⟨z, hd, xs, rel, dd⟩ := dt_rd I.hok e
    refine call_meetsIn PySem.F.slot_dict_get dd.typeIs PySem.F.entry_dict_get (PySem.F.args_dict_get_3 _ _ _) (meetsH_dict_get_default (tupleKind (mixKind X.prog X.w)) a b hd r) ⟨tupleKind_room_in1 hu, k, xs, key_of I.hok eb, dd, h _ _ (I.tok _) ?_⟩
    rw [l]
    exact (rel.val k).getD rd
end
def tDGet2 (td ty tx : TE) : TE := fun σ H Q => td σ H fun x H1 => ∃ a, x = .ref a ∧ IsD H1 a ∧ ty σ H1 fun y H2 => tx σ H2 fun z H3 => ∃ o, DGet H3 a y o ∧ Q (o.getD z) H3
section
variable {X : Cx} {o e f : Expr} {apos cpos : Pos} {td ty tx : TE}
theorem pe_dget2 (hu : X.A.units + 1 < cLine) (ho : PE X o td) (he : PE X e ty) (hf : PE X f tx) (m : M2 X o "get" apos e f cpos) : PE X (.Call (.Attribute o "get" apos) [e, f] [] cpos) (tDGet2 td ty tx) := by
  intro pins s σ H Q I h
  refine wpAny_Call_method m.base m.few m.line PySem.F.plainAttrs_dict PySem.F.slot_dict_get PySem.F.type_dict_get (thn (ho pins s σ H _ I h) fun u s1 ⟨x, H1, I1, rx, a, ex, d, q1⟩ => ?_)
  subst ex
  obtain rfl : u = Value.ref a := rx
  obtain ⟨t1, t2, _⟩ := isD_at I1 d
  refine ⟨t1, t2, ?_⟩
  rw [m.trees]
  refine Calls.callWith_builtin rfl (Calls.evalArgs_plain (Calls.spliced_cons (thn (he pins s1 σ H1 _ I1 q1) fun iv s2 ⟨y, H2, I2, ry, q2⟩ =>
    Calls.spliced_cons (thn (hf pins s2 σ H2 _ I2 q2) fun fv s3 ⟨z, H3, I3, rz, ov, g, q3⟩ => Calls.spliced_nil ?_))))
  exact d_get2 hu I3 g ry rz fun w' s4 I4 rw' => ⟨_, H3, I4, rw', q3⟩
end
section
variable {X : Cx} {pins : List (Addr × Obj)} {σ : St} {H : Hp} {s : Shared} {a : Addr} {kvs : List (Key × V)} {A : Around} {E : Value → Shared → Prop}
end
section
variable {X : Cx} {pins : List (Addr × Obj)} {σ : St} {H : Hp} {s : Shared} {a : Addr} {y : V} {u : Value} {A : Around} {E : Value → Shared → Prop}
end
end L2
namespace L2
open PySem PySem.Spec PyProof.Rows
section
variable {prog : Program} {w : World} {A : Around} {E : Value → Shared → Prop}
end
section
variable {X : Cx}
end
end L2
namespace L2
open PySem PySem.Spec PyProof.Rows
section
variable {X : Cx} {pins : List (Addr × Obj)} {σ : St} {H : Hp} {s : Shared} {h' : Heap}
theorem Inv.turnedNew {t' : Nat} {ch : List Addr} {T : Addr} {ob : HO} (I : Inv X pins σ H s) (k : ∀ b o, b ∉ ch → s.heap.get? b = some o → h'.get? b = some o) (hf : ∀ b ∈ ch, FpOk X pins H b) (hT : s.heap.objs.size ≤ T)
    (new : ObjOk X.prog X.w (upd H T ob) h' T ob) : Inv X pins σ (upd H T ob) { s with heap := h', toks := t' } := by
  have hn : H T = none := I.hok.fresh hT
  have nit : ∀ b u, H b = some u → b ∉ ch := fun b u e z => by
    have q := (hf b z).1
    rw [q] at e; cases e
  refine I.step (g' := s.gens) (d' := s.drawn) (ch := ch) (fun b hb => ⟨(hf b hb).2.2.2.1, (hf b hb).2.1, (hf b hb).2.2.2.2.1, (hf b hb).2.2.2.2.2⟩) (fun b o _ _ hc e _ => k b o hc e) (fun b o _ _ hc e _ => ⟨o.slots, k b o hc e⟩)
    (fun b o _ e n => ?_) (fun b o hc e => ⟨o, k b o hc e⟩) (fun b xs e => ?_) (fun b o u e => ?_) (fun b ps e => ⟨#[], ?_⟩) (fun m hm => ?_) (fun b u e => ?_) I.bare
  · rw [upd_ne (Nat.ne_of_lt (Nat.lt_of_lt_of_le (Heap.lt_size e) hT))]; exact n
  · rw [upd_ne (ne_of_none e hn)]; exact e
  · rw [upd_ne (ne_of_none e hn)]; exact e
  · rw [upd_ne (ne_of_none e hn), e]; simp
  · obtain ⟨o, es, ep, ho, r⟩ := hm
    exact ⟨o, es, ep, k _ o (fun z => (hf _ z).2.1 rfl) ho, r⟩
  · by_cases hb : b = T
    · subst hb
      rw [upd_same] at e
      cases e
      exact new
    · rw [upd_ne hb] at e
      refine (I.hok b u e).stay (fun c v hc q => k c v ?_ q) (fun c q => by rw [upd_ne (ne_of_none q hn)]; exact q) fun c xs q => by rw [upd_ne (ne_of_none q hn)]; exact q
      rcases hc with z | z
      · rw [z]; exact nit b u e
      · exact nit c _ z
end
section
variable {X : Cx}
end
def RgC (i j c : Int) (n : Nat) : Prop := c ≠ 0 ∧ c.natAbs < 1073741824 ∧ Builtin.Range.small i j c = true ∧ Builtin.Range.rangeSize i j c = n
theorem RgC.neg {i j : Int} (ha : -(2 ^ 62) ≤ i) (ha' : i < 2 ^ 62) (hb : -(2 ^ 62) ≤ j) (hb' : j < 2 ^ 62) : RgC i j (-1) (i - j).toNat :=
  ⟨by decide, by decide, PySem.W.small_down ha ha' hb hb', PySem.W.rangeSize_downNat i j⟩
section
variable {X : Cx} {tg : Expr}
end
section
variable {X : Cx} {tg : Expr}
end
section
variable {prog : Program} {w : World} {A : Around} {E : Value → Shared → Prop} {s : Shared}
end
section
variable {X : Cx} {pins : List (Addr × Obj)} {σ : St} {H : Hp} {s : Shared} {d : Addr} {o : Obj}
end
section
variable {P : Program} {w : World} {K : PySem.W.Frag} {tg : Expr} {d : Addr} {o : Obj} {es : Array DictEntry} {ep : Nat}
end
section
variable {X : Cx} {tg e : Expr} {td : TE} {apos cpos : Pos}
end
def Ite (K : PySem.W.Frag) (a : Addr) : It :=
  ⟨fun i H => ∃ (xs : List V) (x : V), SqL K H a xs ∧ xs[i]? = some x, fun i H v H' => ∃ T x, v = .ref T ∧ H T = none ∧ H' = upd H T (.tup [.int (i : Nat), x]) ∧ ∀ xs, SqL K H a xs → xs[i]? = some x, fun i H => ∃ xs : List V, SqL K H a xs ∧ xs.length ≤ i⟩
theorem turn_enum {P : Program} {w : World} {K : PySem.W.Frag} {elts : List Expr} {kk : Nat} {tpos : Pos} (a e it : Addr) :
    Turn P w K (.Tuple elts kk tpos) (Ite K a) [e, it] e (fun i h => (∃ old, IsEnum h e it ((i : Nat) : Int) old) ∧ h.IsListIter it a i ∧ e ≠ it) where
  mem := by simp
  obj := fun i h st b hb => by
    obtain ⟨⟨old, he⟩, ⟨o, ho, hc, hd⟩, _⟩ := st
    have e' : b = e ∨ b = it := by simpa using hb
    rcases e' with z | z
    · rw [z]; exact ⟨_, he, fun v q => nomatch q⟩
    · rw [z]; exact ⟨o, ho, fun v q => by rw [hd] at q; cases q⟩
  keep := fun i h h' st k => let ⟨⟨old, he⟩, hi, hne⟩ := st; ⟨⟨old, k e (by simp) _ he⟩, hi.at fun o q => k it (by simp) o q, hne⟩
  item := by
    intro X hP hw hK hc i pins s σ H E I hf st hg
    subst hP hw hK
    obtain ⟨⟨old, he⟩, hit, hne⟩ := st
    obtain ⟨xs, x, hq, hx⟩ := hg
    obtain ⟨its, rv, p, hz⟩ := I.list hq
    obtain ⟨u, hu, ru⟩ := rv.get hx
    have hel : e < s.heap.objs.size := Heap.lt_size he
    have hil : it < s.heap.objs.size := by obtain ⟨_, q, _⟩ := hit; exact Heap.lt_size q
    refine wpAny_pyNext_enum_item he hit p.isList (x := u) (by simpa using hu) hne fun h' ho hit' hT hsz hk => ?_
    refine ⟨_, rfl, wpAny_letOwnedTupleGo_enum (s := { s with heap := h', toks := s.toks + 1 }) ho fun h'' he' sb => ?_⟩
    have hT2 : h''.get? s.heap.objs.size = some { cls := .type "tuple", data := .seq #[.int i s.toks, u] } := (sb.2 _ (Nat.ne_of_gt hel)).trans hT
    have new : ObjOk X.prog X.w (upd H s.heap.objs.size (.tup [.int (i : Nat), x])) h'' s.heap.objs.size (.tup [.int (i : Nat), x]) :=
      ⟨by show 2 ≤ sizeLine; decide, [.int i s.toks, u], .cons ⟨_, rfl⟩ (.cons ru .nil), ⟨_, hT2, rfl, _, rfl⟩⟩
    have I1 : Inv X pins σ (upd H s.heap.objs.size (.tup [.int (i : Nat), x])) { s with heap := h'', toks := s.toks + 1 } :=
      I.turnedNew (ch := [e, it]) (fun b ob hb q => (sb.2 b (fun z => hb (by simp [z]))).trans (hk b ob (fun z => hb (by simp [z])) (fun z => hb (by simp [z])) q)) hf (Nat.le_refl _) new
    refine ⟨.ref s.heap.objs.size, _, I1, rfl, ⟨_, x, rfl, I.hok.fresh (Nat.le_refl _), rfl, fun ys hy => by rw [I.list_inj hy hq]; exact hx⟩, ⟨⟨u, ?_⟩, hit'.at fun o q => (sb.2 it (Ne.symm hne)).trans q, hne⟩, fun b hb => ?_⟩
    · have e1 : ((i + 1 : Nat) : Int) = (i : Int) + 1 := by omega
      rw [e1]; exact he'
    · have hb' : b < s.heap.objs.size := by
        have e' : b = e ∨ b = it := by simpa using hb
        rcases e' with z | z
        · rw [z]; exact hel
        · rw [z]; exact hil
      rw [upd_ne (Nat.ne_of_lt hb')]
      exact (hf b hb).1
  done := by
    intro X hP hw hK hc i pins s σ H E I hf st hg
    subst hP hw hK
    obtain ⟨⟨old, he⟩, hit, hne⟩ := st
    obtain ⟨xs, hq, hx⟩ := hg
    obtain ⟨its, rv, p, hz⟩ := I.list hq
    obtain ⟨f0, f1, f2, f3, f4, f5⟩ := hf it (by simp)
    have hl := rv.length
    exact wpAny_pyNext_enum_end (I.ok.hd hc) he hit p.isList (by simp; omega) fun h' eb => ⟨rfl, I.turned (t' := s.toks) (fun b o hb q => eb b o hb q) f0 f1 f3 f4 f5⟩
  self := fun A i s Q E st h => let ⟨⟨_, he⟩, _⟩ := st; wpAny_pyIter_enum he h
def iEnum (K : PySem.W.Frag) (ta : TA) : TI := fun σ H R => ta σ H fun vs H1 => ∃ a xs, vs = [.ref a] ∧ SqL K H1 a xs ∧ R (Ite K a) H1
theorem pi_enum {X : Cx} {e : Expr} {ta : TA} {p pos tpos : Pos} {elts : List Expr} {kk : Nat} (hg : Gl X "enumerate") (hm : X.mg "enumerate" = none) (ha : PA X [e] ta) (hs : starEach [e] X.env = [(false, eval e X.env)] := by rfl) :
    PI X (.Tuple elts kk tpos) (.Call (.Name "enumerate" p) [e] [] pos) (iEnum X.K ta) := by
  intro pins s σ H R I h
  refine Call_ (ld_blt I hg hm boot_enumerate (PyProof.Rows.callWith_type1 (thn (ha pos pins s σ H _ I h) fun us s1 ⟨vs, H1, I1, r1, q1⟩ => ?_) hs rfl))
  obtain ⟨a, xs, ex, hq, q⟩ := q1
  subst ex
  cases r1 with
  | cons r rr =>
    cases rr
    cases r
    obtain ⟨its, rv, p', hz⟩ := I1.list hq
    refine call_enumerate_list p'.isList fun h' he hit hsz hk => wpAny_pyIter_enum he ?_
    have I2 : Inv X pins σ H1 { s1 with heap := h' } := I1.kept (t' := s1.toks) hk
    refine ⟨s1.heap.objs.size + 1, [s1.heap.objs.size + 1, s1.heap.objs.size], _, _, H1, rfl, I2, turn_enum a (s1.heap.objs.size + 1) s1.heap.objs.size, ⟨⟨.none, he⟩, hit, Nat.succ_ne_self _⟩, fun b hb => ?_, q⟩
    have e' : b = s1.heap.objs.size + 1 ∨ b = s1.heap.objs.size := by simpa using hb
    have hle : s1.heap.objs.size ≤ b := by
      rcases e' with z | z
      · rw [z]; exact Nat.le_add_right _ _
      · rw [z]; exact Nat.le_refl _
    exact I1.fpOk hle (I1.hok.fresh hle)
end L2
section 
namespace Bits
open PySem PyProof.Rows
end Bits
end 
section 
namespace TL
open PySem PySem.Builtin PySem.Builtin.Str PySem.StrLaws
abbrev tl (x : Str) : List Nat := x.cps.toList
def pre (S l : List Nat) : Bool := l.take S.length == S
def spl (S : List Nat) : Nat → List Nat → List Nat → List (List Nat)
  | _, acc, [] => [acc]
  | 0, acc, c :: r => if pre S (c :: r) = true then acc :: spl S (S.length - 1) [] r else spl S 0 (acc ++ [c]) r
  | k + 1, acc, _ :: r => spl S k acc r
def par (S : List Nat) : List Nat → List Nat → Option (List Nat × List Nat)
  | _, [] => none
  | acc, c :: r => if pre S (c :: r) = true then some (acc, (c :: r).drop S.length) else par S (acc ++ [c]) r
end TL
end 
namespace L2
open PySem PySem.Spec PyProof.Rows
section
variable {X : Cx} {pins : List (Addr × Obj)} {σ : St} {H : Hp} {s : Shared} {Q : VK}
end
section
variable {X : Cx}
end
section
variable {X : Cx} {o e : Expr} {to te : TE}
end
end L2
namespace L2
open PySem PySem.Spec PyProof.Rows
section
variable {X : Cx}
end
theorem IsPart.raw {v : Value} {o : Option Int} (p : IsPart v o) : ∃ l : Option (Int × Tok), v = partValue l ∧ l.map (·.1) = o := by
  cases p with
  | none => exact ⟨none, rfl, rfl⟩
  | int i t => exact ⟨some (i, t), rfl, rfl⟩
end L2
namespace Att
open PySem PySem.W PySem.Calls PyProof.Rows
theorem ints_of_wellAll {P : Params} {h : Heap} : ∀ (ns : List Int) (vs : List Value), WellAll P h vs (ns.map WData.int) → IntsAre vs ns := by
  intro ns
  induction ns with
  | nil =>
    intro vs w
    rw [List.map_nil] at w
    cases w
    exact .nil
  | cons n ns ih =>
    intro vs w
    rw [List.map_cons] at w
    cases w with
    | cons a b =>
      cases a
      exact .cons _ _ (ih _ b)
theorem script_of {l : OpenLaw} {n : Nat} (hn : l.most = some n) {P : Params} {h : Heap} {args : List WData} {vals : List Value}
    (hpre : l.row.toRowW.claim.pre args = true) (hwl : WellAll P h vals args) :
    ∃ a vs ns, vals = [Value.ref a] ∧ args = [WData.list (ns.map WData.int)] ∧ h.get? a = some { cls := .type "list", data := .seq vs.toArray } ∧ IntsAre vs ns ∧ ns.length ≤ n := by
  have hsh : WShape.hasAll [] args [.list .int] = true := (pre_splitW hpre).1
  have hc : l.pre.holds [] { args := args } = true := (pre_splitW hpre).2
  obtain ⟨d, r, rfl, h1, h2⟩ := hasAllW_cons hsh
  obtain rfl := hasAllW_nil h2
  obtain ⟨xs, rfl, h3⟩ := hasW_list h1
  obtain ⟨ns, rfl⟩ := items_int h3
  have hlen : ns.length ≤ n := by
    unfold OpenLaw.pre at hc
    have h4 : (WTm.not (.lt (.lit (.int (n : Int))) (.len (.arg 0)))).holds [] { args := [.list (ns.map .int)] } = true := by
      have h4 := (holds_andW hc).1
      rw [hn] at h4
      exact h4
    have h5 := condW_of h4 (w_not (w_lt w_lit (w_len_list (w_arg rfl))))
    rw [List.length_map] at h5
    refine Nat.le_of_not_lt fun q => ?_
    have q' : (n : Int) < ((ns.length : Nat) : Int) := by omega
    first
      | (rw [decide_eq_true q'] at h5; exact absurd h5 (by decide))
      | (simp at h5; omega)
  cases hwl with
  | cons w1 w2 =>
    cases w2
    cases w1 with
    | list ho hall => exact ⟨_, _, ns, rfl, rfl, ho, ints_of_wellAll ns _ hall, hlen⟩
theorem post_true (l : OpenLaw) (args : List WData) : l.row.toRowW.claim.post args (.bool true) args = true :=
  postW_of (r := l.row.toRowW) (X := (true == true))
    (show WShape.has [] (.bool true) .bool = true by first | rfl | decide | simp [WShape.has, WShape.arms, WShape.armsAll])
    (show (WTm.eq .res (.lit (.bool true))).value [] { args := args, res := some (.bool true), after := args } = some (.bool (true == true)) from w_eq_bool (w_res rfl) w_lit) rfl
theorem attach_call {l : OpenLaw} {n : Nat} {q : Program} {loose : List Str} {XP : (Str → Option Value) → Heap → Prop} {YP : World → Heap → Prop} {d : DefRec}
    (hn : l.most = some n) (hdf : d.params.defaults = [])
    (call : ∀ (w : World) (s₀ s₁ : Shared) (mg mb : Str → Option Value) (fa : Addr) (o : Obj) (pm cd doc : Value) (a : Addr) (vs : List Value) (ns : List Int),
      Ground q loose [] XP w s₀ mg mb s₁.heap → YP w s₁.heap →
      s₁.heap.get? fa = some o → o.data = .func (docDef d.name d.params d.body d.scope pm cd doc) → s₁.heap.CodeRec cd d.name → mg d.name = some (.ref fa) →
      s₁.heap.get? a = some { cls := .type "list", data := .seq vs.toArray } → IntsAre vs ns → ns.length ≤ n → s₁.gens = #[] →
      codeAny (model l.prog w) callerA (.call (.ref fa) ⟨[.ref a], []⟩) (fun r s' => r = .ok (.ret (.bool true)) ∧ OldK s₁.heap s'.heap ∧ s'.os = s₁.os ∧ AllBare s'.gens) s₁) :
    WalkO q loose XP YP l.row.toRowW d [] (fun f vs => PySem.call f vs) := by
  intro w s₀ s₁ mg mb G Y fa o pm cd doc dV kV ho hd hcd hD hmg hg args vals as hpre hlay hrd hwl hlo
  obtain rfl : dV = .none := Dflts.none hD hdf
  obtain rfl : kV = .none := Dflts.noKw hD
  obtain ⟨a, vs, ns, rfl, rfl, hobj, hints, hlen⟩ := script_of hn hpre hwl
  refine enter_call (codeAny_mono (call w s₀ s₁ mg mb fa o pm cd doc a vs ns G Y ho (fd_plain hd) hcd hmg hobj hints hlen hg) fun r s' hq => ?_)
  obtain ⟨rfl, h2, h3, h4⟩ := hq
  exact ⟨.inl ⟨.bool true, .bool true, [], rfl, fun _ => rfl, .bool true, post_true l _, fun _ => ⟨List.Pairwise.nil, fun _ hm => (nomatch hm)⟩⟩, h2, h3, h4⟩
section
variable {prog : Program} {w : World} {A : Around} {E : Value → Shared → Prop} {s : Shared} {K : Frag}
def ledger (h : Heap) (L d : Addr) : List (Addr × Obj) := (List.range h.objs.size).filterMap fun a => if a = L ∨ a = d then none else (h.get? a).map fun o => (a, o)
end
end Att
namespace L2
open PySem PySem.Spec PyProof.Rows
theorem vals_ints : ∀ {vs : List Value} {ns : List Int}, IntsAre vs ns → Vals (ns.map V.int) vs
  | _, _, .nil => .nil
  | _, _, .cons n t h => .cons ⟨t, rfl⟩ (vals_ints h)
def Only (H : Hp) : Prop := ∀ b, H b = none ∨ ∃ o xs, H b = some (.frz o (.lst xs))
theorem law_call {P : Program} {w : World} {K : PySem.W.Frag} {mg mb : Str → Option Value} {CX : CXT} {k : Nat} {fa a : Addr} {fd : FuncData} {x : Str} {sp : Sp} {s₁ : Shared} {vs : List Value} {ns : List Int}
    (KX : K.In s₁.heap) (hns : s₁.heap.Ns mainGlobals mg) (hb : s₁.heap.Ns builtinsNs mb) (hbb : ∀ x : Str, x ≠ "__name__" → mb x = bootBuiltins x) (hlim : s₁.heap.NoLimit) (hg : s₁.gens = #[])
    (ha : s₁.heap.get? a = some { cls := .type "list", data := .seq vs.toArray }) (hi : IntsAre vs ns) (hl : ns.length ≤ sizeLine) (hr : Room k callerA)
    (F : ∀ base : Heap, K.In base → base.Ns mainGlobals mg → FnOk P w K mg base CX k fa fd [x] sp) (hbind : ∀ (s : Shared) (u : Value), BindsTo s fd ⟨[u], []⟩ [(x, u)])
    (hsp : ∀ H : Hp, Only H → SqL K H a (ns.map V.int) → sp [.ref a] H (fun v _ => v = .bl true) fun _ _ _ => False)
    (hCX : ∀ H e s', CX [] H s₁ (fun _ _ _ => False) e s' → False) :
    codeAny (model P w) callerA (.call (.ref fa) ⟨[.ref a], []⟩) (fun r s' => r = .ok (.ret (.bool true)) ∧ OldK s₁.heap s'.heap ∧ s'.os = s₁.os ∧ AllBare s'.gens) s₁ := by
  have rv := vals_ints hi
  have lenV := hi.length
  have core : ∀ H : Hp, Only H → SqL K H a (ns.map V.int) → HOk P w H s₁.heap → (∀ b, H b ≠ none → b = a) → (H a ≠ none → K.lookup a = none) →
      codeAny (model P w) callerA (.call (.ref fa) ⟨[.ref a], []⟩) (fun r s' => r = .ok (.ret (.bool true)) ∧ OldK s₁.heap s'.heap ∧ s'.os = s₁.os ∧ AllBare s'.gens) s₁ := by
    intro H hO hS hok hA hK
    have base_of : ∀ {b : Addr} {o : Obj}, s₁.heap.get? b = some o → H b = none → (hidT s₁.heap H).get? b = some o := fun e n => hidT_get e n
    have noA : ∀ {b : Addr} {o : Obj} {es : Array DictEntry} {ep : Nat}, s₁.heap.get? b = some o → o.data = .dict es ep → H b = none := fun {b o es ep} e d => by
      cases q : H b with
      | none => rfl
      | some u =>
        have e' : b = a := hA b (by rw [q]; simp)
        subst e'
        rw [ha] at e; cases e
        have d' : Data.seq vs.toArray _ = Data.dict es ep := d
        cases d'
    have nsK : ∀ {b : Addr} {m : Str → Option Value}, s₁.heap.Ns b m → (hidT s₁.heap H).Ns b m := fun {b m} ⟨o, es, ep, e, d, r⟩ => ⟨o, es, ep, base_of e (noA e d), d, r⟩
    have hKb : K.In (hidT s₁.heap H) := fun b o e => base_of (KX b o e) (by
      cases q : H b with
      | none => rfl
      | some u =>
        have e' : b = a := hA b (by rw [q]; simp)
        subst e'
        rw [hK (by rw [q]; simp)] at e; cases e)
    have hM : Mod K mg (hidT s₁.heap H) := ⟨hKb, nsK hns, ⟨mb, nsK hb, hbb⟩, let ⟨mc, h1, h2⟩ := hlim; ⟨mc, nsK h1, h2⟩⟩
    have e0 : Env0 P w K mg (hidT s₁.heap H) callerA [] s₁ H := ⟨rfl, hM, fun b o e => of_hidT e, Nat.le_of_eq (hidT_size _ _), trivial, fun b hb => absurd (show b ∈ ([] : List Addr) from hb) (by simp), hok, .of_eq hg⟩
    refine codeAny_mono ((F _ hKb (nsK hns)).run callerA [] s₁ H ⟨[.ref a], []⟩ [.ref a] [.ref a] _ _ hr e0 (hbind s₁ (.ref a)) (.cons rfl .nil) (hsp H hO hS)) fun r s' h => ?_
    cases r with
    | error e => exact (hCX H e s' h).elim
    | ok fl =>
      cases fl with
      | next => exact False.elim h
      | brk => exact False.elim h
      | cont => exact False.elim h
      | ret u =>
        obtain ⟨v, H', os, bare, un, hok', r', q⟩ := h
        have q' : v = .bl true := q
        subst q'
        obtain rfl : u = Value.bool true := r'
        refine ⟨rfl, OldK.of_keep fun b o e => ?_, os, bare⟩
        cases q : H b with
        | none => exact un.keep b o e q (by intro z; exact absurd (show b ∈ ([] : List Addr) from z) (by simp)) (by simp)
        | some u =>
          rcases hO b with z | ⟨ob, xs, z⟩
          · rw [q] at z; cases z
          · have z2 := un.frzs b ob _ z
            obtain ⟨e1, _⟩ := hok b _ z
            obtain ⟨e2, _⟩ := hok' b _ z2
            rw [e] at e1; cases e1
            exact e2
  cases hk : K.lookup a with
  | some o =>
    have e := KX a o hk
    rw [ha] at e
    cases e
    refine core (fun _ => none) (fun _ => .inl rfl) (.inr ⟨_, vs.toArray, _, hk, rfl, rfl, rfl, by rw [List.size_toArray, lenV]; exact hl, by simpa using rv⟩) (fun b u z => by have z' : (none : Option HO) = some u := z; cases z') (fun b z => absurd rfl z) fun z => absurd rfl z
  | none =>
    refine core (fun b => if b = a then some (.frz { cls := .type "list", data := .seq vs.toArray } (.lst (ns.map V.int))) else none) (fun b => ?_) (.inl (.inr ⟨{ cls := .type "list", data := .seq vs.toArray }, if_pos rfl⟩)) (fun b u z => ?_) (fun b z => ?_) fun _ => hk
    · by_cases hb : b = a
      · exact .inr ⟨_, _, if_pos hb⟩
      · exact .inl (if_neg hb)
    · by_cases hb : b = a
      · have z' := (if_pos hb).symm.trans z
        cases z'
        subst hb
        exact ⟨ha, by rw [List.length_map]; exact hl, vs, _, rv, ha⟩
      · have z' := (if_neg hb).symm.trans z
        cases z'
    · by_cases hb : b = a
      · exact hb
      · exact absurd (if_neg hb) z
end L2
namespace L2
open PySem PySem.Spec PyProof.Rows
abbrev KOf {K : PySem.W.Frag} {h : Heap} (_ : K.In h) : PySem.W.Frag := K
theorem walk_of {l : PySem.W.OpenLaw} {n k : Nat} {q : Program} {loose : List Str} {XP : (Str → Option Value) → Heap → Prop} {YP : World → Heap → Prop} {d : DefRec} {K : Params → PySem.W.Frag} {CX : World → CXT} {sp : World → Sp} {x : Str}
    (hn : l.most = some n) (hn2 : n ≤ sizeLine) (hdf : d.params.defaults = []) (hr : Room k callerA)
    (hY : ∀ (w : World) (h : Heap), YP w h → (K w.params).In h)
    (F : ∀ (w : World) (mg : Str → Option Value) (fa : Addr) (h : Heap), (K w.params).In h → h.Ns mainGlobals mg → mg d.name = some (.ref fa) →
      ∃ fd : FuncData, (∀ (s : Shared) (u : Value), BindsTo s fd ⟨[u], []⟩ [(x, u)]) ∧
        ∀ base : Heap, (K w.params).In base → base.Ns mainGlobals mg → FnOk l.prog w (K w.params) mg base (CX w) k fa fd [x] (sp w))
    (hsp : ∀ (w : World) (H : Hp) (a : Addr) (ns : List Int), ns.length ≤ n → Only H → SqL (K w.params) H a (ns.map V.int) → sp w [.ref a] H (fun v _ => v = .bl true) fun _ _ _ => False)
    (hCX : ∀ (w : World) (H : Hp) (s : Shared) (e : Value) (s' : Shared), CX w [] H s (fun _ _ _ => False) e s' → False) :
    PySem.W.WalkO q loose XP YP l.row.toRowW d [] (fun f vs => PySem.call f vs) := by
  refine Att.attach_call hn hdf fun w s₀ s₁ mg mb fa o pm cd doc a vs ns G Y ho hd hcd hmg hobj hints hlen hg => ?_
  have KX := hY w _ Y
  obtain ⟨fd, hb, hF⟩ := F w mg fa _ KX G.T.g hmg
  exact law_call KX G.T.g G.T.b G.T.builtins G.T.nolimit hg hobj hints (Nat.le_trans hlen hn2) hr hF hb (fun H hO hS => hsp w H a ns hlen hO hS) fun H e s' => hCX w H s₁ e s'
end L2
namespace L2
open PySem PySem.Spec PyProof.Rows
def inClass (s : Stmt) (j : Nat) : Stmt := match s with
  | .ClassDef _ _ _ body _ _ _ _ _ _ _ => body.getD j (.Pass ⟨0, 0, 0, 0⟩)
  | _ => .Pass ⟨0, 0, 0, 0⟩
def defArgs (s : Stmt) : Arguments := match s with
  | .FunctionDef _ a _ _ _ _ _ _ _ _ => a
  | _ => { posonlyargs := [], args := [], vararg := none, kwonlyargs := [], kw_defaults := [], kwarg := none, defaults := [] }
def defBody (s : Stmt) : List Stmt := match s with
  | .FunctionDef _ _ b _ _ _ _ _ _ _ => b
  | _ => []
def defScope (s : Stmt) : Scope := match s with
  | .FunctionDef _ _ _ _ _ _ sc _ _ _ => sc
  | _ => { kind := .function, names := [], isGenerator := false, isCoroutine := false }
abbrev CX0 : CXT := fun _ _ _ _ _ _ => False
abbrev E0 : XK := fun _ _ _ => False
structure Fun (K : PySem.W.Frag) (x qual : Str) (st : Stmt) (f : Addr) (fd : FuncData) : Prop where
  ex : ∃ (oc : Value) (od : Option Addr) (kV doc pm : Value) (an : Option Addr) (cdv ct : Value) (osl : Array (Option Value)),
    fd = PySem.W.fnOf x qual (defArgs st) (defBody st) (defScope st) .none kV doc pm an cdv ct ∧ K.lookup f = some ⟨oc, od, .func fd, osl⟩ ∧ PySem.W.codeIn K cdv qual = true
  kp : PySem.W.keepIn K (.ref f) = true
section
variable {P : Program} {w : World} {K : PySem.W.Frag} {mg : Str → Option Value} {base : Heap}
theorem Fun.ok {x qual : Str} {st : Stmt} {f : Addr} {fd : FuncData} {N ps : List Str} {k : Nat} {sp : Sp} (F : Fun K x qual st f fd) (S : FnScope N ps (defScope st)) (len : ∀ vs H Q E, sp vs H Q E → vs.length = ps.length)
    (hbody : ∀ (cdv : Value) (A : Around) (outer : List Env) (s : Shared) (H : Hp) (vs : List V) (Q : VK) (E : XK), Room k (A.deeper (envOfC qual (defScope st) s.heap.objs.size f cdv)) → sp vs H Q E →
      ∃ t, PSs (cxOf CX0 P w K mg base N qual (defScope st) f cdv A outer s H E).nox (defBody st) t ∧ t { nx := fun _ H' => Q .non H', rt := Q } (start N vs) H) : FnOk P w K mg base CX0 (k + 1) f fd ps sp := by
  obtain ⟨oc, od, kV, doc, pm, an, cdv, ct, osl, rfl, lk, hcd⟩ := F.ex
  refine fn_of lk hcd S len fun A outer s H vs Q E hr hsp => ?_
  obtain ⟨t, h, q⟩ := hbody cdv A outer s H vs Q E hr hsp
  exact ⟨t, h.nox, q⟩
theorem Fun.binds {x qual : Str} {st : Stmt} {f : Addr} {fd : FuncData} {ps : List Str} (F : Fun K x qual st f fd)
    (h : ∀ (kV doc pm : Value) (an : Option Addr) (cdv ct : Value) (us : List Value), us.length = ps.length → bindArgs (PySem.W.fnOf x qual (defArgs st) (defBody st) (defScope st) .none kV doc pm an cdv ct) ⟨us, []⟩ = pure (ps.zip us)) : Binds K fd ps [] := by
  obtain ⟨oc, od, kV, doc, pm, an, cdv, ct, osl, rfl, lk, hcd⟩ := F.ex
  exact .all (h kV doc pm an cdv ct)
theorem fun_mk {x qual : Str} {st : Stmt} {f : Addr} {oc : Value} {od an : Option Addr} {osl : Array (Option Value)} {kV doc pm cdv ct : Value} (l : K.lookup f = some ⟨oc, od, .func (PySem.W.fnOf x qual (defArgs st) (defBody st) (defScope st) .none kV doc pm an cdv ct), osl⟩)
    (c : PySem.W.codeIn K cdv qual = true) (k : PySem.W.keepIn K (.ref f) = true) : Fun K x qual st f (PySem.W.fnOf x qual (defArgs st) (defBody st) (defScope st) .none kV doc pm an cdv ct) := ⟨⟨oc, od, kV, doc, pm, an, cdv, ct, osl, rfl, l, c⟩, k⟩
end
theorem hu_of {A : Around} {k : Nat} (hr : Room k A) : A.units + 1 < cLine := Nat.lt_of_le_of_lt (Nat.add_le_add_left (by decide : 1 ≤ 64) _) hr.units
section
variable {X : Cx}
theorem pv (i : Nat) {x : Str} {pos : Pos} (hN : X.N[i]? = some x := by rfl) (hv : Vis X.env.scope x := by first | exact Or.inl rfl | exact Or.inr (Or.inl rfl) | exact Or.inr (Or.inr rfl)) (hd : (x == ("__debug__" : Str)) = false := by decide)
    (hcd : (x == ("__classdict__" : Str)) = false := by decide) : PE X (.Name x pos) (tVar i) := pe_var hN hv hd hcd
end
def Same (H H' : Hp) : Prop := ∀ b o, H b = some o → H' b = some o
theorem Same.refl (H : Hp) : Same H H := fun _ _ h => h
theorem Same.trans {H H1 H2 : Hp} (a : Same H H1) (b : Same H1 H2) : Same H H2 := fun c o h => b c o (a c o h)
theorem Same.free {H H' : Hp} (e : Same H H') {l : Addr} (h : H' l = Option.none) : H l = Option.none := by
  cases q : H l with
  | none => rfl
  | some o =>
    rw [e l o q] at h
    cases h
theorem Same.seq {K : PySem.W.Frag} {H H' : Hp} {a : Addr} {xs : List V} (e : Same H H') (h : SqL K H a xs) : SqL K H' a xs := by
  rcases h with (h | ⟨o, h⟩) | h
  · exact .inl (.inl (e _ _ h))
  · exact .inl (.inr ⟨o, e _ _ h⟩)
  · exact .inr h
section
variable {κ : Type} [DecidableEq κ]
end
theorem at_of {xs : List V} {z : Int} {j : Nat} {v : V} (e : z = (j : Int)) (h : xs[j]? = some v) : atI xs z = some v := by
  rw [e]
  exact atI_nat h
theorem Same.made {H H1 : Hp} {x dx C : Addr} (nx : H x = Option.none) (nd : H dx = Option.none) (k : ∀ b o, (upd (upd H dx (.own x)) x (.ins C dx [])) b = some o → b ≠ x → H1 b = some o) : Same H H1 := fun b o e =>
  k b o (by rw [upd_ne (ne_of_none e nx), upd_ne (ne_of_none e nd)]; exact e) (ne_of_none e nx)
end L2
namespace L2
open PySem PySem.Spec PyProof.Rows
open PySem.W (WData Codec OpenSpec Well WellAll ReadsW ReadsAllW)
mutual
inductive Dw (K : PySem.W.Frag) (H : Hp) : V → WData → Prop
  | non : Dw K H .non .none
  | bl (b : Bool) : Dw K H (.bl b) (.bool b)
  | int (i : Int) : Dw K H (.int i) (.int i)
  | str (x : Str) : Dw K H (.str x) (.str x)
  | byt (b : Array UInt8) : Dw K H (.byt b) (.bytes b.toList)
  | lst {a : Addr} {xs : List V} {ds : List WData} : SqL K H a xs → DwAll K H xs ds → Dw K H (.ref a) (.list ds)
  | tup {a : Addr} {xs : List V} {ds : List WData} : SqT K H a xs → DwAll K H xs ds → Dw K H (.ref a) (.tuple ds)
inductive DwAll (K : PySem.W.Frag) (H : Hp) : List V → List WData → Prop
  | nil : DwAll K H [] []
  | cons {v : V} {vs : List V} {d : WData} {ds : List WData} : Dw K H v d → DwAll K H vs ds → DwAll K H (v :: vs) (d :: ds)
end
theorem dw_ints {K : PySem.W.Frag} {H : Hp} : ∀ ns : List Int, DwAll K H (ns.map V.int) (ns.map WData.int)
  | [] => .nil
  | n :: r => .cons (.int n) (dw_ints r)
theorem ints_dw {K : PySem.W.Frag} {H : Hp} : ∀ (ns : List Int) (xs : List V), DwAll K H xs (ns.map WData.int) → xs = ns.map V.int
  | [], xs, h => by
    cases h
    rfl
  | n :: r, xs, h => by
    cases h with
    | cons h1 h2 =>
      cases h1
      rw [ints_dw r _ h2] <;> rfl
section
variable {P : Program} {w : World} {K : PySem.W.Frag} {H : Hp} {h : Heap} {R : PySem.W.WRecords} {cl : Str → Option Addr}
theorem sqL_at {a : Addr} {xs : List V} (hok : HOk P w H h) (KX : K.In h) (q : SqL K H a xs) : ∃ (its : List Value) (o : Obj) (n : Nat), Vals xs its ∧ h.get? a = some o ∧ o.cls = .type "list" ∧ o.data = .seq its.toArray n := by
  rcases q with q | ⟨o, its, n, e, hc, _, hd, _, hv⟩
  · obtain ⟨_, its, n, hv, e⟩ := (show ObjOk P w H h a (.lst xs) from q.ok hok)
    exact ⟨its, _, n, hv, e, rfl, rfl⟩
  · exact ⟨its.toList, o, n, hv, KX _ _ e, hc, by simp [hd]⟩
theorem sqT_at {a : Addr} {xs : List V} (hok : HOk P w H h) (KX : K.In h) (q : SqT K H a xs) : ∃ (its : List Value) (o : Obj) (n : Nat), Vals xs its ∧ h.get? a = some o ∧ o.cls = .type "tuple" ∧ o.data = .seq its.toArray n := by
  rcases q with q | ⟨o, its, n, e, hc, hd, _, hv⟩
  · obtain ⟨_, its, hv, o, e, hc, n, hd⟩ := (show ObjOk P w H h a (.tup xs) from q.ok hok)
    exact ⟨its, o, n, hv, e, hc, hd⟩
  · exact ⟨its.toList, o, n, hv, KX _ _ e, hc, by simp [hd]⟩
mutual
theorem Dw.reads (hok : HOk P w H h) (KX : K.In h) : ∀ (d : WData) (v : V) (u : Value), Dw K H v d → RelV v u → ∃ as, ReadsW R cl h u d as
  | .none, _, _, x, r => by
    cases x
    cases r
    exact ⟨_, ReadsW.none⟩
  | .bool b, _, _, x, r => by
    cases x
    cases r
    exact ⟨_, ReadsW.bool b⟩
  | .int i, _, _, x, r => by
    cases x
    obtain ⟨t, rfl⟩ := r
    exact ⟨_, ReadsW.int i t⟩
  | .str s, _, _, x, r => by
    cases x
    obtain ⟨t, rfl⟩ := r
    exact ⟨_, ReadsW.str s t⟩
  | .bytes b, _, _, x, r => by
    cases x
    obtain ⟨t, rfl⟩ := r
    exact ⟨_, ReadsW.bytes _ t⟩
  | .list ds, _, _, x, r => by
    cases x with
    | lst hs ha =>
      cases r
      obtain ⟨its, o, n, rv, ho, hc, hd⟩ := sqL_at hok KX hs
      obtain ⟨as, hr⟩ := Dw.readsAll hok KX ds _ its ha rv
      exact ⟨_, ReadsW.list ho hc hd hr⟩
  | .tuple ds, _, _, x, r => by
    cases x with
    | tup hs ha =>
      cases r
      obtain ⟨its, o, n, rv, ho, hc, hd⟩ := sqT_at hok KX hs
      obtain ⟨as, hr⟩ := Dw.readsAll hok KX ds _ its ha rv
      exact ⟨_, ReadsW.tuple ho hc hd hr⟩
  | .float _, _, _, x, _ => by cases x
  | .dict _, _, _, x, _ => by cases x
  | .bytearray _, _, _, x, _ => by cases x
  | .set _, _, _, x, _ => by cases x
  | .frozenset _, _, _, x, _ => by cases x
  | .obj _ _, _, _, x, _ => by cases x
theorem Dw.readsAll (hok : HOk P w H h) (KX : K.In h) : ∀ (ds : List WData) (vs : List V) (us : List Value), DwAll K H vs ds → Vals vs us → ∃ as, ReadsAllW R cl h us ds as
  | [], _, _, x, r => by
    cases x
    cases r
    exact ⟨_, ReadsAllW.nil⟩
  | d :: ds, _, _, x, r => by
    cases x with
    | cons h1 h2 =>
      cases r with
      | cons r1 r2 =>
        obtain ⟨as, q1⟩ := Dw.reads hok KX d _ _ h1 r1
        obtain ⟨bs, q2⟩ := Dw.readsAll hok KX ds _ _ h2 r2
        exact ⟨_, ReadsAllW.cons q1 q2⟩
end
end
mutual
def plW : WData → Bool
  | .none => true
  | .bool _ => true
  | .int _ => true
  | .str _ => true
  | .bytes _ => true
  | .list xs => plWs xs
  | .tuple xs => plWs xs
  | _ => false
def plWs : List WData → Bool
  | [] => true
  | x :: r => plW x && plWs r
end
theorem plWs_map {α : Type} {f : α → WData} (h : ∀ a, plW (f a) = true) : ∀ l : List α, plWs (l.map f) = true
  | [] => rfl
  | x :: r => by
    show (plW (f x) && plWs (r.map f)) = true
    rw [h x, plWs_map h r] <;> rfl
theorem pl_enc : ∀ (c : Codec) (a : c.denote), plW (c.enc a) = true
  | .unit, _ => rfl
  | .bool, _ => rfl
  | .int _ _, _ => rfl
  | .nat _ _, _ => rfl
  | .u8, _ => rfl
  | .bytes _ _, _ => rfl
  | .text _ _ _ _, _ => rfl
  | .list _ _ c, a => plWs_map (fun x => pl_enc c x) a
  | .pair c d, a => by
    show (plW (c.enc a.1) && (plW (d.enc a.2) && true)) = true
    rw [pl_enc c a.1, pl_enc d a.2] <;> rfl
  | .triple c d e, a => by
    show (plW (c.enc a.1) && (plW (d.enc a.2.1) && (plW (e.enc a.2.2) && true))) = true
    rw [pl_enc c a.1, pl_enc d a.2.1, pl_enc e a.2.2] <;> rfl
  | .option c, none => rfl
  | .option c, some x => pl_enc c x
theorem pl_encAll : ∀ (cs : List Codec) (a : Codec.denoteAll cs), plWs (Codec.encAll cs a) = true
  | [], _ => rfl
  | c :: cs, a => by
    show (plW (c.enc a.1) && plWs (Codec.encAll cs a.2)) = true
    rw [pl_enc c a.1, pl_encAll cs a.2] <;> rfl
theorem weight_mem : ∀ {xs : List WData} {d : WData}, d ∈ xs → d.weight ≤ WData.weightAll xs
  | [], d, h => absurd h (by simp)
  | x :: r, d, h => by
    show d.weight ≤ x.weight + 1 + WData.weightAll r
    rcases List.mem_cons.mp h with e | m
    · rw [e]
      omega
    · have z := weight_mem m
      omega
def toV : Value → V
  | .none => .non
  | .bool b => .bl b
  | .int i _ => .int i
  | .str x _ => .str x
  | .bytes b _ => .byt b
  | .ref a => .ref a
  | _ => .non
def OkU (A : List Addr) : Value → Prop
  | .none => True
  | .bool _ => True
  | .int _ _ => True
  | .str _ _ => True
  | .bytes _ _ => True
  | .ref a => a ∈ A
  | _ => False
theorem OkU.mono {A B : List Addr} (h : ∀ a ∈ A, a ∈ B) : ∀ {u : Value}, OkU A u → OkU B u := fun {u} x => by
  cases u with
  | ref a => exact h a x
  | none => trivial
  | bool b => trivial
  | int i t => trivial
  | str s t => trivial
  | bytes b t => trivial
  | _ => exact False.elim x
theorem relV_toV {A : List Addr} {u : Value} (x : OkU A u) : RelV (toV u) u := by
  cases u with
  | ref a => rfl
  | none => rfl
  | bool b => rfl
  | int i t => exact ⟨t, rfl⟩
  | str s t => exact ⟨t, rfl⟩
  | bytes b t => exact ⟨t, rfl⟩
  | _ => exact False.elim x
theorem vals_toV {A : List Addr} : ∀ {vs : List Value}, (∀ u ∈ vs, OkU A u) → Vals (vs.map toV) vs
  | [], _ => .nil
  | u :: r, h => .cons (relV_toV (h u (List.mem_cons_self ..))) (vals_toV fun x hx => h x (List.mem_cons_of_mem _ hx))
def ArgOb (h : Heap) (A : List Addr) (a : Addr) : Prop := ∃ vs : List Value, vs.length ≤ sizeLine ∧ (∀ u ∈ vs, OkU A u) ∧
  (h.get? a = some { cls := .type "list", data := .seq vs.toArray } ∨ h.get? a = some { cls := .type "tuple", data := .seq vs.toArray })
theorem ArgOb.mono {h : Heap} {A B : List Addr} {a : Addr} (k : ∀ a ∈ A, a ∈ B) (x : ArgOb h A a) : ArgOb h B a := by
  obtain ⟨vs, h1, h2, h3⟩ := x
  exact ⟨vs, h1, fun u hu => (h2 u hu).mono k, h3⟩
theorem wellAll_len {P : Params} {h : Heap} : ∀ {vs : List Value} {ds : List WData}, WellAll P h vs ds → vs.length = ds.length
  | _, _, .nil => rfl
  | _, _, .cons _ b => by
    show _ + 1 = _ + 1
    rw [wellAll_len b]
theorem well_list {P : Params} {h : Heap} {v : Value} {ds : List WData} (x : Well P h v (.list ds)) : ∃ (a : Addr) (vs : List Value), v = .ref a ∧ h.get? a = some { cls := .type "list", data := .seq vs.toArray } ∧ WellAll P h vs ds := by
  cases x with
  | list ho hall => exact ⟨_, _, rfl, ho, hall⟩
theorem well_tuple {P : Params} {h : Heap} {v : Value} {ds : List WData} (x : Well P h v (.tuple ds)) : ∃ (a : Addr) (vs : List Value), v = .ref a ∧ h.get? a = some { cls := .type "tuple", data := .seq vs.toArray } ∧ WellAll P h vs ds := by
  cases x with
  | tuple ho hall => exact ⟨_, _, rfl, ho, hall⟩
theorem well_cons {P : Params} {h : Heap} {us : List Value} {d : WData} {ds : List WData} (x : WellAll P h us (d :: ds)) : ∃ (v : Value) (vs : List Value), us = v :: vs ∧ Well P h v d ∧ WellAll P h vs ds := by
  cases x with
  | cons a b => exact ⟨_, _, rfl, a, b⟩
theorem line_of {n : Nat} (h : n ≤ 1048576) : n ≤ sizeLine := Nat.le_trans h (by decide)
section
variable {P : Params} {h : Heap}
mutual
theorem area_one : ∀ (d : WData) (v : Value), Well P h v d → plW d = true → d.weight ≤ 1048576 → ∃ A : List Addr, OkU A v ∧ ∀ a ∈ A, ArgOb h A a
  | .none, _, x, _, _ => by
    cases x
    exact ⟨[], trivial, fun a m => absurd m (by simp)⟩
  | .bool b, _, x, _, _ => by
    cases x
    exact ⟨[], trivial, fun a m => absurd m (by simp)⟩
  | .int i, _, x, _, _ => by
    cases x
    exact ⟨[], trivial, fun a m => absurd m (by simp)⟩
  | .str s, _, x, _, _ => by
    cases x
    exact ⟨[], trivial, fun a m => absurd m (by simp)⟩
  | .bytes b, _, x, _, _ => by
    cases x
    exact ⟨[], trivial, fun a m => absurd m (by simp)⟩
  | .list ds, _, x, p, z => by
    obtain ⟨a, vs, rfl, ho, hall⟩ := well_list x
    have z2 : WData.weightAll ds ≤ 1048576 := z
    obtain ⟨A, h1, h2⟩ := area_all ds _ hall p fun d hd => Nat.le_trans (weight_mem hd) z2
    have k : ∀ b ∈ A, b ∈ a :: A := fun b hb => List.mem_cons_of_mem _ hb
    refine ⟨a :: A, List.mem_cons_self .., fun b hb => ?_⟩
    rcases List.mem_cons.mp hb with e | m
    · rw [e]
      exact ⟨vs, line_of (by rw [wellAll_len hall]; exact Nat.le_trans (PySem.W.length_le_weightAllW ds) z2), fun u hu => (h1 u hu).mono k, .inl ho⟩
    · exact (h2 b m).mono k
  | .tuple ds, _, x, p, z => by
    obtain ⟨a, vs, rfl, ho, hall⟩ := well_tuple x
    have z2 : WData.weightAll ds ≤ 1048576 := z
    obtain ⟨A, h1, h2⟩ := area_all ds _ hall p fun d hd => Nat.le_trans (weight_mem hd) z2
    have k : ∀ b ∈ A, b ∈ a :: A := fun b hb => List.mem_cons_of_mem _ hb
    refine ⟨a :: A, List.mem_cons_self .., fun b hb => ?_⟩
    rcases List.mem_cons.mp hb with e | m
    · rw [e]
      exact ⟨vs, line_of (by rw [wellAll_len hall]; exact Nat.le_trans (PySem.W.length_le_weightAllW ds) z2), fun u hu => (h1 u hu).mono k, .inr ho⟩
    · exact (h2 b m).mono k
  | .float _, _, _, p, _ => Bool.noConfusion (show false = true from p)
  | .dict _, _, _, p, _ => Bool.noConfusion (show false = true from p)
  | .bytearray _, _, _, p, _ => Bool.noConfusion (show false = true from p)
  | .set _, _, _, p, _ => Bool.noConfusion (show false = true from p)
  | .frozenset _, _, _, p, _ => Bool.noConfusion (show false = true from p)
  | .obj _ _, _, _, p, _ => Bool.noConfusion (show false = true from p)
theorem area_all : ∀ (ds : List WData) (vs : List Value), WellAll P h vs ds → plWs ds = true → (∀ d ∈ ds, d.weight ≤ 1048576) → ∃ A : List Addr, (∀ u ∈ vs, OkU A u) ∧ ∀ a ∈ A, ArgOb h A a
  | [], _, x, _, _ => by
    cases x
    exact ⟨[], fun u m => absurd m (by simp), fun a m => absurd m (by simp)⟩
  | d :: ds, _, x, p, z => by
    obtain ⟨v, vs, rfl, x1, x2⟩ := well_cons x
    have q : plW d = true ∧ plWs ds = true := Bool.and_eq_true_iff.mp p
    obtain ⟨A, a1, a2⟩ := area_one d v x1 q.1 (z d (List.mem_cons_self ..))
    obtain ⟨B, b1, b2⟩ := area_all ds vs x2 q.2 fun e he => z e (List.mem_cons_of_mem _ he)
    have kA : ∀ b ∈ A, b ∈ A ++ B := fun b hb => List.mem_append.mpr (.inl hb)
    have kB : ∀ b ∈ B, b ∈ A ++ B := fun b hb => List.mem_append.mpr (.inr hb)
    refine ⟨A ++ B, fun u hu => ?_, fun b hb => ?_⟩
    · rcases List.mem_cons.mp hu with e | m
      · rw [e]
        exact a1.mono kA
      · exact (b1 u m).mono kB
    · rcases List.mem_append.mp hb with m | m
      · exact (a2 b m).mono kA
      · exact (b2 b m).mono kB
end
end
def hoOf (o : Obj) : Option HO := match o.data with
  | .seq vs _ => if (o.cls == Value.type "list") = true then some (.frz o (.lst (vs.toList.map toV))) else some (.frz o (.tup (vs.toList.map toV)))
  | _ => none
def argH (K : PySem.W.Frag) (h : Heap) (A : List Addr) : Hp := fun b => if b ∈ A then (if (K.lookup b).isNone = true then (h.get? b).bind hoOf else none) else none
def OnlyF (H : Hp) : Prop := ∀ b, H b = none ∨ ∃ o u, H b = some (.frz o u)
theorem hoOf_lst (vs : List Value) : hoOf { cls := .type "list", data := .seq vs.toArray } = some (.frz { cls := .type "list", data := .seq vs.toArray } (.lst (vs.map toV))) := by
  show (if (Value.type "list" == Value.type "list") = true then some (HO.frz { cls := .type "list", data := .seq vs.toArray } (.lst (vs.toArray.toList.map toV))) else some (HO.frz { cls := .type "list", data := .seq vs.toArray } (.tup (vs.toArray.toList.map toV)))) = _
  rw [if_pos (beq_self_eq_true _)]
theorem hoOf_tup (vs : List Value) : hoOf { cls := .type "tuple", data := .seq vs.toArray } = some (.frz { cls := .type "tuple", data := .seq vs.toArray } (.tup (vs.map toV))) := by
  show (if (Value.type "tuple" == Value.type "list") = true then some (HO.frz { cls := .type "tuple", data := .seq vs.toArray } (.lst (vs.toArray.toList.map toV))) else some (HO.frz { cls := .type "tuple", data := .seq vs.toArray } (.tup (vs.toArray.toList.map toV)))) = _
  rw [if_neg (by decide)]
section
variable {P : Program} {w : World} {K : PySem.W.Frag} {h : Heap} {A : List Addr}
theorem argH_at {b : Addr} {o : Obj} (hb : b ∈ A) (hk : K.lookup b = none) (e : h.get? b = some o) : argH K h A b = hoOf o := by
  unfold argH
  rw [if_pos hb, hk, if_pos (show (none : Option Obj).isNone = true from rfl), e] <;> rfl
theorem of_argH {b : Addr} {u : HO} (q : argH K h A b = some u) : b ∈ A ∧ K.lookup b = none := by
  unfold argH at q
  by_cases hb : b ∈ A
  · rw [if_pos hb] at q
    cases hk : K.lookup b with
    | none => exact ⟨hb, rfl⟩
    | some o =>
      rw [hk, if_neg (by simp)] at q
      cases q
  · rw [if_neg hb] at q
    cases q
theorem argH_is (ar : ∀ a ∈ A, ArgOb h A a) {b : Addr} {u : HO} (q : argH K h A b = some u) : K.lookup b = none ∧ ∃ vs : List Value, vs.length ≤ sizeLine ∧ (∀ u ∈ vs, OkU A u) ∧
    ((h.get? b = some { cls := .type "list", data := .seq vs.toArray } ∧ u = .frz { cls := .type "list", data := .seq vs.toArray } (.lst (vs.map toV))) ∨
     (h.get? b = some { cls := .type "tuple", data := .seq vs.toArray } ∧ u = .frz { cls := .type "tuple", data := .seq vs.toArray } (.tup (vs.map toV)))) := by
  obtain ⟨hb, hk⟩ := of_argH q
  obtain ⟨vs, h1, h2, h3⟩ := ar b hb
  refine ⟨hk, vs, h1, h2, ?_⟩
  rcases h3 with e | e
  · rw [argH_at hb hk e, hoOf_lst] at q
    exact .inl ⟨e, (Option.some.inj q).symm⟩
  · rw [argH_at hb hk e, hoOf_tup] at q
    exact .inr ⟨e, (Option.some.inj q).symm⟩
theorem argH_only (ar : ∀ a ∈ A, ArgOb h A a) : OnlyF (argH K h A) := fun b => by
  cases q : argH K h A b with
  | none => exact .inl rfl
  | some u =>
    obtain ⟨_, vs, _, _, ⟨_, e⟩ | ⟨_, e⟩⟩ := argH_is ar q
    · exact .inr ⟨_, _, by rw [e]⟩
    · exact .inr ⟨_, _, by rw [e]⟩
theorem argH_ok (ar : ∀ a ∈ A, ArgOb h A a) : HOk P w (argH K h A) h := fun b u q => by
  obtain ⟨_, vs, h1, h2, ⟨e, rfl⟩ | ⟨e, rfl⟩⟩ := argH_is ar q
  · exact ⟨e, by rw [List.length_map]; exact h1, vs, _, vals_toV h2, e⟩
  · exact ⟨e, by rw [List.length_map]; exact h1, vs, vals_toV h2, _, e, rfl, _, rfl⟩
theorem seq_inj {c c' : Value} {vs us : List Value} (e : (some { cls := c, data := .seq vs.toArray } : Option Obj) = some { cls := c', data := .seq us.toArray }) : c = c' ∧ vs = us := by
  have e1 := Option.some.inj e
  have e2 : c = c' := congrArg Obj.cls e1
  have e3 : Data.seq vs.toArray = Data.seq us.toArray := congrArg Obj.data e1
  injection e3 with e4
  refine ⟨e2, ?_⟩
  have e5 := congrArg Array.toList e4
  simpa using e5
theorem argL (KX : K.In h) (ar : ∀ a ∈ A, ArgOb h A a) {a : Addr} {vs : List Value} (ha : a ∈ A) (e : h.get? a = some { cls := .type "list", data := .seq vs.toArray }) : (∀ u ∈ vs, OkU A u) ∧ SqL K (argH K h A) a (vs.map toV) := by
  obtain ⟨us, h1, h2, h3⟩ := ar a ha
  have hu : us = vs := by
    rcases h3 with q | q
    · rw [e] at q
      exact (seq_inj q).2.symm
    · rw [e] at q
      exact absurd (Value.type.inj (seq_inj q).1) (by decide)
  subst hu
  refine ⟨h2, ?_⟩
  cases hk : K.lookup a with
  | none => exact .inl (.inr ⟨_, by rw [argH_at ha hk e, hoOf_lst]⟩)
  | some o =>
    have e2 := KX a o hk
    rw [e] at e2
    obtain rfl := Option.some.inj e2
    exact .inr ⟨_, us.toArray, _, hk, rfl, rfl, rfl, by rw [List.size_toArray]; exact h1, by simpa using vals_toV h2⟩
theorem argT (KX : K.In h) (ar : ∀ a ∈ A, ArgOb h A a) {a : Addr} {vs : List Value} (ha : a ∈ A) (e : h.get? a = some { cls := .type "tuple", data := .seq vs.toArray }) : (∀ u ∈ vs, OkU A u) ∧ SqT K (argH K h A) a (vs.map toV) := by
  obtain ⟨us, h1, h2, h3⟩ := ar a ha
  have hu : us = vs := by
    rcases h3 with q | q
    · rw [e] at q
      exact absurd (Value.type.inj (seq_inj q).1) (by decide)
    · rw [e] at q
      exact (seq_inj q).2.symm
  subst hu
  refine ⟨h2, ?_⟩
  cases hk : K.lookup a with
  | none => exact .inl (.inr ⟨_, by rw [argH_at ha hk e, hoOf_tup]⟩)
  | some o =>
    have e2 := KX a o hk
    rw [e] at e2
    obtain rfl := Option.some.inj e2
    exact .inr ⟨_, us.toArray, _, hk, rfl, rfl, by rw [List.size_toArray]; exact h1, by simpa using vals_toV h2⟩
mutual
theorem dw_one {Pm : Params} (KX : K.In h) (ar : ∀ a ∈ A, ArgOb h A a) : ∀ (d : WData) (v : Value), Well Pm h v d → plW d = true → OkU A v → Dw K (argH K h A) (toV v) d
  | .none, _, x, _, _ => by
    cases x
    exact .non
  | .bool b, _, x, _, _ => by
    cases x
    exact .bl b
  | .int i, _, x, _, _ => by
    cases x
    exact .int i
  | .str s, _, x, _, _ => by
    cases x
    exact .str s
  | .bytes b, _, x, _, _ => by
    cases x
    have z := Dw.byt (K := K) (H := argH K h A) b.toArray
    exact z
  | .list ds, _, x, p, hu => by
    obtain ⟨a, vs, rfl, ho, hall⟩ := well_list x
    obtain ⟨h2, hs⟩ := argL KX ar hu ho
    exact .lst hs (dw_all KX ar ds _ hall p h2)
  | .tuple ds, _, x, p, hu => by
    obtain ⟨a, vs, rfl, ho, hall⟩ := well_tuple x
    obtain ⟨h2, hs⟩ := argT KX ar hu ho
    exact .tup hs (dw_all KX ar ds _ hall p h2)
  | .float _, _, _, p, _ => Bool.noConfusion (show false = true from p)
  | .dict _, _, _, p, _ => Bool.noConfusion (show false = true from p)
  | .bytearray _, _, _, p, _ => Bool.noConfusion (show false = true from p)
  | .set _, _, _, p, _ => Bool.noConfusion (show false = true from p)
  | .frozenset _, _, _, p, _ => Bool.noConfusion (show false = true from p)
  | .obj _ _, _, _, p, _ => Bool.noConfusion (show false = true from p)
theorem dw_all {Pm : Params} (KX : K.In h) (ar : ∀ a ∈ A, ArgOb h A a) : ∀ (ds : List WData) (vs : List Value), WellAll Pm h vs ds → plWs ds = true → (∀ u ∈ vs, OkU A u) → DwAll K (argH K h A) (vs.map toV) ds
  | [], _, x, _, _ => by
    cases x
    exact .nil
  | d :: ds, _, x, p, hu => by
    obtain ⟨v, vs, rfl, x1, x2⟩ := well_cons x
    have q : plW d = true ∧ plWs ds = true := Bool.and_eq_true_iff.mp p
    exact .cons (dw_one KX ar d v x1 q.1 (hu _ (List.mem_cons_self ..))) (dw_all KX ar ds vs x2 q.2 fun u m => hu u (List.mem_cons_of_mem _ m))
end
end
theorem spec_call {P : Program} {w : World} {K : PySem.W.Frag} {mg mb : Str → Option Value} {CX : CXT} {k : Nat} {fa : Addr} {fd : FuncData} {ps : List Str} {sp : Sp} {s₁ : Shared} {vals : List Value} {ds : List WData} {R : PySem.W.WRecords} {cl : Str → Option Addr} {d0 : WData}
    (KX : K.In s₁.heap) (hns : s₁.heap.Ns mainGlobals mg) (hb : s₁.heap.Ns builtinsNs mb) (hbb : ∀ x : Str, x ≠ "__name__" → mb x = bootBuiltins x) (hlim : s₁.heap.NoLimit) (hg : s₁.gens = #[])
    (hwl : WellAll w.params s₁.heap vals ds) (hpl : plWs ds = true) (hwt : ∀ d ∈ ds, d.weight ≤ 1048576) (hr : Room k callerA)
    (F : ∀ base : Heap, K.In base → base.Ns mainGlobals mg → FnOk P w K mg base CX k fa fd ps sp) (hbind : ∀ (s : Shared) (us : List Value), us.length = ps.length → BindsTo s fd ⟨us, []⟩ (ps.zip us)) (hlen : ds.length = ps.length)
    (hsp : ∀ (H : Hp) (xs : List V), OnlyF H → DwAll K H xs ds → sp xs H (fun v H' => Dw K H' v d0) fun _ _ _ => False)
    (hCX : ∀ H e s', CX [] H s₁ (fun _ _ _ => False) e s' → False) :
    codeAny (model P w) callerA (.call (.ref fa) ⟨vals, []⟩) (fun r s' => ∃ u as, r = .ok (.ret u) ∧ ReadsW R cl s'.heap u d0 as ∧ OldK s₁.heap s'.heap ∧ s'.os = s₁.os ∧ AllBare s'.gens) s₁ := by
  obtain ⟨A, ho, ar⟩ := area_all ds vals hwl hpl hwt
  have hO : OnlyF (argH K s₁.heap A) := argH_only ar
  have hok : HOk P w (argH K s₁.heap A) s₁.heap := argH_ok ar
  have hS := dw_all KX ar ds vals hwl hpl ho
  have hV := vals_toV ho
  have hK : ∀ b u, argH K s₁.heap A b = some u → K.lookup b = none := fun b u q => (argH_is ar q).1
  have noA : ∀ {b : Addr} {o : Obj} {es : Array DictEntry} {ep : Nat}, s₁.heap.get? b = some o → o.data = .dict es ep → argH K s₁.heap A b = none := fun {b o es ep} e d => by
    cases q : argH K s₁.heap A b with
    | none => rfl
    | some u =>
      obtain ⟨_, vs, _, _, ⟨e2, _⟩ | ⟨e2, _⟩⟩ := argH_is ar q
      · rw [e2] at e
        cases e
        have d' : Data.seq vs.toArray _ = Data.dict es ep := d
        cases d'
      · rw [e2] at e
        cases e
        have d' : Data.seq vs.toArray _ = Data.dict es ep := d
        cases d'
  generalize argH K s₁.heap A = H at hO hok hS hK noA
  have base_of : ∀ {b : Addr} {o : Obj}, s₁.heap.get? b = some o → H b = none → (hidT s₁.heap H).get? b = some o := fun e n => hidT_get e n
  have nsK : ∀ {b : Addr} {m : Str → Option Value}, s₁.heap.Ns b m → (hidT s₁.heap H).Ns b m := fun {b m} ⟨o, es, ep, e, d, r⟩ => ⟨o, es, ep, base_of e (noA e d), d, r⟩
  have nK : ∀ b o, K.lookup b = some o → H b = none := fun b o e => by
    cases q : H b with
    | none => rfl
    | some u =>
      rw [hK b u q] at e
      cases e
  have hKb : K.In (hidT s₁.heap H) := fun b o e => base_of (KX b o e) (nK b o e)
  have hM : Mod K mg (hidT s₁.heap H) := ⟨hKb, nsK hns, ⟨mb, nsK hb, hbb⟩, let ⟨mc, h1, h2⟩ := hlim; ⟨mc, nsK h1, h2⟩⟩
  have e0 : Env0 P w K mg (hidT s₁.heap H) callerA [] s₁ H := ⟨rfl, hM, fun b o e => of_hidT e, Nat.le_of_eq (hidT_size _ _), trivial, fun b hb => absurd (show b ∈ ([] : List Addr) from hb) (by simp), hok, .of_eq hg⟩
  have hl : vals.length = ps.length := by rw [wellAll_len hwl]; exact hlen
  refine codeAny_mono ((F _ hKb (nsK hns)).run callerA [] s₁ H ⟨vals, []⟩ vals (vals.map toV) _ _ hr e0 (hbind s₁ vals hl) hV (hsp H _ hO hS)) fun r s' x => ?_
  cases r with
  | error e => exact (hCX H e s' x).elim
  | ok fl =>
    cases fl with
    | next => exact False.elim x
    | brk => exact False.elim x
    | cont => exact False.elim x
    | ret u =>
      obtain ⟨v, H', os, bare, un, hok', r', q⟩ := x
      have kept : ∀ b o, s₁.heap.get? b = some o → s'.heap.get? b = some o := fun b o e => by
        cases q2 : H b with
        | none => exact un.keep b o e q2 (by intro z; exact absurd (show b ∈ ([] : List Addr) from z) (by simp)) (by simp)
        | some u2 =>
          rcases hO b with z | ⟨ob, u3, z⟩
          · rw [q2] at z
            cases z
          · have z2 := un.frzs b ob _ z
            obtain ⟨e1, _⟩ := hok b _ z
            obtain ⟨e2, _⟩ := hok' b _ z2
            rw [e] at e1
            cases e1
            exact e2
      have KX' : K.In s'.heap := fun b o e => kept b o (KX b o e)
      obtain ⟨as, hrd⟩ := Dw.reads (R := R) (cl := cl) hok' KX' d0 v u q r'
      exact ⟨u, as, rfl, hrd, OldK.of_keep kept, os, bare⟩
theorem layable_weight {ds : List WData} (h : WData.layableAll ds = true) : ∀ d ∈ ds, d.weight ≤ 1048576 := fun d hd =>
  (PySem.W.layableW_iff.mp (List.all_eq_true.mp h d hd)).2.2
theorem encAll_len : ∀ (cs : List Codec) (a : Codec.denoteAll cs), (Codec.encAll cs a).length = cs.length
  | [], _ => rfl
  | c :: cs, a => by
    show (Codec.encAll cs a.2).length + 1 = cs.length + 1
    rw [encAll_len cs a.2]
theorem walk_spec {r : OpenSpec} {k : Nat} {q : Program} {loose : List Str} {XP : (Str → Option Value) → Heap → Prop} {YP : World → Heap → Prop} {d : DefRec} {K : Params → PySem.W.Frag} {CX : World → CXT} {ps : List Str} {sp : World → Sp}
    (hwell : r.wellSaid = true) (hdf : d.params.defaults = []) (hlen : r.args.length = ps.length) (hr : Room k callerA)
    (hY : ∀ (w : World) (h : Heap), YP w h → (K w.params).In h)
    (F : ∀ (w : World) (mg : Str → Option Value) (fa : Addr) (h : Heap), YP w h → (K w.params).In h → h.Ns mainGlobals mg → mg d.name = some (.ref fa) →
      ∃ fd : FuncData, (∀ (s : Shared) (us : List Value), us.length = ps.length → BindsTo s fd ⟨us, []⟩ (ps.zip us)) ∧
        ∀ base : Heap, (K w.params).In base → base.Ns mainGlobals mg → FnOk r.prog w (K w.params) mg base (CX w) k fa fd ps (sp w))
    (hsp : ∀ (w : World) (H : Hp) (xs : List V) (a : Codec.denoteAll r.args), OnlyF H → Codec.withinAll r.args a = true → Codec.app r.args r.asked a = true → DwAll (K w.params) H xs (Codec.encAll r.args a) →
      sp w xs H (fun v H' => Dw (K w.params) H' v (r.ret.enc (Codec.app r.args r.f a))) fun _ _ _ => False)
    (hCX : ∀ (w : World) (H : Hp) (s : Shared) (e : Value) (s' : Shared), CX w [] H s (fun _ _ _ => False) e s' → False) :
    PySem.W.WalkOS q loose XP YP r d [] (fun f vs => PySem.call f vs) := by
  intro w s_0 s₁ mg mb G Y fa o pm cd doc dV kV ho hd hcd hD hmg hg args vals as hpre hlay hrd hwl hlo
  obtain ⟨a, e1, e2⟩ := PySem.W.os_pre_some hpre
  obtain ⟨e3, hwi⟩ := Codec.encAll_of_decAll r.args args a e1
  subst e3
  have KX := hY w _ Y
  obtain ⟨fd, hb, hF⟩ := F w mg fa _ Y KX G.T.g hmg
  refine PySem.W.enter_call (codeAny_mono (spec_call (R := []) (cl := classAt s_0.heap) (d0 := r.ret.enc (Codec.app r.args r.f a)) KX G.T.g G.T.b G.T.builtins G.T.nolimit hg hwl (pl_encAll _ _) (layable_weight hlay) hr hF hb (by rw [encAll_len]; exact hlen)
    (fun H xs hO hS => hsp w H xs a hO hwi e2 hS) fun H e s' => hCX w H s₁ e s') fun r' s' hq => ?_)
  obtain ⟨u, as', rfl, h1, h2, h3, h4⟩ := hq
  exact ⟨.inl ⟨u, _, as', rfl, fun _ => rfl, h1, (OpenSpec.post_iff hwell hwi _ _).mpr rfl, fun z => Bool.noConfusion (show false = true from z)⟩, h2, h3, h4⟩
theorem walk_specK {r : OpenSpec} {k : Nat} {q : Program} {loose : List Str} {XP : (Str → Option Value) → Heap → Prop} {YP : World → Heap → Prop} {d : DefRec} {K : Params → PySem.W.Frag} {CX : CXT} {ps : List Str} {sp : PySem.W.Frag → Sp}
    (hwell : r.wellSaid = true) (hdf : d.params.defaults = []) (hlen : r.args.length = ps.length) (hr : Room k callerA)
    (hY : ∀ (w : World) (h : Heap), YP w h → (K w.params).In h)
    (F : ∀ (w : World) (mg : Str → Option Value) (fa : Addr) (h : Heap), YP w h → (K w.params).In h → h.Ns mainGlobals mg → mg d.name = some (.ref fa) →
      ∃ fd : FuncData, (∀ (s : Shared) (us : List Value), us.length = ps.length → BindsTo s fd ⟨us, []⟩ (ps.zip us)) ∧
        ∀ base : Heap, (K w.params).In base → base.Ns mainGlobals mg → FnOk r.prog w (K w.params) mg base CX k fa fd ps (sp (K w.params)))
    (hsp : ∀ (K : PySem.W.Frag) (H : Hp) (xs : List V) (a : Codec.denoteAll r.args), OnlyF H → Codec.withinAll r.args a = true → Codec.app r.args r.asked a = true → DwAll K H xs (Codec.encAll r.args a) →
      sp K xs H (fun v H' => Dw K H' v (r.ret.enc (Codec.app r.args r.f a))) fun _ _ _ => False)
    (hCX : ∀ (H : Hp) (s : Shared) (e : Value) (s' : Shared), CX [] H s (fun _ _ _ => False) e s' → False) :
    PySem.W.WalkOS q loose XP YP r d [] (fun f vs => PySem.call f vs) :=
  walk_spec (K := K) (CX := fun _ => CX) (sp := fun w => sp (K w.params)) hwell hdf hlen hr hY F (fun w H xs a h1 h2 h3 h4 => hsp (K w.params) H xs a h1 h2 h3 h4) fun _ H s e s' => hCX H s e s'
end L2
namespace Pm
open PySem PySem.Spec PyProof.Rows L2
theorem str_inj {a b : String} : (Str.ofString a = Str.ofString b) ↔ a = b := by
  constructor
  · intro h
    rw [Str.ofString_eq_toList, Str.ofString_eq_toList] at h
    have h1 : (a.toList.map Char.toNat).toArray = (b.toList.map Char.toNat).toArray := congrArg Str.cps h
    have h2 : a.toList.map Char.toNat = b.toList.map Char.toNat := by simpa using h1
    have inj : ∀ (l r : List Char), l.map Char.toNat = r.map Char.toNat → l = r := by
      intro l
      induction l with
      | nil => intro r hr; cases r with
        | nil => rfl
        | cons _ _ => simp at hr
      | cons x l ih => intro r hr; cases r with
        | nil => simp at hr
        | cons y r =>
          simp only [List.map_cons, List.cons.injEq] at hr
          have e : x = y := by
            have h := hr.1
            apply Char.ext
            apply UInt32.toNat_inj.mp
            exact h
          rw [e, ih r hr.2]
    exact String.toList_inj.mp (inj _ _ h2)
  · rintro rfl; rfl
def GI (mg : Str → Option Value) (x : Str) (i : Int) : Prop := ∃ t, mg x = some (.int i t)
section
variable {X : Cx} {x : Str} {i : Int} {pos p : Pos} {ps : List Str} {k k' : Nat} {sp : Sp} {e o : Expr} {es : List Expr} {t : TA} {ta : TE}
theorem pe_gv (h : GI X.mg x i) (hg : Gl X x := by rfl) (hd : (x == ("__debug__" : Str)) = false := by decide) : PE X (.Name x pos) (tC (.int i)) := by
  obtain ⟨u, h⟩ := h
  exact pe_glob hg h ⟨u, rfl⟩ hd
end
structure Env1 where
  P : Program
  w : World
  K : PySem.W.Frag
  mg : Str → Option Value
  base : Heap
def Fn (G : Env1) (x : Str) (ps : List Str) (k : Nat) (sp : Sp) : Prop :=
  ∃ (f : Addr) (fd : FuncData), FnOk G.P G.w G.K G.mg G.base CX0 k f fd ps sp ∧ G.mg x = some (.ref f) ∧ PySem.W.keepIn G.K (.ref f) = true ∧ Binds G.K fd ps []
def Mt (G : Env1) (C : Addr) (m : Str) (ps : List Str) (k : Nat) (sp : Sp) : Prop :=
  ∃ (f : Addr) (fd : FuncData), Cls G.K C ∧ Meth G.K C m f ∧ FnOk G.P G.w G.K G.mg G.base CX0 k f fd ps sp ∧ Binds G.K fd ps []
def Md (G : Env1) (x : Str) (C : Addr) (ps : List Str) (k : Nat) (sp : Sp) : Prop :=
  ∃ (f : Addr) (fd : FuncData), Mk G.K C f ∧ FnOk G.P G.w G.K G.mg G.base CX0 k f fd ps sp ∧ G.mg x = some (.ref C) ∧ Binds G.K fd ps []
abbrev envOf (X : Cx) : Env1 := ⟨X.prog, X.w, X.K, X.mg, X.base⟩
section
variable {X : Cx} {x m : Str} {C : Addr} {pos p apos : Pos} {ps : List Str} {k k' : Nat} {sp : Sp} {e o : Expr} {es : List Expr} {t : TA} {ta : TE}
theorem pe_fn (F : Fn (envOf X) x ps k sp) (hr : Room k' X.A) (hg : Gl X x) (ha : PA X (e :: es) t) (hk : k ≤ k' := by decide) (hdb : (x == ("__debug__" : Str)) = false := by decide) (he : starEach (e :: es) X.env = (false, eval e X.env) :: starEach es X.env := by rfl)
    (hpl : (backTo pos (starEach es X.env)).any (·.1) = false := by rfl) : PE X (.Call (.Name x p) (e :: es) [] pos) (tCall sp [] E0 t) := by
  obtain ⟨f, fd, F, hm, kp, b⟩ := F
  exact pe_call (CX := CX0) F (hr.mono hk) hg hm kp b .nil (fun _ _ _ _ _ _ _ h => h.elim) ha hdb he hpl
theorem pe_fn0 (F : Fn (envOf X) x ps k sp) (hr : Room k' X.A) (hg : Gl X x) (hk : k ≤ k' := by decide) (hdb : (x == ("__debug__" : Str)) = false := by decide) : PE X (.Call (.Name x p) [] [] pos) (tCall sp [] E0 tNil) := by
  obtain ⟨f, fd, F, hm, kp, b⟩ := F
  exact pe_call0 (CX := CX0) F (hr.mono hk) hg hm kp b .nil (fun _ _ _ _ _ _ _ h => h.elim) hdb
theorem pe_mk (F : Md (envOf X) x C ps k sp) (hr : Room k' X.A) (hg : Gl X x) (ha : PA X (e :: es) t) (hk : k + 1 ≤ k' := by decide) (hdb : (x == ("__debug__" : Str)) = false := by decide) (he : starEach (e :: es) X.env = (false, eval e X.env) :: starEach es X.env := by rfl)
    (hpl : (backTo pos (starEach es X.env)).any (·.1) = false := by rfl) : PE X (.Call (.Name x p) (e :: es) [] pos) (tMake C sp [] E0 t) := by
  obtain ⟨f, fd, M, F, hm, b⟩ := F
  exact pe_make (CX := CX0) M F (hr.mono hk) hg hm b .nil (fun _ _ _ _ _ _ _ h => h.elim) ha hdb he hpl
theorem pe_mk0 (F : Md (envOf X) x C ps k sp) (hr : Room k' X.A) (hg : Gl X x) (hk : k + 1 ≤ k' := by decide) (hdb : (x == ("__debug__" : Str)) = false := by decide) : PE X (.Call (.Name x p) [] [] pos) (tMake C sp [] E0 tNil) := by
  obtain ⟨f, fd, M, F, hm, b⟩ := F
  exact pe_make0 (CX := CX0) M F (hr.mono hk) hg hm b .nil (fun _ _ _ _ _ _ _ h => h.elim) hdb
theorem pe_mt {pl : Sem Bool} (F : Mt (envOf X) C m ps k sp) (hr : Room k' X.A) (ho : PE X o ta) (ha : PA X (e :: es) t) (hk : k ≤ k' := by decide)
    (hst : starEach (e :: es) X.env = (false, eval e X.env) :: starEach es X.env := by rfl) (hpl : (backTo pos (starEach es X.env)).any (·.1) = false := by rfl)
    (ht : eval (.Call (.Attribute o m apos) (e :: es) [] pos) X.env = (do
      let ov ← eval o X.env
      standAt apos.atName
      let (f, first) ← holding [ov] (getMethod ov m pl)
      callWith pos f first (backTo pos (starEach (e :: es) X.env)) (backToKw pos (keywordEach [] X.env))) := by rfl) :
    PE X (.Call (.Attribute o m apos) (e :: es) [] pos) (tMeth C m sp [] E0 ta t) := by
  obtain ⟨f, fd, c, M, F, b⟩ := F
  exact pe_meth (CX := CX0) ho c M F (hr.mono hk) b .nil (fun _ _ _ _ _ _ _ h => h.elim) ha hst hpl ht
theorem pe_mt0 {pl : Sem Bool} (F : Mt (envOf X) C m ps k sp) (hr : Room k' X.A) (ho : PE X o ta) (hk : k ≤ k' := by decide)
    (ht : eval (.Call (.Attribute o m apos) [] [] pos) X.env = (do
      let ov ← eval o X.env
      standAt apos.atName
      let (f, first) ← holding [ov] (getMethod ov m pl)
      callWith pos f first (backTo pos (starEach [] X.env)) (backToKw pos (keywordEach [] X.env))) := by rfl) :
    PE X (.Call (.Attribute o m apos) [] [] pos) (tMeth C m sp [] E0 ta tNil) := by
  obtain ⟨f, fd, c, M, F, b⟩ := F
  exact pe_meth0 (CX := CX0) ho c M F (hr.mono hk) b .nil (fun _ _ _ _ _ _ _ h => h.elim) ht
end
end Pm
namespace Pm
open PySem PySem.Spec PyProof.Rows L2
section
variable {K : PySem.W.Frag} {σ : L2.St} {H : Hp} {Q : VK} {ta tb te to : TE} {t u : TS} {ts : TA} {D : Ends} {R : Bool → Hp → Prop}
def fldR (K : PySem.W.Frag) (f : Str) (x : V) (H : Hp) (Q : VK) : Prop := ∃ a C dx fs v, x = .ref a ∧ H a = some (.ins C dx fs) ∧ Cls K C ∧ NoAttr K C f ∧ fs.lookup f = some v ∧ Q v H
theorem q_fld {f : Str} : tFld K ta f σ H Q = ta σ H (fun x H1 => fldR K f x H1 Q) := rfl
theorem fldR_of {C dx a : Addr} {fs : List (Str × V)} {f : Str} {v : V} (h : H a = some (.ins C dx fs)) (c : Cls K C) (n : NoAttr K C f) (l : fs.lookup f = some v) : fldR K f (.ref a) H Q = Q v H := by
  apply propext
  constructor
  · rintro ⟨a', C', dx', fs', v', e, h', _, _, l', q⟩
    cases e
    rw [h] at h'
    cases h'
    rw [l] at l'
    cases l'
    exact q
  · intro q
    exact ⟨a, C, dx, fs, v, rfl, h, c, n, l, q⟩
def setR (K : PySem.W.Frag) (f : Str) (y x : V) (H : Hp) (q : Hp → Prop) : Prop := ∃ a C dx fs, x = .ref a ∧ H a = some (.ins C dx fs) ∧ Cls K C ∧ NoAttr K C f ∧ fs.length < 1000 ∧ q (upd H a (.ins C dx (putF f y fs)))
theorem q_set {f : Str} : sFld K ta te f D σ H = te σ H (fun y H1 => ta σ H1 (fun x H2 => setR K f y x H2 (D.nx σ))) := rfl
theorem setR_of {C dx a : Addr} {fs : List (Str × V)} {f : Str} {y : V} {q : Hp → Prop} (h : H a = some (.ins C dx fs)) (c : Cls K C) (n : NoAttr K C f) (l : fs.length < 1000) : setR K f y (.ref a) H q = q (upd H a (.ins C dx (putF f y fs))) := by
  apply propext
  constructor
  · rintro ⟨a', C', dx', fs', e, h', _, _, _, q⟩
    cases e
    rw [h] at h'
    cases h'
    exact q
  · intro q
    exact ⟨a, C, dx, fs, rfl, h, c, n, l, q⟩
def methR (C : Addr) (m : Str) (x : V) (H : Hp) (q : Prop) : Prop := ∃ a dx fs, x = .ref a ∧ H a = some (.ins C dx fs) ∧ fs.lookup m = none ∧ q
theorem q_meth {C : Addr} {m : Str} {sp : Sp} {E : XK} : tMeth C m sp [] E ta ts σ H Q = ta σ H (fun x H1 => methR C m x H1 (ts σ H1 fun vs H2 => sp (x :: vs) H2 Q E)) := by
  unfold tMeth
  simp only [List.append_nil]
  rfl
theorem methR_of {C dx a : Addr} {fs : List (Str × V)} {m : Str} {q : Prop} (h : H a = some (.ins C dx fs)) (l : fs.lookup m = none) : methR C m (.ref a) H q = q := by
  apply propext
  constructor
  · rintro ⟨_, _, _, _, _, _, q⟩
    exact q
  · intro q
    exact ⟨a, dx, fs, rfl, h, l, q⟩
theorem q_call {sp : Sp} {E : XK} : tCall sp [] E ts σ H Q = ts σ H fun vs H1 => sp vs H1 Q E := by
  unfold tCall
  simp only [List.append_nil]
theorem q_make {C : Addr} {sp : Sp} {E : XK} : tMake C sp [] E ts σ H Q = ts σ H fun vs H1 => ∀ x dx, H1 x = none → H1 dx = none → dx ≠ x →
    sp (.ref x :: vs) (upd (upd H1 dx (.own x)) x (.ins C dx [])) (fun v H2 => v = .non ∧ Q (.ref x) H2) E := by
  unfold tMake
  simp only [List.append_nil]
def blR (x : V) (H : Hp) (R : Bool → Hp → Prop) : Prop := ∃ k, x = .bl k ∧ R k H
theorem blR_bl {b : Bool} : blR (.bl b) H R = R b H := by
  apply propext
  constructor
  · rintro ⟨k, e, q⟩
    cases e
    exact q
  · intro q
    exact ⟨b, rfl, q⟩
theorem q_test : tTest te σ H R = te σ H fun x H1 => blR x H1 R := rfl
theorem q_andV : tAndV ta tb σ H Q = ta σ H fun x H1 => blR x H1 fun c H2 => if c = true then tb σ H2 Q else Q (.bl false) H2 := rfl
theorem q_orV : tOrV ta tb σ H Q = ta σ H fun x H1 => blR x H1 fun c H2 => if c = true then Q (.bl true) H2 else tb σ H2 Q := rfl
theorem q_notV : tNotV ta σ H Q = ta σ H fun x H1 => blR x H1 fun c H2 => Q (.bl (!c)) H2 := rfl
def truR (K : PySem.W.Frag) (x : V) (H : Hp) (R : Bool → Hp → Prop) : Prop := ∃ k, TruV K x H k ∧ R k H
theorem truR_bl {b : Bool} : truR K (.bl b) H R = R b H := by
  apply propext
  constructor
  · rintro ⟨k, e, q⟩
    cases e
    exact q
  · intro q
    exact ⟨b, rfl, q⟩
theorem truR_int {i : Int} : truR K (.int i) H R = R (i != 0) H := by
  apply propext
  constructor
  · rintro ⟨k, e, q⟩
    cases e
    exact q
  · intro q
    exact ⟨_, rfl, q⟩
theorem SqL.uniq_lst {a : Addr} {xs : List V} (h : H a = some (.lst xs)) : SqL K H a xs := SqL.of h
theorem pt_tru {X : Cx} {a : Expr} (ha : PE X a ta) (he : ∀ whole, isTrue a X.env whole = (do let v ← whole; standAt a.pos; holding [v] (truthy v)) := by intro _; rfl) :
    PT X a (fun σ H Q => ta σ H fun x H1 => truR X.K x H1 Q) := pt_truth ha he
theorem leaf {B b : Bool} (k : Q (.bl B) H) (e : B = b) : Q (.bl b) H := e ▸ k
theorem rI0_int {g : Int → Int → V} {i j : Int} : rI0 g (.int i) (.int j) H Q = Q (g i j) H := by
  apply propext
  constructor
  · rintro ⟨_, _, e1, e2, q⟩
    cases e1
    cases e2
    exact q
  · intro q
    exact ⟨i, j, rfl, rfl, q⟩
theorem rI_int {C : Int → Int → Prop} {g : Int → Int → V} {i j : Int} : rI C g (.int i) (.int j) H Q = (C i j ∧ Q (g i j) H) := by
  apply propext
  constructor
  · rintro ⟨_, _, e1, e2, q⟩
    cases e1
    cases e2
    exact q
  · intro q
    exact ⟨i, j, rfl, rfl, q⟩
theorem rEq_int {i j : Int} : rEq (.int i) (.int j) H Q = Q (.bl (decide (i = j))) H := by
  unfold rEq
  simp [scal]
theorem rNe_int {i j : Int} : rNe (.int i) (.int j) H Q = Q (.bl (!decide (i = j))) H := by
  unfold rNe
  simp [scal]
theorem rEq_nat {i j : Nat} : rEq (.int i) (.int j) H Q = Q (.bl (decide (i = j))) H := by
  rw [rEq_int]
  congr 2
  exact decide_eq_decide.mpr Int.ofNat_inj
theorem rNe_nat {i j : Nat} : rNe (.int i) (.int j) H Q = Q (.bl (!decide (i = j))) H := by
  rw [rNe_int]
  congr 3
  exact decide_eq_decide.mpr Int.ofNat_inj
def gapV : Option Nat → V
  | none => .non
  | some g => .int g
theorem rEq_gap {i j : Option Nat} : rEq (gapV i) (gapV j) H Q = Q (.bl (decide (i = j))) H := by
  cases i with
  | none => cases j <;> simp [rEq, scal, gapV]
  | some i => cases j with
    | none => simp [rEq, scal, gapV]
    | some j =>
      refine Eq.trans (rEq_nat (H := H) (Q := Q) (i := i) (j := j)) ?_
      simp only [Option.some.injEq]
theorem rNe_gap {i j : Option Nat} : rNe (gapV i) (gapV j) H Q = Q (.bl (!decide (i = j))) H := by
  cases i with
  | none => cases j <;> simp [rNe, scal, gapV]
  | some i => cases j with
    | none => simp [rNe, scal, gapV]
    | some j =>
      refine Eq.trans (rNe_nat (H := H) (Q := Q) (i := i) (j := j)) ?_
      simp only [Option.some.injEq]
def natsV (l : List Nat) : List V := l.map fun (n : Nat) => V.int n
def intsV (l : List Int) : List V := l.map V.int
theorem natsV_length {l : List Nat} : (natsV l).length = l.length := by unfold natsV; rw [List.length_map]
theorem intsV_length {l : List Int} : (intsV l).length = l.length := by unfold intsV; rw [List.length_map]
theorem natsV_inj : ∀ {l r : List Nat}, natsV l = natsV r → l = r
  | [], [], _ => rfl
  | [], _ :: _, h => by cases h
  | _ :: _, [], h => by cases h
  | a :: l, b :: r, h => by
    have h1 : V.int a :: natsV l = V.int b :: natsV r := h
    injection h1 with h2 h3
    injection h2 with h4
    rw [Int.ofNat_inj.mp h4, natsV_inj h3]
abbrev Ls (H : Hp) (p : Addr) (xs : List V) : Prop := Rd H p (.lst xs)
theorem Ls.of {p : Addr} {xs : List V} (h : H p = some (.lst xs)) : Ls H p xs := .inl h
theorem Ls.sq {p : Addr} {xs : List V} (h : Ls H p xs) : SqL K H p xs := .inl h
theorem Ls.uniq {p : Addr} {xs ys : List V} (h : Ls H p xs) (h' : Ls H p ys) : xs = ys := by
  rcases h with h | ⟨o, h⟩ <;> rcases h' with h' | ⟨o', h'⟩ <;> rw [h] at h' <;> cases h' <;> rfl
def lenR (xs : List V) (H : Hp) (Q : VK) : Prop := ∃ p ys, xs = [.ref p] ∧ Ls H p ys ∧ Q (.int ys.length) H
theorem call_lenN {X : Cx} : CallR X (.builtin "len") lenR := by
  intro pins s σ H xs us Q I r h
  obtain ⟨p, ys, e, h, q⟩ := h
  exact call_len_seq pins s σ H xs us Q I r ⟨p, ys, e, .inl h.sq, q⟩
theorem lenR_of {p : Addr} {ys : List V} (h : Ls H p ys) : lenR [.ref p] H Q = Q (.int ys.length) H := by
  apply propext
  constructor
  · rintro ⟨p', ys', e, h', q⟩
    cases e
    cases h.uniq h'
    exact q
  · intro q
    exact ⟨p, ys, rfl, h, q⟩
def ixV (xs : List V) (i : Int) (q : V → Prop) : Prop := ∃ v, atI xs i = some v ∧ q v
theorem ixV_of {xs : List V} {i : Int} {v : V} {q : V → Prop} (h : atI xs i = some v) : ixV xs i q = q v := by
  apply propext
  constructor
  · rintro ⟨v', e, q⟩
    rw [h] at e
    cases e
    exact q
  · intro q
    exact ⟨v, h, q⟩
theorem ixV_nat {xs : List V} {i : Nat} {v : V} {q : V → Prop} (h : xs[i]? = some v) : ixV xs (i : Int) q = q v := ixV_of (atI_nat h)
def ixR : R2 := fun x y H Q => ∃ p xs i v, x = .ref p ∧ y = .int i ∧ Ls H p xs ∧ atI xs i = some v ∧ Q v H
theorem ix_lst {X : Cx} : IxR X ixR := by
  intro value slice pins s σ H x y v u Q I rx ry h e
  obtain ⟨p, xs, i, v', e1, e2, h, a, q⟩ := h
  exact ix_list value slice pins s σ H x y v u Q I rx ry ⟨p, xs, i, v', e1, e2, h.sq, a, q⟩ e
theorem ixR_of {p : Addr} {xs : List V} (h : Ls H p xs) {i : Int} : ixR (.ref p) (.int i) H Q = ixV xs i fun v => Q v H := by
  apply propext
  constructor
  · rintro ⟨p', xs', i', v, e1, e2, h', a, q⟩
    cases e1
    cases e2
    cases h.uniq h'
    exact ⟨v, a, q⟩
  · rintro ⟨v, a, q⟩
    exact ⟨p, xs, i, v, rfl, rfl, h, a, q⟩
def slR : V → Option Int → Option Int → Hp → VK → Prop := fun x lo hi H Q => ∃ a xs, x = .ref a ∧ Ls H a xs ∧ ∀ p, H p = none → Q (.ref p) (upd H p (.lst (cutV xs lo hi)))
theorem sl_lst {X : Cx} : SlR X slR := by
  intro pins s σ H x v vl vu lo hi sl Q I rx hs pl pu h
  obtain ⟨a, xs, e, h, q⟩ := h
  exact sl_list pins s σ H x v vl vu lo hi sl Q I rx hs pl pu ⟨a, xs, e, h.sq, q⟩
theorem slR_of {p : Addr} {xs : List V} (h : Ls H p xs) {lo hi : Option Int} : slR (.ref p) lo hi H Q = ∀ b, H b = none → Q (.ref b) (upd H b (.lst (cutV xs lo hi))) := by
  apply propext
  constructor
  · rintro ⟨p', xs', e1, h', q⟩
    cases e1
    cases h.uniq h'
    exact q
  · intro q
    exact ⟨p, xs, rfl, h, q⟩
def lsR (xs : List V) (H : Hp) (Q : VK) : Prop := ∃ p ys, xs = [.ref p] ∧ Ls H p ys ∧ ∀ l, H l = none → Q (.ref l) (upd H l (.lst ys))
theorem call_lsN {X : Cx} : CallR X (.type "list") lsR := by
  intro pins s σ H xs us Q I r h
  obtain ⟨p, ys, e, h, q⟩ := h
  exact call_list_of pins s σ H xs us Q I r ⟨p, ys, e, .inl h.sq, q⟩
theorem lsR_of {p : Addr} {ys : List V} (h : Ls H p ys) : lsR [.ref p] H Q = ∀ l, H l = none → Q (.ref l) (upd H l (.lst ys)) := by
  apply propext
  constructor
  · rintro ⟨p', ys', e, h', q⟩
    cases e
    cases h.uniq h'
    exact q
  · intro q
    exact ⟨p, ys, rfl, h, q⟩
theorem dpAll_ints {l : List Int} : DpAll K H (intsV l) (l.map PyData.int) := by
  induction l with
  | nil => exact .nil
  | cons a l ih => exact .cons (.int a) ih
theorem intsV_inj : ∀ {l r : List Int}, intsV l = intsV r → l = r
  | [], [], _ => rfl
  | [], _ :: _, h => by cases h
  | _ :: _, [], h => by cases h
  | a :: l, b :: r, h => by
    have h1 : V.int a :: intsV l = V.int b :: intsV r := h
    injection h1 with h2 h3
    injection h2 with h4
    rw [h4, intsV_inj h3]
theorem natsV_ints (l : List Nat) : natsV l = intsV (l.map fun (n : Nat) => (n : Int)) := by
  unfold natsV intsV
  rw [List.map_map]
  rfl
def eqLR : R2 := fun x y H Q => ∃ l l' ns ms, x = .ref l ∧ y = .ref l' ∧ Ls H l (intsV ns) ∧ Ls H l' (intsV ms) ∧ Q (.bl (decide (ns = ms))) H
theorem eqv_ints (ns ms : List Int) : PyData.eqv (.list (ns.map PyData.int)) (.list (ms.map PyData.int)) = decide (ns = ms) := by
  rw [← SeqAt.same_eq_eqv _ _ (by simp only [SeqAt.noMix]; exact PySem.W.noMix_ints ns ms)]
  simp only [PySem.Spec.same]
  exact PySem.W.same_ints ns ms
theorem op_eqL {X : Cx} (hu : X.A.units + 64 < cLine) : OpR X (compareOp .Eq) eqLR := by
  intro pins s σ H x y v u Q I rx ry h
  obtain ⟨l, l', ns, ms, e1, e2, h1, h2, q⟩ := h
  subst e1
  subst e2
  refine op_eqD hu pins s σ H _ _ v u Q I rx ry ⟨_, _, .lst h1.sq dpAll_ints, .lst h2.sq dpAll_ints, PySem.W.shaped_ints ns, PySem.W.shaped_ints ms, ?_⟩
  rw [eqv_ints]
  exact q
theorem eqLR_of {l l' : Addr} {ns ms : List Int} (h : Ls H l (intsV ns)) (h' : Ls H l' (intsV ms)) : eqLR (.ref l) (.ref l') H Q = Q (.bl (decide (ns = ms))) H := by
  apply propext
  constructor
  · rintro ⟨_, _, ns', ms', e1, e2, h1, h2, q⟩
    cases e1
    cases e2
    cases intsV_inj (h.uniq h1)
    cases intsV_inj (h'.uniq h2)
    exact q
  · intro q
    exact ⟨l, l', ns, ms, rfl, rfl, h, h', q⟩
theorem eqLR_nats {l l' : Addr} {ns ms : List Nat} (h : H l = some (.lst (natsV ns))) (h' : H l' = some (.lst (natsV ms))) : eqLR (.ref l) (.ref l') H Q = Q (.bl (decide (ns = ms))) H := by
  rw [natsV_ints] at h h'
  rw [eqLR_of (Ls.of h) (Ls.of h')]
  congr 2
  refine decide_eq_decide.mpr ⟨fun e => ?_, fun e => by rw [e]⟩
  refine natsV_inj ?_
  rw [natsV_ints, natsV_ints, e]
theorem Ls.rd {p : Addr} {xs : List V} (h : Ls H p xs) :
    (∀ Q, lenR [.ref p] H Q = Q (.int xs.length) H) ∧ (∀ i Q, ixR (.ref p) (.int i) H Q = ixV xs i fun v => Q v H) ∧ (∀ lo hi Q, slR (.ref p) lo hi H Q = ∀ b, H b = none → Q (.ref b) (upd H b (.lst (cutV xs lo hi)))) ∧
    (∀ Q, lsR [.ref p] H Q = ∀ l, H l = none → Q (.ref l) (upd H l (.lst xs))) :=
  ⟨fun _ => lenR_of h, fun _ _ => ixR_of h, fun _ _ _ => slR_of h, fun _ => lsR_of h⟩
end
section
variable {K : PySem.W.Frag} {σ : L2.St} {H : Hp} {Q : VK}
theorem q_cxK {CX : CXT} {P : Program} {w : World} {mg : Str → Option Value} {base : Heap} {N : List Str} {qual : Str} {scope : Scope} {f : Addr} {cd : Value} {A : Around} {outer : List Env} {s : Shared} {H : Hp} {E : XK} :
    (cxOf CX P w K mg base N qual scope f cd A outer s H E).K = K := rfl
end
end Pm
namespace Pm
open PySem PySem.Spec PyProof.Rows L2
theorem bt_len : bootBuiltins "len" = some (.builtin "len") := by decide +kernel
theorem bt_max : bootBuiltins "max" = some (.builtin "max") := by decide +kernel
theorem bt_min : bootBuiltins "min" = some (.builtin "min") := by decide +kernel
theorem bt_all : bootBuiltins "all" = some (.builtin "all") := by decide +kernel
theorem bt_any : bootBuiltins "any" = some (.builtin "any") := by decide +kernel
theorem bt_sum : bootBuiltins "sum" = some (.builtin "sum") := by decide +kernel
theorem bt_sorted : bootBuiltins "sorted" = some (.builtin "sorted") := by decide +kernel
theorem bt_list : bootBuiltins "list" = some (.type "list") := by decide +kernel
section
variable {K : PySem.W.Frag} {σ : L2.St} {H : Hp} {Q : VK} {X : Cx}
def max2R (xs : List V) (H : Hp) (Q : VK) : Prop := ∃ i j, xs = [.int i, .int j] ∧ Q (.int (max i j)) H
def min2R (xs : List V) (H : Hp) (Q : VK) : Prop := ∃ i j, xs = [.int i, .int j] ∧ Q (.int (min i j)) H
theorem call_maxN (hc : X.calm = true) : CallR X (.builtin "max") max2R := by
  intro pins s σ H xs us Q I r h
  obtain ⟨i, j, e, q⟩ := h
  refine call_max2 hc pins s σ H xs us Q I r ⟨i, j, e, ?_⟩
  have e2 : (if j > i then j else i) = max i j := by split <;> omega
  rw [e2]
  exact q
theorem call_minN (hc : X.calm = true) : CallR X (.builtin "min") min2R := by
  intro pins s σ H xs us Q I r h
  obtain ⟨i, j, e, q⟩ := h
  refine call_min2 hc pins s σ H xs us Q I r ⟨i, j, e, ?_⟩
  have e2 : (if j < i then j else i) = min i j := by split <;> omega
  rw [e2]
  exact q
theorem max2R_int {i j : Int} : max2R [.int i, .int j] H Q = Q (.int (max i j)) H := by
  apply propext
  constructor
  · rintro ⟨_, _, e, q⟩
    cases e
    exact q
  · intro q
    exact ⟨i, j, rfl, q⟩
theorem min2R_int {i j : Int} : min2R [.int i, .int j] H Q = Q (.int (min i j)) H := by
  apply propext
  constructor
  · rintro ⟨_, _, e, q⟩
    cases e
    exact q
  · intro q
    exact ⟨i, j, rfl, q⟩
def allR (xs : List V) (H : Hp) (Q : VK) : Prop := ∃ (p : Addr) (bs : List Bool), xs = [.ref p] ∧ Ls H p (bs.map V.bl) ∧ Q (.bl (bs.all id)) H
def anyR (xs : List V) (H : Hp) (Q : VK) : Prop := ∃ (p : Addr) (bs : List Bool), xs = [.ref p] ∧ Ls H p (bs.map V.bl) ∧ Q (.bl (bs.any id)) H
def sumR (xs : List V) (H : Hp) (Q : VK) : Prop := ∃ (p : Addr) (ns : List Int), xs = [.ref p] ∧ Ls H p (intsV ns) ∧ Q (.int ns.sum) H
theorem call_allN (hc : X.calm = true) : CallR X (.builtin "all") allR := by
  intro pins s σ H xs us Q I r h
  obtain ⟨p, bs, e, h, q⟩ := h
  exact cr_all hc pins s σ H xs us Q I r ⟨p, bs, e, h.sq, q⟩
theorem call_anyN (hc : X.calm = true) : CallR X (.builtin "any") anyR := by
  intro pins s σ H xs us Q I r h
  obtain ⟨p, bs, e, h, q⟩ := h
  exact cr_any hc pins s σ H xs us Q I r ⟨p, bs, e, h.sq, q⟩
theorem call_sumN (hc : X.calm = true) : CallR X (.builtin "sum") sumR := by
  intro pins s σ H xs us Q I r h
  obtain ⟨p, bs, e, h, q⟩ := h
  exact cr_sum hc pins s σ H xs us Q I r ⟨p, bs, e, h.sq, q⟩
theorem same_new {H : Hp} {D : Addr} {o : HO} (h : H D = none) : Same H (upd H D o) := fun b u e => by
  rw [upd_ne (ne_of_none e h)]
  exact e
theorem same_ls {H H' : Hp} {p : Addr} {xs : List V} (s : Same H H') (h : Ls H p xs) : Ls H' p xs := by
  rcases h with h | ⟨o, h⟩
  · exact .inl (s _ _ h)
  · exact .inr ⟨o, s _ _ h⟩
theorem filter_take {α β : Type} {xs : List α} {i : Nat} {x : α} (p : α → Bool) (f : α → β) (h : xs[i]? = some x) : ((xs.take (i + 1)).filter p).map f = ((xs.take i).filter p).map f ++ (if p x = true then [f x] else []) := by
  have e : xs.take (i + 1) = xs.take i ++ [x] := by
    rw [List.take_add_one, h]
    rfl
  rw [e, List.filter_append, List.map_append]
  congr 1
  by_cases hp : p x = true
  · simp [hp]
  · simp [hp]
theorem lc_pureL {α : Type} {tl : TE} {a : Addr} {xs : List α} {g : α → V} {i : Nat} {tt : TT} {te : TE} {vs : List Nat} {R : VK} (p : α → Bool) (f : α → V) (htl : ∀ B : VK, B (.ref a) H → tl σ H B) (hx : Ls H a (xs.map g)) (hl : xs.length ≤ sizeLine)
    (hw : ∀ x, wipe ((wipe σ vs).set i (some x)) vs = wipe σ vs)
    (ht : ∀ (j : Nat) (x : α) (H' : Hp) (B : Bool → Hp → Prop), xs[j]? = some x → Same H H' → B (p x) H' → tt ((wipe σ vs).set i (some (g x))) H' B)
    (he : ∀ (j : Nat) (x : α) (H' : Hp) (B : VK), xs[j]? = some x → p x = true → Same H H' → B (f x) H' → te ((wipe σ vs).set i (some (g x))) H' B)
    (q : ∀ D, H D = none → R (.ref D) (upd H D (.lst ((xs.filter p).map f)))) : tLc (iList K tl) (gName i) tt te vs σ H R := by
  refine htl _ ⟨a, rfl, ⟨xs.map g, hx.sq⟩, fun D hD => ?_⟩
  refine lc_list (K := K) (a := a) (xs := xs.map g) (Qd := fun H' => R (.ref D) H') (fun i H' => H' = upd H D (.lst (((xs.take i).filter p).map f))) rfl (fun i H' _ e => ?_) (fun j x' H' hj' e => ?_) (fun H' e => ?_)
  · subst e
    exact (same_ls (same_new hD) hx).sq
  · subst e
    obtain ⟨x, hj, rfl⟩ : ∃ x, xs[j]? = some x ∧ x' = g x := by
      rw [List.getElem?_map] at hj'
      cases e : xs[j]? with
      | none => rw [e] at hj'; cases hj'
      | some x => rw [e] at hj'; exact ⟨x, rfl, (Option.some.inj hj').symm⟩
    refine ⟨hw _, ht j x _ _ hj (same_new hD) ?_⟩
    have hjl : j < xs.length := (List.getElem?_eq_some_iff.mp hj).1
    by_cases hp : p x = true
    · rw [if_pos hp]
      refine he j x _ _ hj hp (same_new hD) ⟨_, upd_same, ?_, ?_⟩
      · rw [List.length_map]
        refine Nat.lt_of_le_of_lt (List.length_filter_le _ _) ?_
        rw [List.length_take]
        omega
      · rw [upd_upd, filter_take p f hj, if_pos hp]
    · rw [if_neg hp, filter_take p f hj, if_neg hp, List.append_nil]
  · subst e
    rw [List.length_map, List.take_length]
    exact q D hD
theorem range_take {n i : Nat} {p : Nat → Bool} {f : Nat → V} : (((List.range (i + 1)).filter p).map f) = ((List.range i).filter p).map f ++ (if p i = true then [f i] else []) := by
  rw [List.range_succ, List.filter_append, List.map_append]
  congr 1
  by_cases hp : p i = true
  · simp [hp]
  · simp [hp]
theorem lc_pureR {ta : TA} {n : Nat} {i : Nat} {tt : TT} {te : TE} {vs : List Nat} {R : VK} (p : Nat → Bool) (f : Nat → V) (hta : ∀ B : List V → Hp → Prop, B [.int n] H → ta σ H B) (hl : n ≤ sizeLine)
    (hw : ∀ x, wipe ((wipe σ vs).set i (some x)) vs = wipe σ vs)
    (ht : ∀ (j : Nat) (H' : Hp) (B : Bool → Hp → Prop), j < n → Same H H' → B (p j) H' → tt ((wipe σ vs).set i (some (.int j))) H' B)
    (he : ∀ (j : Nat) (H' : Hp) (B : VK), j < n → p j = true → Same H H' → B (f j) H' → te ((wipe σ vs).set i (some (.int j))) H' B)
    (q : ∀ D, H D = none → R (.ref D) (upd H D (.lst (((List.range n).filter p).map f)))) : tLc (iRng1 ta) (gName i) tt te vs σ H R := by
  have hs : (sizeLine : Nat) = 16777216 := by decide
  refine hta _ ⟨n, rfl, by omega, by omega, fun D hD => ?_⟩
  refine lc_range (lo := 0) (n := n) (Qd := fun H' => R (.ref D) H') (fun i H' => H' = upd H D (.lst (((List.range i).filter p).map f))) rfl (fun j H' hj e => ?_) (fun H' e => ?_)
  · subst e
    have e0 : (0 : Int) + (j : Nat) = (j : Int) := by omega
    rw [e0]
    refine ⟨hw _, ht j _ _ hj (same_new hD) ?_⟩
    by_cases hp : p j = true
    · rw [if_pos hp]
      refine he j _ _ hj hp (same_new hD) ⟨_, upd_same, ?_, ?_⟩
      · rw [List.length_map]
        refine Nat.lt_of_le_of_lt (List.length_filter_le _ _) ?_
        rw [List.length_range]
        omega
      · rw [upd_upd, range_take (n := n), if_pos hp]
    · rw [if_neg hp, range_take (n := n), if_neg hp, List.append_nil]
  · subst e
    exact q D hD
end
end Pm
namespace Pm
open PySem PySem.Spec PyProof.Rows L2
section
variable {K : PySem.W.Frag} {σ : L2.St} {H : Hp} {Q : VK} {X : Cx}
theorem relV_uniq : ∀ {v w : V} {u : Value}, L2.RelV v u → L2.RelV w u → v = w := by
  intro v w u h h'
  cases v <;> cases w <;> simp only [L2.RelV] at h h' <;>
    first
    | (obtain ⟨t, rfl⟩ := h; obtain ⟨t', e⟩ := h'; cases e <;> rfl)
    | (obtain ⟨t, rfl⟩ := h; cases h' <;> rfl)
    | (subst h; obtain ⟨t', e⟩ := h'; cases e <;> rfl)
    | (subst h; cases h' <;> rfl)
theorem vals_uniq : ∀ {xs ys : List V} {us : List Value}, Vals xs us → Vals ys us → xs = ys
  | _, _, _, .nil, .nil => rfl
  | _, _, _, .cons r t, .cons r' t' => by rw [relV_uniq r r', vals_uniq t t']
def KT (K : PySem.W.Frag) (p : Addr) (xs : List V) : Prop := ∃ (o : Obj) (its : Array Value) (n : Nat), K.lookup p = some o ∧ o.cls = .type "tuple" ∧ o.data = .seq its n ∧ its.size ≤ sizeLine ∧ Vals xs its.toList
theorem KT.uniq {p : Addr} {xs ys : List V} (h : KT K p xs) (h' : KT K p ys) : xs = ys := by
  obtain ⟨o, its, n, h1, _, h2, _, h3⟩ := h
  obtain ⟨o', its', n', h1', _, h2', _, h3'⟩ := h'
  rw [h1] at h1'
  cases h1'
  rw [h2] at h2'
  cases h2'
  exact vals_uniq h3 h3'
def ixK (K : PySem.W.Frag) : R2 := fun x y H Q => ∃ p xs i v, x = .ref p ∧ y = .int i ∧ KT K p xs ∧ atI xs i = some v ∧ Q v H
theorem ix_kt : IxR X (ixK X.K) := by
  intro value slice pins s σ H x y v u Q I rx ry h e
  obtain ⟨p, xs, i, v', e1, e2, h, a, q⟩ := h
  exact ix_tup value slice pins s σ H x y v u Q I rx ry ⟨p, xs, i, v', e1, e2, .inr h, a, q⟩ e
theorem ixK_of {p : Addr} {xs : List V} (h : KT K p xs) {i : Int} : ixK K (.ref p) (.int i) H Q = ixV xs i fun v => Q v H := by
  apply propext
  constructor
  · rintro ⟨p', xs', i', v, e1, e2, h', a, q⟩
    cases e1
    cases e2
    cases h.uniq h'
    exact ⟨v, a, q⟩
  · rintro ⟨v, a, q⟩
    exact ⟨p, xs, i, v, rfl, rfl, h, a, q⟩
def GR (mg : Str → Option Value) (x : Str) (a : Addr) : Prop := mg x = some (.ref a)
theorem pe_gr {x : Str} {a : Addr} {pos : Pos} (h : GR X.mg x a) (hg : Gl X x := by rfl) (hd : (x == ("__debug__" : Str)) = false := by decide) : PE X (.Name x pos) (tC (.ref a)) := pe_glob hg h rfl hd
theorem q_sl {r : V → Option Int → Option Int → Hp → VK → Prop} {te : TE} {tl th : TO} : tSl r te tl th σ H Q = te σ H fun x H1 => tl σ H1 fun l H2 => th σ H2 fun u H3 => r x l u H3 Q := rfl
def intR (x : V) (H : Hp) (R : Option Int → Hp → Prop) : Prop := ∃ i, x = .int i ∧ R (some i) H
theorem q_part {te : TE} {R : Option Int → Hp → Prop} : tPart te σ H R = te σ H fun x H1 => intR x H1 R := rfl
theorem q_nopart {R : Option Int → Hp → Prop} : tNoPart σ H R = R none H := rfl
theorem intR_int {i : Int} {R : Option Int → Hp → Prop} : intR (.int i) H R = R (some i) H := by
  apply propext
  constructor
  · rintro ⟨_, e, q⟩
    cases e
    exact q
  · intro q
    exact ⟨i, rfl, q⟩
theorem cut_nat (xs : List V) (k n : Nat) (h : k + n ≤ xs.length) : cutV xs (some (k : Int)) (some ((k + n : Nat) : Int)) = (xs.drop k).take n := by
  unfold cutV
  rw [HT.sIx_nat, HT.sIx_nat, Nat.min_eq_left h, Nat.min_eq_left (by omega)]
  congr 1
  omega
theorem cut_at {xs : List V} {lo hi : Int} (k n : Nat) (e1 : lo = k) (e2 : hi = k + n) (h : k + n ≤ xs.length) : cutV xs (some lo) (some hi) = (xs.drop k).take n := by
  have e3 : hi = ((k + n : Nat) : Int) := by omega
  rw [e1, e3]
  exact cut_nat xs k n h
theorem ixV_0 {x : V} {l : List V} {q : V → Prop} : ixV (x :: l) 0 q = q x := ixV_nat (i := 0) rfl
theorem ixV_1 {x y : V} {l : List V} {q : V → Prop} : ixV (x :: y :: l) 1 q = q y := ixV_nat (i := 1) rfl
theorem ixV_2 {x y z : V} {l : List V} {q : V → Prop} : ixV (x :: y :: z :: l) 2 q = q z := ixV_nat (i := 2) rfl
theorem ixV_3 {x y z u : V} {l : List V} {q : V → Prop} : ixV (x :: y :: z :: u :: l) 3 q = q u := ixV_nat (i := 3) rfl
theorem intsV_cut (ns : List Int) (k n : Nat) : ((intsV ns).drop k).take n = intsV ((ns.drop k).take n) := by
  unfold intsV
  rw [List.map_take, List.map_drop]
theorem intsV_app (a b : List Int) : intsV (a ++ b) = intsV a ++ intsV b := by
  unfold intsV
  rw [List.map_append]
theorem lw_rd {p : Addr} {xs : List V} (h : H p = some (.lst xs)) :
    (∀ K, tyV K "list" (.ref p) H = True) ∧ (∀ y Q, rAppend (.ref p) [y] H Q = (xs.length < sizeLine ∧ Q .non (upd H p (.lst (xs ++ [y]))))) ∧
    (∀ b Q, rExtend (.ref p) [.ref b] H Q = ∃ zs, H b = some (.lst zs) ∧ xs.length + zs.length ≤ sizeLine ∧ Q .non (upd H p (.lst (xs ++ zs)))) ∧
    (∀ b Q, rCat (.ref p) (.ref b) H Q = ∃ zs, H b = some (.lst zs) ∧ xs.length + zs.length ≤ sizeLine ∧ ∀ c, H c = none → Q (.ref c) (upd H c (.lst (xs ++ zs)))) := by
  refine ⟨fun K => eq_true (.inl ⟨rfl, xs, SqL.of h⟩), fun y Q => propext ⟨?_, ?_⟩, fun b Q => propext ⟨?_, ?_⟩, fun b Q => propext ⟨?_, ?_⟩⟩
  · rintro ⟨l, xs', y', e1, e2, h', hl, q⟩
    cases e1
    cases e2
    rw [h] at h'
    cases h'
    exact ⟨hl, q⟩
  · rintro ⟨hl, q⟩
    exact ⟨p, xs, y, rfl, rfl, h, hl, q⟩
  · rintro ⟨l, b', xs', zs, e1, e2, h', h2, hl, q⟩
    cases e1
    cases e2
    rw [h] at h'
    cases h'
    exact ⟨zs, h2, hl, q⟩
  · rintro ⟨zs, h2, hl, q⟩
    exact ⟨p, b, xs, zs, rfl, rfl, h, h2, hl, q⟩
  · rintro ⟨l, b', xs', zs, e1, e2, h', h2, hl, q⟩
    cases e1
    cases e2
    rw [h] at h'
    cases h'
    exact ⟨zs, h2, hl, q⟩
  · rintro ⟨zs, h2, hl, q⟩
    exact ⟨p, b, xs, zs, rfl, rfl, h, h2, hl, q⟩
def lenS (K : PySem.W.Frag) (xs : List V) (H : Hp) (Q : VK) : Prop := ∃ p ys, xs = [.ref p] ∧ (SqL K H p ys ∨ SqT K H p ys) ∧ Q (.int ys.length) H
theorem call_lenS : CallR X (.builtin "len") (lenS X.K) := call_len_seq
theorem lenS_imp {p : Addr} {ys : List V} (h : SqL K H p ys) (q : Q (.int ys.length) H) : lenS K [.ref p] H Q := ⟨p, ys, rfl, .inl h, q⟩
def ixS (K : PySem.W.Frag) : R2 := rIxL K
theorem ix_S : IxR X (ixS X.K) := ix_list
theorem ixS_imp {p : Addr} {xs : List V} {i : Int} {v : V} (h : SqL K H p xs) (a : atI xs i = some v) (q : Q v H) : ixS K (.ref p) (.int i) H Q := ⟨p, xs, i, v, rfl, rfl, h, a, q⟩
def slS (K : PySem.W.Frag) : V → Option Int → Option Int → Hp → VK → Prop := rSlL K
theorem sl_S : SlR X (slS X.K) := sl_list
theorem slS_imp {p : Addr} {xs : List V} {lo hi : Option Int} (h : SqL K H p xs) (q : ∀ b, H b = none → Q (.ref b) (upd H b (.lst (cutV xs lo hi)))) : slS K (.ref p) lo hi H Q := ⟨p, xs, rfl, h, q⟩
theorem q_bm {T : String} {r : V → List V → Hp → VK → Prop} {to : TE} {t : TA} : tBM K T r to t σ H Q = to σ H fun x H1 => tyV K T x H1 ∧ t σ H1 fun xs H2 => r x xs H2 Q := rfl
theorem q_bm0 {T : String} {r : V → List V → Hp → VK → Prop} {to : TE} : tBM0 K T r to σ H Q = to σ H fun x H1 => tyV K T x H1 ∧ r x [] H1 Q := rfl
end
end Pm
namespace Pm
open PySem PySem.Spec PyProof.Rows L2
def blkB (N : List Str) (sc scope : Scope) (own : List (Str × Nat)) : Bool :=
  decide (scope.kind = .function) && (decide (∀ y ∈ scope.names, scope.names.lookup y.1 = some y.2) && (decide (∀ p ∈ own, N[p.2]? = some p.1) &&
    (decide (∀ y ∈ scope.names, y.2 = .free → sc.names.lookup y.1 = some .cell ∨ sc.names.lookup y.1 = some .free) && decide (∀ y ∈ scope.names, y.2 = .local ∨ y.2 = .cell → y.1 ∈ own.map (·.1) ∨ y.1 ∉ N))))
theorem blk_mk {N N' : List Str} {sc sc' scope : Scope} {own : List (Str × Nat)} (hN : N' = N) (hs : sc' = sc) (h : blkB N sc scope own = true) : BlkOk N' sc' scope own := by
  subst hN
  subst hs
  unfold blkB at h
  simp only [Bool.and_eq_true, decide_eq_true_eq] at h
  exact ⟨h.1, h.2.1, h.2.2.1, h.2.2.2.1, h.2.2.2.2⟩
end Pm
namespace Pm
structure Cut (p : Int) (r xs rw t : List Int) : Prop where
  ex : ∃ n k, PySi42.shape p = some (n, k) ∧ xs.length = n ∧ ((k = 0 ∧ rw = [] ∧ r = xs ++ t) ∨ (k = 1 ∧ r = xs ++ (rw.length : Int) :: (rw ++ t)))
theorem shape_cases {p : Int} {n k : Nat} (h : PySi42.shape p = some (n, k)) :
    (p = 0 ∧ n = 0 ∧ k = 1) ∨ (p = 1 ∧ n = 1 ∧ k = 0) ∨ (p = 2 ∧ n = 3 ∧ k = 1) ∨ (p = 3 ∧ n = 3 ∧ k = 0) ∨ (p = 4 ∧ n = 4 ∧ k = 0) ∨ (p = 5 ∧ n = 1 ∧ k = 0) ∨ (p = 6 ∧ n = 0 ∧ k = 0) ∨ (p = 7 ∧ n = 0 ∧ k = 0) ∨ (p = 8 ∧ n = 0 ∧ k = 0) ∨
    (p = 9 ∧ n = 1 ∧ k = 0) ∨ (p = 10 ∧ n = 1 ∧ k = 0) ∨ (p = 11 ∧ n = 0 ∧ k = 0) ∨ (p = 12 ∧ n = 0 ∧ k = 1) := by
  unfold PySi42.shape at h
  by_cases h0 : p = 0
  · rw [if_pos h0] at h; obtain ⟨rfl, rfl⟩ := Prod.mk.inj (Option.some.inj h); exact .inl ⟨h0, rfl, rfl⟩
  rw [if_neg h0] at h
  by_cases h1 : p = 1
  · rw [if_pos h1] at h; obtain ⟨rfl, rfl⟩ := Prod.mk.inj (Option.some.inj h); exact .inr (.inl ⟨h1, rfl, rfl⟩)
  rw [if_neg h1] at h
  by_cases h2 : p = 2
  · rw [if_pos h2] at h; obtain ⟨rfl, rfl⟩ := Prod.mk.inj (Option.some.inj h); exact .inr (.inr (.inl ⟨h2, rfl, rfl⟩))
  rw [if_neg h2] at h
  by_cases h3 : p = 3
  · rw [if_pos h3] at h; obtain ⟨rfl, rfl⟩ := Prod.mk.inj (Option.some.inj h); exact .inr (.inr (.inr (.inl ⟨h3, rfl, rfl⟩)))
  rw [if_neg h3] at h
  by_cases h4 : p = 4
  · rw [if_pos h4] at h; obtain ⟨rfl, rfl⟩ := Prod.mk.inj (Option.some.inj h); exact .inr (.inr (.inr (.inr (.inl ⟨h4, rfl, rfl⟩))))
  rw [if_neg h4] at h
  by_cases h5 : p = 5
  · rw [if_pos h5] at h; obtain ⟨rfl, rfl⟩ := Prod.mk.inj (Option.some.inj h); exact .inr (.inr (.inr (.inr (.inr (.inl ⟨h5, rfl, rfl⟩)))))
  rw [if_neg h5] at h
  by_cases h6 : p = 6
  · rw [if_pos h6] at h; obtain ⟨rfl, rfl⟩ := Prod.mk.inj (Option.some.inj h); exact .inr (.inr (.inr (.inr (.inr (.inr (.inl ⟨h6, rfl, rfl⟩))))))
  rw [if_neg h6] at h
  by_cases h7 : p = 7
  · rw [if_pos h7] at h; obtain ⟨rfl, rfl⟩ := Prod.mk.inj (Option.some.inj h); exact .inr (.inr (.inr (.inr (.inr (.inr (.inr (.inl ⟨h7, rfl, rfl⟩)))))))
  rw [if_neg h7] at h
  by_cases h8 : p = 8
  · rw [if_pos h8] at h; obtain ⟨rfl, rfl⟩ := Prod.mk.inj (Option.some.inj h); exact .inr (.inr (.inr (.inr (.inr (.inr (.inr (.inr (.inl ⟨h8, rfl, rfl⟩))))))))
  rw [if_neg h8] at h
  by_cases h9 : p = 9
  · rw [if_pos h9] at h; obtain ⟨rfl, rfl⟩ := Prod.mk.inj (Option.some.inj h); exact .inr (.inr (.inr (.inr (.inr (.inr (.inr (.inr (.inr (.inl ⟨h9, rfl, rfl⟩)))))))))
  rw [if_neg h9] at h
  by_cases h10 : p = 10
  · rw [if_pos h10] at h; obtain ⟨rfl, rfl⟩ := Prod.mk.inj (Option.some.inj h); exact .inr (.inr (.inr (.inr (.inr (.inr (.inr (.inr (.inr (.inr (.inl ⟨h10, rfl, rfl⟩))))))))))
  rw [if_neg h10] at h
  by_cases h11 : p = 11
  · rw [if_pos h11] at h; obtain ⟨rfl, rfl⟩ := Prod.mk.inj (Option.some.inj h); exact .inr (.inr (.inr (.inr (.inr (.inr (.inr (.inr (.inr (.inr (.inr (.inl ⟨h11, rfl, rfl⟩)))))))))))
  rw [if_neg h11] at h
  by_cases h12 : p = 12
  · rw [if_pos h12] at h; obtain ⟨rfl, rfl⟩ := Prod.mk.inj (Option.some.inj h); exact .inr (.inr (.inr (.inr (.inr (.inr (.inr (.inr (.inr (.inr (.inr (.inr (⟨h12, rfl, rfl⟩))))))))))))
  rw [if_neg h12] at h
  cases h
theorem len1 {α : Type} {l : List α} (h : l.length = 1) : ∃ a, l = [a] := by
  match l, h with
  | [a], _ => exact ⟨a, rfl⟩
theorem len3 {α : Type} {l : List α} (h : l.length = 3) : ∃ a b c, l = [a, b, c] := by
  match l, h with
  | [a, b, c], _ => exact ⟨a, b, c, rfl⟩
theorem len4 {α : Type} {l : List α} (h : l.length = 4) : ∃ a b c d, l = [a, b, c, d] := by
  match l, h with
  | [a, b, c, d], _ => exact ⟨a, b, c, d, rfl⟩
theorem row_cut {r x s : List Int} (h : PyFlat.row r = some (x, s)) : r = (x.length : Int) :: (x ++ s) := by
  cases r with
  | nil => cases h
  | cons n r =>
    have h : (if 0 ≤ n ∧ n.toNat ≤ r.length then some (r.take n.toNat, r.drop n.toNat) else none) = some (x, s) := h
    by_cases hn : 0 ≤ n ∧ n.toNat ≤ r.length
    · rw [if_pos hn] at h
      simp only [Option.some.injEq, Prod.mk.injEq] at h
      obtain ⟨h1, h2⟩ := h
      have hl : x.length = n.toNat := by rw [← h1, List.length_take]; omega
      rw [hl, ← h1, ← h2, List.take_append_drop]
      congr 1
      omega
    · rw [if_neg hn] at h
      cases h
theorem call_cut {p : Int} {r t : List Int} {c : List (List Int)} (h : PyFlat.call PySi42.shape (p :: r) = some (c, t)) : ∃ xs rw, Cut p r xs rw t ∧ PySi42.whole c = [p :: (xs ++ rw)] := by
  have h : (match PySi42.shape p with
    | none => none
    | some (n, k) => if r.length < n then none else match PyFlat.rows k (r.drop n) with
      | none => none
      | some (xs, t) => some ((p :: r.take n) :: xs, t)) = some (c, t) := h
  cases hs : PySi42.shape p with
  | none => rw [hs] at h; cases h
  | some nk =>
    obtain ⟨n, k⟩ := nk
    rw [hs] at h
    dsimp only at h
    by_cases hn : r.length < n
    · rw [if_pos hn] at h
      cases h
    · rw [if_neg hn] at h
      have hr : r = r.take n ++ r.drop n := (List.take_append_drop n r).symm
      have hl : (r.take n).length = n := by rw [List.length_take]; omega
      have hk : k = 0 ∨ k = 1 := by rcases shape_cases hs with h | h | h | h | h | h | h | h | h | h | h | h | h <;> omega
      rcases hk with rfl | rfl
      · simp only [PyFlat.rows, Option.some.injEq, Prod.mk.injEq] at h
        obtain ⟨rfl, rfl⟩ := h
        refine ⟨r.take n, [], ⟨n, 0, hs, hl, .inl ⟨rfl, rfl, hr⟩⟩, ?_⟩
        rw [List.append_nil]
        rcases shape_cases hs with h | h | h | h | h | h | h | h | h | h | h | h | h <;> obtain ⟨rfl, rfl, hk⟩ := h <;> first | cases hk | skip
        · obtain ⟨a, e⟩ := len1 hl; rw [e]; rfl
        · obtain ⟨a, b, c, e⟩ := len3 hl; rw [e]; rfl
        · obtain ⟨a, b, c, d, e⟩ := len4 hl; rw [e]; rfl
        · obtain ⟨a, e⟩ := len1 hl; rw [e]; rfl
        · rfl
        · rfl
        · rfl
        · obtain ⟨a, e⟩ := len1 hl; rw [e]; rfl
        · obtain ⟨a, e⟩ := len1 hl; rw [e]; rfl
        · rfl
      · simp only [PyFlat.rows] at h
        cases hrow : PyFlat.row (r.drop n) with
        | none => rw [hrow] at h; cases h
        | some xs =>
          obtain ⟨x, s⟩ := xs
          rw [hrow] at h
          simp only [Option.some.injEq, Prod.mk.injEq] at h
          obtain ⟨rfl, rfl⟩ := h
          refine ⟨r.take n, x, ⟨n, 1, hs, hl, .inr ⟨rfl, ?_⟩⟩, ?_⟩
          · rw [← row_cut hrow]; exact hr
          · rcases shape_cases hs with h | h | h | h | h | h | h | h | h | h | h | h | h <;> obtain ⟨rfl, rfl, hk⟩ := h <;> first | cases hk | skip
            · rfl
            · obtain ⟨a, b, c, e⟩ := len3 hl; rw [e]; rfl
            · rfl
theorem calls_cut {f : Nat} {p : Int} {r : List Int} {cs : List (List (List Int))} (h : PyFlat.calls PySi42.shape f (p :: r) = some cs) :
    ∃ f' c t cs' xs rw, cs = c :: cs' ∧ Cut p r xs rw t ∧ PySi42.whole c = [p :: (xs ++ rw)] ∧ PyFlat.calls PySi42.shape f' t = some cs' := by
  cases f with
  | zero => cases h
  | succ f =>
    unfold PyFlat.calls at h
    cases hc : PyFlat.call PySi42.shape (p :: r) with
    | none => rw [hc] at h; cases h
    | some ct =>
      obtain ⟨c, t⟩ := ct
      rw [hc] at h
      dsimp only at h
      cases ht : PyFlat.calls PySi42.shape f t with
      | none => rw [ht] at h; cases h
      | some cs' =>
        rw [ht] at h
        simp only [Option.some.injEq] at h
        obtain ⟨xs, rw', hx, hw⟩ := call_cut hc
        exact ⟨f, c, t, cs', xs, rw', h.symm, hx, hw, ht⟩
theorem calls_nil {f : Nat} {cs : List (List (List Int))} (h : PyFlat.calls PySi42.shape f [] = some cs) : cs = [] := by
  cases f <;> (unfold PyFlat.calls at h; exact (Option.some.inj h).symm)
structure Rest (s : Si42.St) (l : List Int) (due : List Int) (left carries room : Nat) : Prop where
  ex : ∃ f cs, PyFlat.calls PySi42.shape f l = some cs ∧ (cs.map PySi42.whole).all Si42Neutral.asked1 = true ∧ cs.length ≤ left ∧ ((cs.map PySi42.whole).filter Si42Neutral.long).length ≤ carries ∧
    Si42Neutral.short s room (cs.map PySi42.whole) = true ∧ due = PyFlat.told (PyFlat.played Si42Neutral.step s (cs.map PySi42.whole))
theorem Rest.start {ns : List Int} (h : PySi42.answers_asked ns = true) : Rest Si42.init ns (PySi42.answers ns) 100 20 999999 := by
  unfold PySi42.answers_asked at h
  unfold PySi42.answers
  cases hc : PySi42.calls ns with
  | none => rw [hc] at h; cases h
  | some cs =>
    rw [hc] at h
    dsimp only at h
    unfold PySi42.calls at hc
    cases hp : PyFlat.calls PySi42.shape ns.length ns with
    | none => rw [hp] at hc; cases hc
    | some cs0 =>
      rw [hp] at hc
      have e : cs0.map PySi42.whole = cs := Option.some.inj hc
      subst e
      unfold Si42Neutral.asked PyFlat.atMost at h
      simp only [Bool.and_eq_true, decide_eq_true_eq, List.length_map] at h
      exact ⟨_, cs0, hp, h.2.1, h.1, h.2.2.2.2.1, h.2.2.2.2.2, rfl⟩
theorem Rest.done {s : Si42.St} {due : List Int} {a b c : Nat} (h : Rest s [] due a b c) : due = [] := by
  obtain ⟨f, cs, hp, _, _, _, _, rfl⟩ := h.ex
  rw [calls_nil hp]
  rfl
def ansOf (s : Si42.St) (q : Si42.Call) : List Int := (Si42.step s q).2.v :: (Si42.step s q).2.l
theorem Rest.next {s : Si42.St} {p : Int} {r due : List Int} {a b c : Nat} (h : Rest s (p :: r) due a b c) :
    ∃ xs rw t q due', Cut p r xs rw t ∧ Si42Neutral.callOf (p :: (xs ++ rw)) = some q ∧ (∀ z ∈ p :: (xs ++ rw), 0 ≤ z ∧ z < 4294967296) ∧ (ansOf s q).length ≤ c ∧ 1 ≤ a ∧ (p = 7 → 1 ≤ b) ∧
      due = ((ansOf s q).length : Int) :: (ansOf s q ++ due') ∧ Rest (Si42.step s q).1 t due' (a - 1) (if p = 7 then b - 1 else b) (c - (ansOf s q).length) := by
  obtain ⟨f, cs, hp, hall, hlen, hcar, hsh, rfl⟩ := h.ex
  obtain ⟨f', c0, t, cs', xs, rw', rfl, hx, hw, ht⟩ := calls_cut hp
  rw [List.map_cons, List.all_cons, Bool.and_eq_true, hw] at hall
  obtain ⟨h1, h2⟩ := hall
  unfold Si42Neutral.asked1 at h1
  simp only [List.headD_cons, Bool.and_eq_true] at h1
  obtain ⟨_, h3, h4⟩ := h1
  obtain ⟨q, hq⟩ := Option.isSome_iff_exists.mp h4
  have hst : Si42Neutral.step s [p :: (xs ++ rw')] = ((Si42.step s q).1, ansOf s q) := by
    unfold Si42Neutral.step ansOf
    rw [List.headD_cons, hq]
  rw [List.map_cons, hw] at hsh hcar
  unfold Si42Neutral.short at hsh
  simp only [hst, Bool.and_eq_true, decide_eq_true_eq] at hsh
  rw [List.length_cons] at hlen
  have hlong : Si42Neutral.long [p :: (xs ++ rw')] = decide (p = 7) := by
    unfold Si42Neutral.long
    rw [List.headD_cons, List.headD_cons]
    exact Bool.beq_eq_decide_eq p 7
  rw [List.filter_cons, hlong] at hcar
  refine ⟨xs, rw', t, q, PyFlat.told (PyFlat.played Si42Neutral.step (Si42.step s q).1 (cs'.map PySi42.whole)), hx, hq, ?_, hsh.1, by omega, ?_, ?_, ⟨f', cs', ht, h2, by omega, ?_, hsh.2, rfl⟩⟩
  · intro z hz
    have h5 := List.all_eq_true.mp h3 z hz
    unfold Si42Neutral.natural at h5
    simp only [Bool.and_eq_true, decide_eq_true_eq] at h5
    exact ⟨h5.1, h5.2⟩
  · intro e
    simp only [e, decide_true, if_true, List.length_cons] at hcar
    omega
  · rw [List.map_cons, hw]
    have e : PyFlat.played Si42Neutral.step s ([p :: (xs ++ rw')] :: cs'.map PySi42.whole) = ansOf s q :: PyFlat.played Si42Neutral.step (Si42.step s q).1 (cs'.map PySi42.whole) := by
      show (Si42Neutral.step s [p :: (xs ++ rw')]).2 :: PyFlat.played Si42Neutral.step (Si42Neutral.step s [p :: (xs ++ rw')]).1 (cs'.map PySi42.whole) = _
      rw [hst]
    rw [e]
    rfl
  · by_cases e : p = 7
    · simp only [e, decide_true, if_true, List.length_cons] at hcar ⊢
      omega
    · simp only [e, decide_false, Bool.false_eq_true, if_false] at hcar ⊢
      omega
end Pm
namespace Pm
open Si42
theorem newWords_length (m : Nat) : ∀ (n : Nat) (w : List Nat), (newWords m n w).length = w.length
  | _, [] => rfl
  | n, _ :: r => by
    show (newWords m (n + 1) r).length + 1 = r.length + 1
    rw [newWords_length m (n + 1) r]
theorem putText_length (t : Text) (n n' : Nat) (p : Option (Nat × Ask)) : (putText t n p).length = (putText t n' p).length := by
  match p with
  | none => rfl
  | some (m, .change _ _ w) => show (newWords m n w).length = (newWords m n' w).length; rw [newWords_length, newWords_length]
  | some (_, .keep _ _) => rfl
  | some (_, .move _ _ _) => rfl
def outTo (t : Text) (o : List (Nat × Ask)) (n : Nat) : Nat → Text × Nat
  | 0 => ([], n)
  | g + 1 => ((outTo t o n g).1 ++ (putText t (outTo t o n g).2 (putAt o g) ++ (if isTaken o g = true then [] else (t.drop g).take 1)), (outTo t o n g).2 + fresh (putAt o g))
theorem doneFrom_out (t : Text) (o : List (Nat × Ask)) (n : Nat) : ∀ (r : Text) (g : Nat), t.drop g = r → g ≤ t.length →
    (outTo t o n g).1 ++ doneFrom t o g (outTo t o n g).2 r = (outTo t o n t.length).1 ++ putText t (outTo t o n t.length).2 (putAt o t.length)
  | [], g, h, hg => by
    have e : g = t.length := by
      have := congrArg List.length h
      rw [List.length_drop] at this
      simp at this
      omega
    subst e
    rfl
  | x :: r, g, h, hg => by
    have hl : g < t.length := by
      have := congrArg List.length h
      rw [List.length_drop] at this
      simp at this
      omega
    have h2 : t.drop (g + 1) = r := by
      rw [← List.tail_drop, h]
      rfl
    have ih := doneFrom_out t o n r (g + 1) h2 hl
    rw [← ih]
    show (outTo t o n g).1 ++ (putText t (outTo t o n g).2 (putAt o g) ++ ((if isTaken o g = true then [] else [x]) ++ doneFrom t o (g + 1) ((outTo t o n g).2 + fresh (putAt o g)) r)) =
      ((outTo t o n g).1 ++ (putText t (outTo t o n g).2 (putAt o g) ++ (if isTaken o g = true then [] else (t.drop g).take 1))) ++ doneFrom t o (g + 1) ((outTo t o n g).2 + fresh (putAt o g)) r
    rw [h]
    simp only [List.take_succ_cons, List.take_zero, List.append_assoc]
theorem done_out (t : Text) (n : Nat) (l : List (Nat × Ask)) : done t n l = (outTo t (once l) n t.length).1 ++ putText t (outTo t (once l) n t.length).2 (putAt (once l) t.length) := by
  unfold done
  rw [← doneFrom_out t (once l) n t 0 rfl (Nat.zero_le _)]
  rfl
theorem sumR_app (a b : List Nat) : (a ++ b).foldr (fun x y => x + y) 0 = a.foldr (fun x y => x + y) 0 + b.foldr (fun x y => x + y) 0 := by
  induction a with
  | nil => simp
  | cons x a ih =>
    show x + (a ++ b).foldr (fun x y => x + y) 0 = x + a.foldr (fun x y => x + y) 0 + b.foldr (fun x y => x + y) 0
    rw [ih]
    omega
theorem range_map_succ {α : Type} (f : Nat → α) (g : Nat) : (List.range (g + 1)).map f = (List.range g).map f ++ [f g] := by
  rw [List.range_succ, List.map_append]
  rfl
theorem outTo_length (t : Text) (o : List (Nat × Ask)) (n : Nat) : ∀ (g : Nat), g ≤ t.length → (outTo t o n g).1.length =
    ((List.range g).map fun h => (putText t 0 (putAt o h)).length + (if isTaken o h = false then 1 else 0)).foldr (fun a b => a + b) 0
  | 0, _ => rfl
  | g + 1, hg => by
    have ih := outTo_length t o n g (by omega)
    rw [range_map_succ, sumR_app, ← ih]
    show ((outTo t o n g).1 ++ (putText t (outTo t o n g).2 (putAt o g) ++ (if isTaken o g = true then [] else (t.drop g).take 1))).length = _
    rw [List.length_append, List.length_append, putText_length t _ 0]
    have e : (if isTaken o g = true then ([] : Text) else (t.drop g).take 1).length = (if isTaken o g = false then 1 else 0) := by
      cases isTaken o g with
      | true => rfl
      | false =>
        rw [if_neg (by decide), if_pos rfl, List.length_take, List.length_drop]
        omega
    rw [e]
    simp
theorem gapThen_out (t : Text) (l : List (Nat × Ask)) (n g : Nat) (hg : g ≤ t.length) : gapThen t l g = (outTo t (once l) n g).1.length + (putText t (outTo t (once l) n g).2 (putAt (once l) g)).length := by
  unfold gapThen
  dsimp only
  rw [range_map_succ, sumR_app, outTo_length t (once l) n g hg, putText_length t _ 0]
  have e : ((List.range g).map fun h => (putText t 0 (putAt (once l) h)).length + (if h < g ∧ isTaken (once l) h = false then 1 else 0)) =
      ((List.range g).map fun h => (putText t 0 (putAt (once l) h)).length + (if isTaken (once l) h = false then 1 else 0)) := by
    apply List.map_congr_left
    intro h hh
    have := List.mem_range.mp hh
    simp [this]
  rw [e]
  simp
  exact putText_length t 0 _ _
theorem outTo_mono (t : Text) (o : List (Nat × Ask)) (n : Nat) {g h : Nat} (hgh : g ≤ h) : ∃ r, (outTo t o n h).1 = (outTo t o n g).1 ++ r := by
  induction h with
  | zero =>
    have : g = 0 := by omega
    subst this
    exact ⟨[], by simp⟩
  | succ h ih =>
    by_cases e : g = h + 1
    · subst e
      exact ⟨[], by simp⟩
    · obtain ⟨r, hr⟩ := ih (by omega)
      refine ⟨r ++ (putText t (outTo t o n h).2 (putAt o h) ++ (if isTaken o h = true then [] else (t.drop h).take 1)), ?_⟩
      show (outTo t o n h).1 ++ _ = _
      rw [hr, List.append_assoc]
theorem gapThen_le (t : Text) (l : List (Nat × Ask)) (n g : Nat) (hg : g ≤ t.length) : gapThen t l g ≤ (done t n l).length := by
  rw [gapThen_out t l n g hg, done_out]
  by_cases e : g = t.length
  · subst e
    rw [List.length_append]
    exact Nat.le_refl _
  · obtain ⟨r, hr⟩ := outTo_mono t (once l) n (g := g + 1) (h := t.length) (by omega)
    rw [hr]
    show _ ≤ (((outTo t (once l) n g).1 ++ (putText t (outTo t (once l) n g).2 (putAt (once l) g) ++ _)) ++ r ++ _).length
    simp only [List.length_append]
    omega
theorem rangeThen_le {t u : Text} {i j : Nat} {r : Nat × Nat} (hj : j ≤ t.length) (hij : i ≤ j) (h : rangeThen t u i j = some r) : r.2 = r.1 + (j - i) ∧ r.2 ≤ u.length := by
  unfold rangeThen at h
  dsimp only at h
  cases hf : (List.range (u.length + 1)).find? (fun p => ((u.drop p).take (j - i)).map (fun x => x.id) == ((t.drop i).take (j - i)).map (fun x => x.id)) with
  | none => rw [hf] at h; cases h
  | some p =>
    rw [hf] at h
    cases h
    refine ⟨rfl, ?_⟩
    have h1 := List.find?_some hf
    have h2 := congrArg List.length (eq_of_beq h1)
    simp only [List.length_map, List.length_take, List.length_drop] at h2
    have h3 := List.mem_range.mp (List.mem_of_find?_eq_some hf)
    show p + (j - i) ≤ u.length
    omega
def askIn (n : Nat) : Ask → Prop
  | .change i j w => i ≤ j ∧ j ≤ n ∧ w.length ≤ 20 ∧ (∀ x ∈ w, 1 ≤ x ∧ x ≤ 99999) ∧ (i = j → w ≠ [])
  | .keep i j => i < j ∧ j ≤ n
  | .move i j k => i < j ∧ j ≤ n ∧ k ≤ n
theorem askThen_in {t : Text} {l : List (Nat × Ask)} {n : Nat} {a b : Ask} (h : askIn t.length a) (e : askThen t (done t n l) l a = some b) : askIn (done t n l).length b := by
  cases a with
  | change i j w =>
    obtain ⟨h1, h2, h3, h4, h5⟩ := h
    unfold askThen at e
    dsimp only at e
    by_cases hij : i = j
    · rw [if_pos hij] at e
      cases e
      exact ⟨Nat.le_refl _, gapThen_le t l n i (by omega), h3, h4, fun _ => h5 hij⟩
    · rw [if_neg hij] at e
      cases hr : rangeThen t (done t n l) i j with
      | none => rw [hr] at e; cases e
      | some r =>
        rw [hr] at e
        cases e
        obtain ⟨e1, e2⟩ := rangeThen_le h2 h1 hr
        exact ⟨by omega, e2, h3, h4, fun z => absurd z (by omega)⟩
  | keep i j =>
    obtain ⟨h1, h2⟩ := h
    unfold askThen at e
    dsimp only at e
    cases hr : rangeThen t (done t n l) i j with
    | none => rw [hr] at e; cases e
    | some r =>
      rw [hr] at e
      cases e
      obtain ⟨e1, e2⟩ := rangeThen_le h2 (by omega) hr
      exact ⟨by omega, e2⟩
  | move i j k =>
    obtain ⟨h1, h2, h3⟩ := h
    unfold askThen at e
    dsimp only at e
    cases hr : rangeThen t (done t n l) i j with
    | none => rw [hr] at e; cases e
    | some r =>
      rw [hr] at e
      cases e
      obtain ⟨e1, e2⟩ := rangeThen_le h2 (by omega) hr
      exact ⟨by omega, e2, gapThen_le t l n k h3⟩
end Pm
namespace Pm
open Si42
abbrev Src := Nat ⊕ Nat
def srcPut (n : Nat) : Option (Nat × Ask) → List Src
  | some (_, .change _ _ w) => (List.range' n w.length).map Sum.inr
  | some (_, .move i j _) => (List.range' i (j - i)).map Sum.inl
  | _ => []
def nxTo (o : List (Nat × Ask)) (n : Nat) : Nat → Nat
  | 0 => n
  | g + 1 => nxTo o n g + fresh (putAt o g)
def srcTo (o : List (Nat × Ask)) (n : Nat) : Nat → List Src
  | 0 => []
  | g + 1 => srcTo o n g ++ (srcPut (nxTo o n g) (putAt o g) ++ (if isTaken o g = true then [] else [Sum.inl g]))
def srcAll (o : List (Nat × Ask)) (n len : Nat) : List Src := srcTo o n len ++ srcPut (nxTo o n len) (putAt o len)
theorem outTo_nx (t : Text) (o : List (Nat × Ask)) (n : Nat) : ∀ g, (outTo t o n g).2 = nxTo o n g
  | 0 => rfl
  | g + 1 => by
    show (outTo t o n g).2 + fresh (putAt o g) = nxTo o n g + fresh (putAt o g)
    rw [outTo_nx t o n g]
theorem nxTo_mono (o : List (Nat × Ask)) (n : Nat) {g h : Nat} (hgh : g ≤ h) : nxTo o n g ≤ nxTo o n h := by
  induction h with
  | zero =>
    have : g = 0 := by omega
    subst this
    exact Nat.le_refl _
  | succ h ih =>
    by_cases e : g = h + 1
    · subst e
      exact Nat.le_refl _
    · have := ih (by omega)
      show nxTo o n g ≤ nxTo o n h + fresh (putAt o h)
      omega
def Free (o : List (Nat × Ask)) : Prop := ∀ x ∈ o, ∀ y ∈ o, clash x.2 y.2 = false
theorem put_mem {o : List (Nat × Ask)} {g : Nat} {x : Nat × Ask} (h : putAt o g = some x) : x ∈ o ∧ puts x.2 = some g := by
  unfold putAt at h
  have h1 := List.find?_some h
  exact ⟨List.mem_of_find?_eq_some h, eq_of_beq h1⟩
theorem taken_of {o : List (Nat × Ask)} {x : Nat × Ask} {p : Nat} (h : x ∈ o) (h1 : (taken x.2).1 ≤ p) (h2 : p < (taken x.2).2) : isTaken o p = true := by
  unfold isTaken
  exact List.any_eq_true.mpr ⟨x, h, by simp [h1, h2]⟩
theorem meet_clash {a b : Ask} {p : Nat} (ne : a ≠ b) (ka : ∀ i j, a ≠ .keep i j) (kb : ∀ i j, b ≠ .keep i j) (h1 : (taken a).1 ≤ p) (h2 : p < (taken a).2) (h3 : (taken b).1 ≤ p) (h4 : p < (taken b).2) : clash a b = true := by
  unfold clash
  rw [if_neg ne]
  have hm : meets (taken a).1 (taken a).2 (taken b).1 (taken b).2 = true := by
    unfold meets
    simp
    omega
  cases a with
  | keep i j => exact absurd rfl (ka i j)
  | change i j w =>
    cases b with
    | keep i j => exact absurd rfl (kb i j)
    | change i' j' w' => show (breaks _ _ _ || _) = true; unfold breaks; rw [hm]; rfl
    | move i' j' k' => show (breaks _ _ _ || _) = true; unfold breaks; rw [hm]; rfl
  | move i j k =>
    cases b with
    | keep i j => exact absurd rfl (kb i j)
    | change i' j' w' => show (breaks _ _ _ || _) = true; unfold breaks; rw [hm]; rfl
    | move i' j' k' => show (breaks _ _ _ || _) = true; unfold breaks; rw [hm]; rfl
theorem mem_srcPut {n : Nat} {p : Option (Nat × Ask)} {s : Src} (h : s ∈ srcPut n p) : (∃ m i j k q, p = some (m, .move i j k) ∧ s = .inl q ∧ i ≤ q ∧ q < j) ∨ (∃ c, s = .inr c ∧ n ≤ c ∧ c < n + fresh p) := by
  match p, h with
  | some (m, .change i j w), h =>
    obtain ⟨c, hc, rfl⟩ := List.mem_map.mp h
    rw [List.mem_range'_1] at hc
    exact .inr ⟨c, rfl, hc.1, hc.2⟩
  | some (m, .move i j k), h =>
    obtain ⟨c, hc, rfl⟩ := List.mem_map.mp h
    rw [List.mem_range'_1] at hc
    exact .inl ⟨m, i, j, k, c, rfl, rfl, hc.1, by omega⟩
  | some (_, .keep _ _), h => cases h
  | none, h => cases h
theorem nd_srcPut (n : Nat) (p : Option (Nat × Ask)) : (srcPut n p).Nodup := by
  match p with
  | some (m, .change i j w) => exact List.Pairwise.map _ (fun a b (h : a ≠ b) e => h (Sum.inr.inj e)) List.nodup_range'
  | some (m, .move i j k) => exact List.Pairwise.map _ (fun a b (h : a ≠ b) e => h (Sum.inl.inj e)) List.nodup_range'
  | some (_, .keep _ _) => exact List.nodup_nil
  | none => exact List.nodup_nil
theorem mem_srcTo {o : List (Nat × Ask)} {n : Nat} {s : Src} : ∀ {g : Nat}, s ∈ srcTo o n g →
    (∃ p, s = .inl p ∧ p < g ∧ isTaken o p = false) ∨ (∃ h m i j k p, h < g ∧ putAt o h = some (m, .move i j k) ∧ s = .inl p ∧ i ≤ p ∧ p < j) ∨ (∃ c, s = .inr c ∧ n ≤ c ∧ c < nxTo o n g)
  | 0, h => by cases h
  | g + 1, h => by
    have hm := nxTo_mono o n (show g ≤ g + 1 by omega)
    have h0 := nxTo_mono o n (show 0 ≤ g by omega)
    have h0' : n ≤ nxTo o n g := h0
    rcases List.mem_append.mp h with h | h
    · rcases mem_srcTo h with ⟨p, e, h1, h2⟩ | ⟨h', m, i, j, k, p, h1, h2, e, h3, h4⟩ | ⟨c, e, h1, h2⟩
      · exact .inl ⟨p, e, by omega, h2⟩
      · exact .inr (.inl ⟨h', m, i, j, k, p, by omega, h2, e, h3, h4⟩)
      · exact .inr (.inr ⟨c, e, h1, by omega⟩)
    · rcases List.mem_append.mp h with h | h
      · rcases mem_srcPut h with ⟨m, i, j, k, q, e1, e2, h1, h2⟩ | ⟨c, e, h1, h2⟩
        · exact .inr (.inl ⟨g, m, i, j, k, q, by omega, e1, e2, h1, h2⟩)
        · exact .inr (.inr ⟨c, e, by omega, h2⟩)
      · cases ht : isTaken o g with
        | true => rw [ht, if_pos rfl] at h; cases h
        | false =>
          rw [ht, if_neg (by decide)] at h
          exact .inl ⟨g, List.mem_singleton.mp h, by omega, ht⟩
theorem free_move {o : List (Nat × Ask)} (F : Free o) {g h m i j k m' i' j' k' p : Nat} (h1 : putAt o g = some (m, .move i j k)) (h2 : putAt o h = some (m', .move i' j' k')) (ne : g ≠ h) (a : i ≤ p) (b : p < j) (c : i' ≤ p) (d : p < j') : False := by
  obtain ⟨m1, p1⟩ := put_mem h1
  obtain ⟨m2, p2⟩ := put_mem h2
  have e1 : k = g := Option.some.inj p1
  have e2 : k' = h := Option.some.inj p2
  have := F _ m1 _ m2
  rw [meet_clash (a := .move i j k) (b := .move i' j' k') (p := p) (by intro e; cases e; omega) (by intro _ _ e; cases e) (by intro _ _ e; cases e) a b c d] at this
  cases this
theorem nd_srcTo {o : List (Nat × Ask)} (F : Free o) (n : Nat) : ∀ g, (srcTo o n g).Nodup ∧ ∀ s ∈ srcPut (nxTo o n g) (putAt o g), s ∉ srcTo o n g
  | 0 => ⟨List.nodup_nil, fun _ _ => by simp [srcTo]⟩
  | g + 1 => by
    obtain ⟨ih1, ih2⟩ := nd_srcTo F n g
    constructor
    · refine List.nodup_append.mpr ⟨ih1, List.nodup_append.mpr ⟨nd_srcPut _ _, ?_, ?_⟩, ?_⟩
      · split
        · exact List.nodup_nil
        · simp
      · intro s hs s' hs' e
        subst e
        cases ht : isTaken o g with
        | true => rw [ht, if_pos rfl] at hs'; cases hs'
        | false =>
          rw [ht, if_neg (by decide)] at hs'
          have es := List.mem_singleton.mp hs'
          subst es
          rcases mem_srcPut hs with ⟨m, i, j, k, q, e1, e2, h1, h2⟩ | ⟨c, e, _⟩
          · cases e2
            rw [taken_of (put_mem e1).1 h1 h2] at ht
            cases ht
          · cases e
      · intro s hs s' hs' e
        subst e
        rcases List.mem_append.mp hs' with h | h
        · exact ih2 s h hs
        · cases ht : isTaken o g with
          | true => rw [ht, if_pos rfl] at h; cases h
          | false =>
            rw [ht, if_neg (by decide)] at h
            have es := List.mem_singleton.mp h
            subst es
            rcases mem_srcTo hs with ⟨p, e, h1, _⟩ | ⟨h', m, i, j, k, p, h1, h2, e, h3, h4⟩ | ⟨c, e, _⟩
            · cases e
              omega
            · cases e
              rw [taken_of (put_mem h2).1 h3 h4] at ht
              cases ht
            · cases e
    · intro s hs hs'
      rcases mem_srcPut hs with ⟨m, i, j, k, q, e1, e2, h1, h2⟩ | ⟨c, e, h1, h2⟩
      · subst e2
        rcases mem_srcTo hs' with ⟨p, e, h3, h4⟩ | ⟨h', m', i', j', k', p, h3, h4, e, h5, h6⟩ | ⟨c, e, _⟩
        · cases e
          rw [taken_of (put_mem e1).1 h1 h2] at h4
          cases h4
        · cases e
          exact free_move F e1 h4 (by omega) h1 h2 h5 h6
        · cases e
      · subst e
        rcases mem_srcTo hs' with ⟨p, e, _⟩ | ⟨h', m', i', j', k', p, h3, h4, e, _⟩ | ⟨c', e, _, h3⟩
        · cases e
        · cases e
        · cases e
          omega
theorem nd_srcAll {o : List (Nat × Ask)} (F : Free o) (n len : Nat) : (srcAll o n len).Nodup := by
  obtain ⟨h1, h2⟩ := nd_srcTo F n len
  exact List.nodup_append.mpr ⟨h1, nd_srcPut _ _, fun s hs s' hs' e => h2 s' hs' (e ▸ hs)⟩
def idOf (t : Text) : Src → Nat
  | .inl p => ((t[p]?).map fun x => x.id).getD 0
  | .inr c => c
theorem newWords_ids (m : Nat) : ∀ (n : Nat) (w : List Nat), (newWords m n w).map (fun x => x.id) = List.range' n w.length
  | _, [] => rfl
  | n, x :: r => by
    show n :: (newWords m (n + 1) r).map (fun x => x.id) = List.range' n (r.length + 1)
    rw [newWords_ids m (n + 1) r, List.range'_succ]
theorem cut_ids (t : Text) : ∀ (d i : Nat), i + d ≤ t.length → ((t.drop i).take d).map (fun x => x.id) = (List.range' i d).map fun p => idOf t (.inl p)
  | 0, i, _ => by simp
  | d + 1, i, h => by
    have hi : i < t.length := by omega
    rw [List.drop_eq_getElem_cons hi, List.take_succ_cons, List.map_cons, List.range'_succ, List.map_cons, cut_ids t d (i + 1) (by omega)]
    congr 1
    show t[i].id = ((t[i]?).map fun x => x.id).getD 0
    rw [List.getElem?_eq_getElem hi]
    rfl
def Inside (len : Nat) (o : List (Nat × Ask)) : Prop := ∀ x ∈ o, (taken x.2).1 ≤ (taken x.2).2 ∧ (taken x.2).2 ≤ len
theorem putText_ids {t : Text} {o : List (Nat × Ask)} (I : Inside t.length o) (n g : Nat) : (putText t n (putAt o g)).map (fun x => x.id) = (srcPut n (putAt o g)).map (idOf t) := by
  cases hp : putAt o g with
  | none => rfl
  | some x =>
    obtain ⟨m, a⟩ := x
    cases a with
    | change i j w =>
      show (newWords m n w).map (fun x => x.id) = ((List.range' n w.length).map Sum.inr).map (idOf t)
      rw [newWords_ids, List.map_map]
      exact (List.map_id _).symm
    | keep i j => rfl
    | move i j k =>
      obtain ⟨h1, h2⟩ := I _ (put_mem hp).1
      have h1 : i ≤ j := h1
      have h2 : j ≤ t.length := h2
      show ((t.drop i).take (j - i)).map (fun x => x.id) = ((List.range' i (j - i)).map Sum.inl).map (idOf t)
      rw [cut_ids t (j - i) i (by omega), List.map_map]
      rfl
theorem outTo_ids {t : Text} {o : List (Nat × Ask)} (I : Inside t.length o) (n : Nat) : ∀ g, g ≤ t.length → (outTo t o n g).1.map (fun x => x.id) = (srcTo o n g).map (idOf t)
  | 0, _ => rfl
  | g + 1, hg => by
    show ((outTo t o n g).1 ++ (putText t (outTo t o n g).2 (putAt o g) ++ (if isTaken o g = true then [] else (t.drop g).take 1))).map (fun x => x.id) = (srcTo o n g ++ (srcPut (nxTo o n g) (putAt o g) ++ (if isTaken o g = true then [] else [Sum.inl g]))).map (idOf t)
    rw [List.map_append, List.map_append, List.map_append, List.map_append, outTo_ids I n g (by omega), outTo_nx, putText_ids I]
    congr 2
    split
    · rfl
    · rw [cut_ids t 1 g hg]
      rfl
theorem done_ids {t : Text} {l : List (Nat × Ask)} (I : Inside t.length (once l)) (n : Nat) : (done t n l).map (fun x => x.id) = (srcAll (once l) n t.length).map (idOf t) := by
  rw [done_out, List.map_append, outTo_ids I n t.length (Nat.le_refl _), outTo_nx, putText_ids I]
  unfold srcAll
  rw [List.map_append]
theorem src_in {o : List (Nat × Ask)} {n len : Nat} (I : Inside len o) {s : Src} (h : s ∈ srcAll o n len) : (∃ p, s = .inl p ∧ p < len) ∨ (∃ c, s = .inr c ∧ n ≤ c) := by
  have h0 : n ≤ nxTo o n len := nxTo_mono o n (Nat.zero_le len)
  rcases List.mem_append.mp h with h | h
  · rcases mem_srcTo h with ⟨p, e, h1, _⟩ | ⟨h', m, i, j, k, p, h1, h2, e, h3, h4⟩ | ⟨c, e, h1, _⟩
    · exact .inl ⟨p, e, h1⟩
    · have h5 : j ≤ len := (I _ (put_mem h2).1).2
      exact .inl ⟨p, e, by omega⟩
    · exact .inr ⟨c, e, h1⟩
  · rcases mem_srcPut h with ⟨m, i, j, k, p, h2, e, h3, h4⟩ | ⟨c, e, h1, _⟩
    · have h5 : j ≤ len := (I _ (put_mem h2).1).2
      exact .inl ⟨p, e, by omega⟩
    · exact .inr ⟨c, e, by omega⟩
theorem nodup_map_on {α β : Type} {f : α → β} : ∀ {l : List α}, l.Nodup → (∀ x ∈ l, ∀ y ∈ l, f x = f y → x = y) → (l.map f).Nodup
  | [], _, _ => List.nodup_nil
  | a :: l, h, inj => by
    obtain ⟨h1, h2⟩ := List.nodup_cons.mp h
    refine List.nodup_cons.mpr ⟨fun m => ?_, nodup_map_on h2 fun x hx y hy => inj x (List.mem_cons_of_mem _ hx) y (List.mem_cons_of_mem _ hy)⟩
    obtain ⟨b, hb, e⟩ := List.mem_map.mp m
    have := inj b (List.mem_cons_of_mem _ hb) a List.mem_cons_self e
    subst this
    exact h1 hb
theorem idOf_inj {t : Text} {n : Nat} (hn : (t.map fun x => x.id).Nodup) (hlt : ∀ x ∈ t, x.id < n) {s s' : Src} (h : (∃ p, s = .inl p ∧ p < t.length) ∨ (∃ c, s = .inr c ∧ n ≤ c)) (h' : (∃ p, s' = .inl p ∧ p < t.length) ∨ (∃ c, s' = .inr c ∧ n ≤ c))
    (e : idOf t s = idOf t s') : s = s' := by
  have val : ∀ p (hp : p < t.length), idOf t (.inl p) = t[p].id := fun p hp => by
    show ((t[p]?).map fun x => x.id).getD 0 = _
    rw [List.getElem?_eq_getElem hp]
    rfl
  rcases h with ⟨p, rfl, hp⟩ | ⟨c, rfl, hc⟩ <;> rcases h' with ⟨p', rfl, hp'⟩ | ⟨c', rfl, hc'⟩
  · rw [val p hp, val p' hp'] at e
    have h1 : (t.map fun x => x.id)[p]'(by rw [List.length_map]; exact hp) = (t.map fun x => x.id)[p']'(by rw [List.length_map]; exact hp') := by
      rw [List.getElem_map, List.getElem_map]
      exact e
    rw [(List.getElem_inj hn).mp h1]
  · rw [val p hp] at e
    have := hlt _ (List.getElem_mem hp)
    have e : t[p].id = c' := e
    omega
  · rw [val p' hp'] at e
    have := hlt _ (List.getElem_mem hp')
    have e : c = t[p'].id := e
    omega
  · have e : c = c' := e
    rw [e]
theorem done_nodup {t : Text} {n : Nat} {l : List (Nat × Ask)} (hn : (t.map fun x => x.id).Nodup) (hlt : ∀ x ∈ t, x.id < n) (F : Free (once l)) (I : Inside t.length (once l)) : ((done t n l).map fun x => x.id).Nodup := by
  rw [done_ids I]
  exact nodup_map_on (nd_srcAll F n t.length) fun x hx y hy => idOf_inj hn hlt (src_in I hx) (src_in I hy)
end Pm
namespace Pm
open Si42
theorem clash_self (a : Ask) : clash a a = false := by
  unfold clash
  rw [if_pos rfl]
theorem clash_symm (a b : Ask) : clash a b = clash b a := by
  unfold clash
  by_cases e : a = b
  · subst e
    rfl
  · rw [if_neg e, if_neg (fun z => e z.symm)]
    cases a <;> cases b <;> dsimp only [puts] <;> first
      | rfl
      | (rw [Bool.eq_iff_iff]; simp only [Bool.or_eq_true, beq_iff_eq]; constructor <;> (rintro (h | h | h) <;> first | exact .inr (.inl h) | exact .inl h | exact .inr (.inr h.symm)))
theorem once_sub : ∀ {l : List (Nat × Ask)} {x : Nat × Ask}, x ∈ once l → x ∈ l
  | y :: l, x, h => by
    rcases List.mem_cons.mp (show x ∈ y :: (once l).filter _ from h) with h | h
    · exact h ▸ List.mem_cons_self
    · exact List.mem_cons_of_mem _ (once_sub (List.mem_filter.mp h).1)
theorem sets_sub : ∀ {l s : List (Nat × Ask)}, s ∈ sets l → s.Sublist l
  | [], s, h => by
    have : s = [] := List.mem_singleton.mp h
    subst this
    exact List.Sublist.refl _
  | x :: l, s, h => by
    rcases List.mem_append.mp (show s ∈ ((sets l).filter fun s => apart x.2 s).map (fun s => x :: s) ++ sets l from h) with h | h
    · obtain ⟨r, hr, rfl⟩ := List.mem_map.mp h
      exact (sets_sub (List.mem_filter.mp hr).1).cons₂ x
    · exact (sets_sub h).cons x
theorem sets_free : ∀ {l s : List (Nat × Ask)}, s ∈ sets l → Free s
  | [], s, h => by
    have : s = [] := List.mem_singleton.mp h
    subst this
    intro x hx
    cases hx
  | x :: l, s, h => by
    rcases List.mem_append.mp (show s ∈ ((sets l).filter fun s => apart x.2 s).map (fun s => x :: s) ++ sets l from h) with h | h
    · obtain ⟨r, hr, rfl⟩ := List.mem_map.mp h
      obtain ⟨h1, h2⟩ := List.mem_filter.mp hr
      have ih := sets_free h1
      have ha : ∀ y ∈ r, clash x.2 y.2 = false := fun y hy => by
        have := List.all_eq_true.mp h2 y hy
        simpa using this
      intro y hy z hz
      rcases List.mem_cons.mp hy with e1 | h3 <;> rcases List.mem_cons.mp hz with e2 | h4
      · rw [e1, e2]
        exact clash_self _
      · rw [e1]
        exact ha z h4
      · rw [e2, clash_symm]
        exact ha y h3
      · exact ih y h3 z h4
    · exact sets_free h
theorem sets_ne (l : List (Nat × Ask)) : sets l ≠ [] := by
  cases l with
  | nil => simp [sets]
  | cons x l =>
    have := sets_ne l
    intro h
    have h : ((sets l).filter fun s => apart x.2 s).map (fun s => x :: s) ++ sets l = [] := h
    exact this (List.append_eq_nil_iff.mp h).2
def best (w : List (Nat × Ask) → Nat) (L : List (List (Nat × Ask))) (b : Option (Nat × List (Nat × Ask))) : Option (Nat × List (Nat × Ask)) :=
  L.foldl (fun (b : Option (Nat × List (Nat × Ask))) s => match b with
    | none => some (w s, s)
    | some x => if x.1 < w s then some (w s, s) else some x) b
theorem best_some (w : List (Nat × Ask) → Nat) : ∀ (L : List (List (Nat × Ask))) (x : Nat × List (Nat × Ask)), ∃ y, best w L (some x) = some y ∧ (y = x ∨ (y.2 ∈ L ∧ y.1 = w y.2))
  | [], x => ⟨x, rfl, .inl rfl⟩
  | s :: L, x => by
    show ∃ y, best w L (if x.1 < w s then some (w s, s) else some x) = some y ∧ _
    split
    · obtain ⟨y, h1, h2⟩ := best_some w L (w s, s)
      refine ⟨y, h1, .inr ?_⟩
      rcases h2 with rfl | ⟨h2, h3⟩
      · exact ⟨List.mem_cons_self, rfl⟩
      · exact ⟨List.mem_cons_of_mem _ h2, h3⟩
    · obtain ⟨y, h1, h2⟩ := best_some w L x
      refine ⟨y, h1, ?_⟩
      rcases h2 with rfl | ⟨h2, h3⟩
      · exact .inl rfl
      · exact .inr ⟨List.mem_cons_of_mem _ h2, h3⟩
theorem chosen_mem (w : List Nat) (marks : List Mark) : chosen w marks ∈ sets (opens marks) := by
  have e : chosen w marks = ((best (weightOf w marks) (sets (opens marks)) none).map fun x => x.2).getD [] := rfl
  rw [e]
  cases h : sets (opens marks) with
  | nil => exact absurd h (sets_ne _)
  | cons s L =>
    obtain ⟨y, h1, h2⟩ := best_some (weightOf w marks) L (weightOf w marks s, s)
    have e2 : best (weightOf w marks) (s :: L) none = some y := h1
    rw [e2]
    show y.2 ∈ s :: L
    rcases h2 with rfl | ⟨h2, _⟩
    · exact List.mem_cons_self
    · exact List.mem_cons_of_mem _ h2
theorem mem_opens {marks : List Mark} {i : Nat} {a : Ask} : (i, a) ∈ opens marks ↔ ∃ m, marks[i]? = some m ∧ m.stand = .open_ a := by
  unfold opens
  rw [List.mem_filterMap]
  constructor
  · rintro ⟨⟨m, k⟩, h1, h2⟩
    have h3 := List.mem_zipIdx_iff_getElem?.mp h1
    dsimp only at h2 h3
    cases hs : m.stand with
    | open_ b =>
      rw [hs] at h2
      cases h2
      exact ⟨m, h3, hs⟩
    | done p => rw [hs] at h2; cases h2
    | lost p => rw [hs] at h2; cases h2
    | withdrawn => rw [hs] at h2; cases h2
  · rintro ⟨m, h1, h2⟩
    refine ⟨(m, i), List.mem_zipIdx_iff_getElem?.mpr h1, ?_⟩
    dsimp only
    rw [h2]
def isOpen (m : Mark) : Bool := match m.stand with
  | .open_ _ => true
  | _ => false
theorem opens_count : ∀ (l : List Mark) (k : Nat), (List.filterMap (fun x : Mark × Nat => match x.1.stand with
    | .open_ a => some (x.2, a)
    | _ => none) (l.zipIdx k)).length = (l.filter isOpen).length
  | [], _ => rfl
  | m :: l, k => by
    rw [List.zipIdx_cons, List.filterMap_cons, List.filter_cons]
    have ih := opens_count l (k + 1)
    cases hs : m.stand with
    | open_ a => simp only [hs, isOpen, if_true, List.length_cons]; rw [← ih]
    | done p => simp only [hs, isOpen]; simpa using ih
    | lost p => simp only [hs, isOpen]; simpa using ih
    | withdrawn => simp only [hs, isOpen]; simpa using ih
theorem opens_length (l : List Mark) : (opens l).length = (l.filter isOpen).length := opens_count l 0
theorem opens_app (l : List Mark) (m : Mark) : (opens (l ++ [m])).length ≤ (opens l).length + 1 := by
  rw [opens_length, opens_length, List.filter_append, List.length_append]
  have : ([m].filter isOpen).length ≤ 1 := List.length_filter_le _ _
  omega
structure SInv (left : Nat) (s : St) : Prop where
  rl : s.readers.length ≤ 8
  rw : ∀ w ∈ s.readers, 1 ≤ w ∧ w ≤ 1000
  tl : s.text.length ≤ 100
  nd : (s.text.map fun x => x.id).Nodup
  il : ∀ x ∈ s.text, x.id < s.next
  fl : s.first.length ≤ s.next
  f100 : s.first.length ≤ 100
  bn : ∀ x ∈ s.text, (x.by_ = none ↔ x.id < s.first.length)
  bm : ∀ x ∈ s.text, ∀ m, x.by_ = some m → m < s.marks.length
  wd : ∀ x ∈ s.text, 1 ≤ x.word ∧ x.word ≤ 99999
  ml : s.marks.length ≤ 60
  ol : (opens s.marks).length ≤ 10
  mr : ∀ m ∈ s.marks, m.reader < s.readers.length
  ma : ∀ m ∈ s.marks, ∀ a, m.stand = .open_ a → askIn s.text.length a
  gl : s.gone.length + 100 * left ≤ 10000
  gm : ∀ x ∈ s.gone, x.2 < s.marks.length
  ge : ∀ x ∈ s.text, ∀ m mk, x.by_ = some m → s.marks[m]? = some mk → isOpen mk = false
theorem SInv.init : SInv 100 Si42.init := by
  refine ⟨?_, ?_, ?_, ?_, ?_, ?_, ?_, ?_, ?_, ?_, ?_, ?_, ?_, ?_, ?_, ?_, ?_⟩ <;> simp [Si42.init, opens]
theorem SInv.less {left left' : Nat} {s : St} (h : SInv left s) (hl : left' ≤ left) : SInv left' s :=
  ⟨h.rl, h.rw, h.tl, h.nd, h.il, h.fl, h.f100, h.bn, h.bm, h.wd, h.ml, h.ol, h.mr, h.ma, by have := h.gl; omega, h.gm, h.ge⟩
theorem mem_newWords {m : Nat} {x : Token} : ∀ {n : Nat} {w : List Nat}, x ∈ newWords m n w → x.by_ = some m ∧ x.word ∈ w ∧ n ≤ x.id ∧ x.id < n + w.length
  | n, y :: r, h => by
    rcases List.mem_cons.mp (show x ∈ ⟨n, y, some m⟩ :: newWords m (n + 1) r from h) with rfl | h
    · exact ⟨rfl, List.mem_cons_self, Nat.le_refl _, by simp⟩
    · obtain ⟨h1, h2, h3, h4⟩ := mem_newWords h
      exact ⟨h1, List.mem_cons_of_mem _ h2, by omega, by rw [List.length_cons]; omega⟩
theorem mem_putText {t : Text} {o : List (Nat × Ask)} {n g : Nat} {x : Token} (h : x ∈ putText t n (putAt o g)) :
    x ∈ t ∨ ∃ m i j w, putAt o g = some (m, .change i j w) ∧ x.by_ = some m ∧ x.word ∈ w ∧ n ≤ x.id ∧ x.id < n + fresh (putAt o g) := by
  cases hp : putAt o g with
  | none => rw [hp] at h; cases h
  | some y =>
    obtain ⟨m, a⟩ := y
    rw [hp] at h
    cases a with
    | change i j w =>
      obtain ⟨h1, h2, h3, h4⟩ := mem_newWords (show x ∈ newWords m n w from h)
      exact .inr ⟨m, i, j, w, rfl, h1, h2, h3, h4⟩
    | keep i j => cases h
    | move i j k => exact .inl (List.mem_of_mem_drop (List.mem_of_mem_take (show x ∈ (t.drop i).take (j - i) from h)))
theorem mem_outTo {t : Text} {o : List (Nat × Ask)} {n : Nat} {x : Token} : ∀ {g : Nat}, x ∈ (outTo t o n g).1 →
    x ∈ t ∨ ∃ h m i j w, h < g ∧ putAt o h = some (m, .change i j w) ∧ x.by_ = some m ∧ x.word ∈ w ∧ n ≤ x.id ∧ x.id < nxTo o n g
  | 0, h => by cases h
  | g + 1, h => by
    have hm := nxTo_mono o n (show g ≤ g + 1 by omega)
    have h0' : n ≤ nxTo o n g := nxTo_mono o n (show 0 ≤ g by omega)
    rcases List.mem_append.mp (show x ∈ (outTo t o n g).1 ++ (putText t (outTo t o n g).2 (putAt o g) ++ (if isTaken o g = true then [] else (t.drop g).take 1)) from h) with h | h
    · rcases mem_outTo h with h | ⟨h', m, i, j, w, h1, h2, h3, h4, h5, h6⟩
      · exact .inl h
      · exact .inr ⟨h', m, i, j, w, by omega, h2, h3, h4, h5, by omega⟩
    · rcases List.mem_append.mp h with h | h
      · rw [outTo_nx] at h
        rcases mem_putText h with h | ⟨m, i, j, w, h1, h2, h3, h4, h5⟩
        · exact .inl h
        · exact .inr ⟨g, m, i, j, w, by omega, h1, h2, h3, by omega, h5⟩
      · split at h
        · cases h
        · exact .inl (List.mem_of_mem_drop (List.mem_of_mem_take h))
theorem mem_done {t : Text} {n : Nat} {l : List (Nat × Ask)} {x : Token} (h : x ∈ done t n l) :
    x ∈ t ∨ ∃ m i j w, (m, Ask.change i j w) ∈ l ∧ x.by_ = some m ∧ x.word ∈ w ∧ n ≤ x.id ∧ x.id < nxTo (once l) n (t.length + 1) := by
  have hm := nxTo_mono (once l) n (show t.length ≤ t.length + 1 by omega)
  have h0' : n ≤ nxTo (once l) n t.length := nxTo_mono (once l) n (show 0 ≤ t.length by omega)
  rw [done_out] at h
  rcases List.mem_append.mp h with h | h
  · rcases mem_outTo h with h | ⟨h', m, i, j, w, h1, h2, h3, h4, h5, h6⟩
    · exact .inl h
    · exact .inr ⟨m, i, j, w, once_sub (put_mem h2).1, h3, h4, h5, by omega⟩
  · rw [outTo_nx] at h
    rcases mem_putText h with h | ⟨m, i, j, w, h1, h2, h3, h4, h5⟩
    · exact .inl h
    · exact .inr ⟨m, i, j, w, once_sub (put_mem h1).1, h2, h3, by omega, h5⟩
def sumF (o : List (Nat × Ask)) : Nat := (o.map fun x => fresh (some x)).foldr (fun a b => a + b) 0
theorem nxTo_cons_le (x : Nat × Ask) (o : List (Nat × Ask)) (n : Nat) : ∀ g, nxTo (x :: o) n g ≤ nxTo o n g + (match puts x.2 with | some h => if h < g then fresh (some x) else 0 | none => 0)
  | 0 => Nat.le_add_right _ _
  | g + 1 => by
    have ih := nxTo_cons_le x o n g
    show nxTo (x :: o) n g + fresh (putAt (x :: o) g) ≤ nxTo o n g + fresh (putAt o g) + _
    have e : putAt (x :: o) g = if puts x.2 == some g then some x else putAt o g := by
      unfold putAt
      rw [List.find?_cons]
      cases hc : (puts x.2 == some g) <;> simp
    rw [e]
    cases hp : puts x.2 with
    | none =>
      rw [hp] at ih
      simp only [] at ih ⊢
      have : ((none : Option Nat) == some g) = false := rfl
      rw [this]
      simp only [Bool.false_eq_true, if_false]
      omega
    | some h =>
      rw [hp] at ih
      simp only [] at ih ⊢
      by_cases hg : h = g
      · subst hg
        simp only [beq_self_eq_true, if_true]
        have h1 : ¬ h < h := by omega
        have h2 : h < h + 1 := by omega
        rw [if_neg h1] at ih
        rw [if_pos h2]
        omega
      · have : (some h == some g) = false := by simp [hg]
        rw [this]
        simp only [Bool.false_eq_true, if_false]
        by_cases h1 : h < g
        · rw [if_pos h1] at ih
          rw [if_pos (by omega)]
          omega
        · rw [if_neg h1] at ih
          rw [if_neg (by omega)]
          omega
theorem nxTo_le : ∀ (o : List (Nat × Ask)) (n g : Nat), nxTo o n g ≤ n + sumF o
  | [], n, g => by
    have : ∀ g, nxTo [] n g = n := by
      intro g
      induction g with
      | zero => rfl
      | succ g ih =>
        show nxTo [] n g + 0 = n
        omega
    rw [this g]
    exact Nat.le_add_right _ _
  | x :: o, n, g => by
    have h1 := nxTo_cons_le x o n g
    have h2 := nxTo_le o n g
    have h3 : sumF (x :: o) = fresh (some x) + sumF o := rfl
    have h4 : (match puts x.2 with | some h => if h < g then fresh (some x) else 0 | none => 0) ≤ fresh (some x) := by
      split
      · split
        · exact Nat.le_refl _
        · exact Nat.zero_le _
      · exact Nat.zero_le _
    omega
end Pm
namespace Pm
open Si42
theorem wordsOk_mem {l : List Nat} (h : wordsOk l = true) : ∀ x ∈ l, 1 ≤ x ∧ x ≤ 99999 := fun x hx => by
  have := List.all_eq_true.mp h x hx
  simpa using this
theorem askOk_in {s : St} {a : Ask} (h : askOk s a = true) : askIn s.text.length a := by
  cases a with
  | change i j w =>
    unfold askOk at h
    simp only [Bool.and_eq_true, Bool.or_eq_true, decide_eq_true_eq] at h
    obtain ⟨h1, h2, h3, h4, h5⟩ := h
    refine ⟨h1, h2, h4, wordsOk_mem h3, fun e => ?_⟩
    intro hw
    rw [hw] at h5
    simp at h5
    omega
  | keep i j =>
    unfold askOk at h
    simp only [Bool.and_eq_true, decide_eq_true_eq] at h
    exact h
  | move i j k =>
    unfold askOk at h
    simp only [Bool.and_eq_true, Bool.or_eq_true, decide_eq_true_eq] at h
    exact ⟨h.1, h.2.1, h.2.2.1⟩
theorem SInv.marked {left : Nat} {s : St} (h : SInv left s) (r : Nat) (a : Ask) : SInv left (Si42.marked s r a).1 := by
  unfold Si42.marked
  split
  · exact h
  · split
    · exact h
    · split
      · exact h
      · rename_i h1 h2 h3
        have hr : r < s.readers.length := by omega
        have ha : askIn s.text.length a := askOk_in (by cases e : askOk s a with | true => rfl | false => exact absurd e h2)
        simp only [OPEN, MARKS, not_or, Nat.not_le] at h3
        refine ⟨h.rl, h.rw, h.tl, h.nd, h.il, h.fl, h.f100, h.bn, ?_, h.wd, ?_, ?_, ?_, ?_, h.gl, ?_, fun x hx m mk e1 e2 => h.ge x hx m mk e1 (by
          have := h.bm x hx m e1
          rw [← e2]
          exact (List.getElem?_append_left this).symm)⟩
        · intro x hx m hm
          have := h.bm x hx m hm
          show m < (s.marks ++ [_]).length
          rw [List.length_append]
          simp
          omega
        · show (s.marks ++ [_]).length ≤ 60
          rw [List.length_append]
          simp
          omega
        · exact Nat.le_trans (opens_app _ _) (by omega)
        · intro m hm
          rcases List.mem_append.mp hm with hm | hm
          · exact h.mr m hm
          · rw [List.mem_singleton.mp hm]
            exact hr
        · intro m hm b hb
          rcases List.mem_append.mp hm with hm | hm
          · exact h.ma m hm b hb
          · rw [List.mem_singleton.mp hm] at hb
            cases hb
            exact ha
        · intro x hx
          have := h.gm x hx
          show x.2 < (s.marks ++ [_]).length
          rw [List.length_append]
          simp
          omega
theorem filter_le {α : Type} {p q : α → Bool} : ∀ {l : List α}, (∀ x ∈ l, p x = true → q x = true) → (l.filter p).length ≤ (l.filter q).length
  | [], _ => Nat.le_refl _
  | a :: l, h => by
    have ih := filter_le (l := l) fun x hx => h x (List.mem_cons_of_mem _ hx)
    rw [List.filter_cons, List.filter_cons]
    by_cases hp : p a = true
    · rw [if_pos hp, if_pos (h a List.mem_cons_self hp)]
      simp
      exact ih
    · rw [if_neg hp]
      split
      · simp
        omega
      · exact ih
theorem filter_map_le {α β : Type} {p : α → Bool} {q : β → Bool} {f : α → β} : ∀ {l : List α}, (∀ x ∈ l, q (f x) = true → p x = true) → ((l.map f).filter q).length ≤ (l.filter p).length
  | [], _ => Nat.le_refl _
  | a :: l, h => by
    have ih := filter_map_le (l := l) fun x hx => h x (List.mem_cons_of_mem _ hx)
    rw [List.map_cons, List.filter_cons, List.filter_cons]
    by_cases hp : q (f a) = true
    · rw [if_pos hp, if_pos (h a List.mem_cons_self hp)]
      simp
      exact ih
    · rw [if_neg hp]
      split
      · simp
        omega
      · exact ih
theorem zip_filter (l : List Mark) (k : Nat) : ((l.zipIdx k).filter fun x => isOpen x.1).length = (l.filter isOpen).length := by
  induction l generalizing k with
  | nil => rfl
  | cons m l ih =>
    rw [List.zipIdx_cons, List.filter_cons, List.filter_cons]
    split
    · simp only [List.length_cons, ih]
    · exact ih _
theorem chosen_in {left : Nat} {s : St} (h : SInv left s) {x : Nat × Ask} (hx : x ∈ chosen s.readers s.marks) : ∃ m, s.marks[x.1]? = some m ∧ m.stand = .open_ x.2 ∧ askIn s.text.length x.2 := by
  have h1 := (sets_sub (chosen_mem s.readers s.marks)).subset hx
  obtain ⟨m, h2, h3⟩ := mem_opens.mp (show (x.1, x.2) ∈ opens s.marks from h1)
  exact ⟨m, h2, h3, h.ma m (List.mem_of_getElem? h2) _ h3⟩
theorem Free.once {l : List (Nat × Ask)} (h : Free l) : Free (once l) := fun x hx y hy => h x (once_sub hx) y (once_sub hy)
theorem inside_of {len : Nat} {l : List (Nat × Ask)} (h : ∀ x ∈ l, askIn len x.2) : Inside len l := fun x hx => by
  have := h x hx
  obtain ⟨i, a⟩ := x
  cases a with
  | change i j w => exact ⟨this.1, this.2.1⟩
  | keep i j => exact ⟨Nat.le_refl _, Nat.le_of_lt (Nat.lt_of_lt_of_le this.1 this.2)⟩
  | move i j k => exact ⟨Nat.le_of_lt this.1, this.2.1⟩
def markThen (s : St) (k : Nat) (m0 : Mark) : Mark := match m0.stand with
  | .open_ a => if ((chosen s.readers s.marks).any fun y => y.1 == k) = true then { m0 with stand := .done s.proof } else { m0 with stand := match askThen s.text (done s.text s.next (chosen s.readers s.marks)) (chosen s.readers s.marks) a with
    | some b => .open_ b
    | none => .lost s.proof }
  | _ => m0
theorem carried_marks (s : St) : (Si42.carried s).marks = s.marks.zipIdx.map fun x => markThen s x.2 x.1 := rfl
theorem carried_mark {s : St} {k : Nat} {mk : Mark} (h : (Si42.carried s).marks[k]? = some mk) : ∃ m0, s.marks[k]? = some m0 ∧ mk = markThen s k m0 := by
  rw [carried_marks, List.getElem?_map, List.getElem?_zipIdx] at h
  cases e : s.marks[k]? with
  | none => rw [e] at h; cases h
  | some m0 =>
    rw [e] at h
    refine ⟨m0, rfl, ?_⟩
    have h := Option.some.inj h
    rw [← h, Nat.zero_add]
theorem SInv.carried {left : Nat} {s : St} (h : SInv (left + 1) s) (hw : ¬ WORDS < (Si42.carried s).text.length) : SInv left (Si42.carried s) := by
  have hc : ∀ x ∈ chosen s.readers s.marks, askIn s.text.length x.2 := fun x hx => by
    obtain ⟨m, _, _, h3⟩ := chosen_in h hx
    exact h3
  have hF : Free (once (chosen s.readers s.marks)) := (sets_free (chosen_mem _ _)).once
  have hI : Inside s.text.length (once (chosen s.readers s.marks)) := inside_of fun x hx => hc x (once_sub hx)
  have hmk : (Si42.carried s).marks.length = s.marks.length := by
    show (s.marks.zipIdx.map _).length = _
    rw [List.length_map, List.length_zipIdx]
  have hin : ∀ x ∈ chosen s.readers s.marks, x.1 < s.marks.length := fun x hx => by
    obtain ⟨m, h1, _⟩ := chosen_in h hx
    exact (List.getElem?_eq_some_iff.mp h1).1
  have hnx : nxTo (once (chosen s.readers s.marks)) s.next (s.text.length + 1) ≤ (Si42.carried s).next := nxTo_le _ _ _
  have hnn : s.next ≤ (Si42.carried s).next := Nat.le_add_right _ _
  have hmarks : ∀ m ∈ (Si42.carried s).marks, ∃ (k : Nat) (m0 : Mark), s.marks[k]? = some m0 ∧ m.reader = m0.reader ∧ (∀ b, m.stand = .open_ b → ∃ a, m0.stand = .open_ a ∧ askThen s.text (Si42.carried s).text (chosen s.readers s.marks) a = some b) := by
    intro m hm
    obtain ⟨⟨m0, k⟩, h1, h2⟩ := List.mem_map.mp (show m ∈ s.marks.zipIdx.map _ from hm)
    refine ⟨k, m0, List.mem_zipIdx_iff_getElem?.mp h1, ?_⟩
    dsimp only at h2
    cases hs : m0.stand with
    | open_ a =>
      rw [hs] at h2
      dsimp only at h2
      split at h2
      · subst h2
        exact ⟨rfl, fun b e => by cases e⟩
      · subst h2
        refine ⟨rfl, fun b e => ⟨a, rfl, ?_⟩⟩
        show askThen s.text (done s.text s.next (chosen s.readers s.marks)) (chosen s.readers s.marks) a = some b
        dsimp only at e
        split at e
        · rename_i b' hb
          cases e
          exact hb
        · cases e
    | done p => rw [hs] at h2; dsimp only at h2; subst h2; exact ⟨rfl, fun b e => by rw [hs] at e; cases e⟩
    | lost p => rw [hs] at h2; dsimp only at h2; subst h2; exact ⟨rfl, fun b e => by rw [hs] at e; cases e⟩
    | withdrawn => rw [hs] at h2; dsimp only at h2; subst h2; exact ⟨rfl, fun b e => by rw [hs] at e; cases e⟩
  refine ⟨h.rl, h.rw, by simp only [WORDS] at hw; omega, done_nodup h.nd h.il hF hI, ?_, Nat.le_trans h.fl hnn, h.f100, ?_, ?_, ?_, by rw [hmk]; exact h.ml, ?_, ?_, ?_, ?_, ?_, ?_⟩
  · intro x hx
    rcases mem_done hx with hx | ⟨m, i, j, w, h1, h2, h3, h4, h5⟩
    · exact Nat.lt_of_lt_of_le (h.il x hx) hnn
    · exact Nat.lt_of_lt_of_le h5 hnx
  · intro x hx
    rcases mem_done hx with hx | ⟨m, i, j, w, h1, h2, h3, h4, h5⟩
    · exact h.bn x hx
    · rw [h2]
      have h6 := h.fl
      have h7 : ¬ x.id < s.first.length := by omega
      exact ⟨fun e => by (cases e), fun e => absurd e h7⟩
  · intro x hx m' hm'
    rw [hmk]
    rcases mem_done hx with hx | ⟨m, i, j, w, h1, h2, h3, h4, h5⟩
    · exact h.bm x hx m' hm'
    · rw [h2] at hm'
      cases hm'
      exact hin _ h1
  · intro x hx
    rcases mem_done hx with hx | ⟨m, i, j, w, h1, h2, h3, h4, h5⟩
    · exact h.wd x hx
    · exact (hc _ h1).2.2.2.1 _ h3
  · refine Nat.le_trans ?_ h.ol
    rw [opens_length, opens_length, ← zip_filter s.marks 0]
    refine filter_map_le fun x hx hq => ?_
    obtain ⟨m0, k⟩ := x
    show isOpen m0 = true
    dsimp only at hq
    unfold isOpen
    cases hs : m0.stand with
    | open_ a => rfl
    | done p => rw [hs] at hq; dsimp only at hq; unfold isOpen at hq; rw [hs] at hq; cases hq
    | lost p => rw [hs] at hq; dsimp only at hq; unfold isOpen at hq; rw [hs] at hq; cases hq
    | withdrawn => rw [hs] at hq; dsimp only at hq; unfold isOpen at hq; rw [hs] at hq; cases hq
  · intro m hm
    obtain ⟨k, m0, h1, h2, _⟩ := hmarks m hm
    rw [h2]
    exact h.mr m0 (List.mem_of_getElem? h1)
  · intro m hm b hb
    obtain ⟨k, m0, h1, _, h3⟩ := hmarks m hm
    obtain ⟨a, h4, h5⟩ := h3 b hb
    exact askThen_in (n := s.next) (h.ma m0 (List.mem_of_getElem? h1) a h4) h5
  · show (s.gone ++ s.text.zipIdx.filterMap _).length + 100 * left ≤ 10000
    rw [List.length_append]
    have h1 := List.length_filterMap_le (fun x : Token × Nat => (takerOf (once (chosen s.readers s.marks)) x.2).map fun m => (x.1.id, m)) s.text.zipIdx
    rw [List.length_zipIdx] at h1
    have h2 := h.tl
    have h3 := h.gl
    omega
  · intro x hx
    rw [hmk]
    rcases List.mem_append.mp (show x ∈ s.gone ++ s.text.zipIdx.filterMap _ from hx) with hx | hx
    · exact h.gm x hx
    · obtain ⟨y, _, h2⟩ := List.mem_filterMap.mp hx
      cases ht : takerOf (once (chosen s.readers s.marks)) y.2 with
      | none => rw [ht] at h2; cases h2
      | some m =>
        rw [ht] at h2
        cases h2
        unfold takerOf at ht
        obtain ⟨z, hz, e⟩ := Option.map_eq_some_iff.mp ht
        have := hin z (once_sub (List.mem_of_find?_eq_some hz))
        show m < s.marks.length
        rw [← e]
        exact this
  · intro x hx m mk e1 e2
    obtain ⟨m0, e3, e4⟩ := carried_mark e2
    rcases mem_done hx with hx | ⟨m', i, j, w, h1, h2, h3, h4, h5⟩
    · have hn := h.ge x hx m m0 e1 e3
      rw [e4]
      unfold markThen
      unfold isOpen at hn
      split
      · rename_i a ea
        rw [ea] at hn
        cases hn
      · exact hn
    · rw [h2] at e1
      cases e1
      obtain ⟨m1, e5, e6, _⟩ := chosen_in h h1
      rw [e3] at e5
      cases e5
      rw [e4]
      unfold markThen
      rw [e6]
      dsimp only
      rw [if_pos (List.any_eq_true.mpr ⟨_, h1, by simp⟩)]
      rfl
theorem SInv.step {left : Nat} {s : St} (h : SInv (left + 1) s) (q : Call) : SInv left (Si42.step s q).1 := by
  have hle : SInv left s := h.less (by omega)
  cases q with
  | begins w =>
    unfold Si42.step
    dsimp only
    split
    · exact hle
    · rename_i hb
      have hb : (wordsOk w && decide (w.length ≤ WORDS)) = true := by cases e : (wordsOk w && decide (w.length ≤ WORDS)) with | true => rfl | false => exact absurd e hb
      rw [Bool.and_eq_true] at hb
      obtain ⟨h1, h2⟩ := hb
      have h2 : w.length ≤ 100 := of_decide_eq_true h2
      have hlen : (w.zipIdx.map fun x => (⟨x.2, x.1, none⟩ : Token)).length = w.length := by rw [List.length_map, List.length_zipIdx]
      have hmem : ∀ x ∈ (w.zipIdx.map fun x => (⟨x.2, x.1, none⟩ : Token)), x.id < w.length ∧ x.by_ = none ∧ x.word ∈ w := by
        intro x hx
        obtain ⟨⟨a, k⟩, h3, rfl⟩ := List.mem_map.mp hx
        have h4 := List.mem_zipIdx_iff_getElem?.mp h3
        exact ⟨(List.getElem?_eq_some_iff.mp h4).1, rfl, List.mem_of_getElem? h4⟩
      refine ⟨by simp, by simp, by show (w.zipIdx.map _).length ≤ 100; rw [hlen]; exact h2, ?_, fun x hx => (hmem x hx).1, Nat.le_refl _, h2, ?_, ?_, ?_, by simp, by simp [opens], by simp, by simp, ?_, by simp, fun x hx m mk e => by rw [(hmem x hx).2.1] at e; cases e⟩
      · show ((w.zipIdx.map fun x => (⟨x.2, x.1, none⟩ : Token)).map fun x => x.id).Nodup
        rw [List.map_map]
        have : (w.zipIdx.map ((fun x : Token => x.id) ∘ fun x : Nat × Nat => (⟨x.2, x.1, none⟩ : Token))) = w.zipIdx.map Prod.snd := rfl
        rw [this, List.zipIdx_map_snd]
        exact List.nodup_range'
      · intro x hx
        obtain ⟨h3, h4, _⟩ := hmem x hx
        exact ⟨fun _ => h3, fun _ => h4⟩
      · intro x hx m hm
        rw [(hmem x hx).2.1] at hm
        cases hm
      · intro x hx
        exact wordsOk_mem h1 _ (hmem x hx).2.2
      · have := hle.gl
        show 0 + 100 * left ≤ 10000
        omega
  | reader n =>
    unfold Si42.step
    dsimp only
    split
    · exact hle
    · split
      · exact hle
      · rename_i h1 h2
        simp only [READERS, Nat.not_le] at h2
        refine ⟨?_, ?_, hle.tl, hle.nd, hle.il, hle.fl, hle.f100, hle.bn, hle.bm, hle.wd, hle.ml, hle.ol, ?_, hle.ma, hle.gl, hle.gm, hle.ge⟩
        · show (s.readers ++ [n]).length ≤ 8
          rw [List.length_append]
          simp
          omega
        · intro x hx
          rcases List.mem_append.mp hx with hx | hx
          · exact hle.rw x hx
          · rw [List.mem_singleton.mp hx]
            omega
        · intro m hm
          have := hle.mr m hm
          show m.reader < (s.readers ++ [n]).length
          rw [List.length_append]
          omega
  | change r i j w => exact hle.marked r _
  | keep r i j => exact hle.marked r _
  | move r i j k => exact hle.marked r _
  | withdraw m =>
    show SInv left (match s.marks[m]? with
      | none => (s, ok (-2))
      | some x => match x.stand with
        | .open_ _ => ({ s with marks := s.marks.set m { x with stand := .withdrawn } }, ok 0)
        | _ => (s, ok (-4))).1
    cases hm : s.marks[m]? with
    | none => exact hle
    | some x =>
      dsimp only
      cases hs : x.stand with
      | open_ a =>
        dsimp only
        have hx : x ∈ s.marks := List.mem_of_getElem? hm
        refine ⟨hle.rl, hle.rw, hle.tl, hle.nd, hle.il, hle.fl, hle.f100, hle.bn, ?_, hle.wd, ?_, ?_, ?_, ?_, hle.gl, ?_, ?_⟩
        · intro y hy k hk
          show k < (s.marks.set m _).length
          rw [List.length_set]
          exact hle.bm y hy k hk
        · show (s.marks.set m _).length ≤ 60
          rw [List.length_set]
          exact hle.ml
        · refine Nat.le_trans ?_ hle.ol
          rw [opens_length, opens_length]
          have : ∀ (l : List Mark) (k : Nat) (y : Mark), isOpen y = false → ((l.set k y).filter isOpen).length ≤ (l.filter isOpen).length := by
            intro l
            induction l with
            | nil => intro k y _; exact Nat.le_refl _
            | cons b l ih =>
              intro k y hy
              cases k with
              | zero =>
                rw [List.set_cons_zero, List.filter_cons, List.filter_cons, if_neg (by rw [hy]; decide)]
                split
                · simp
                · exact Nat.le_refl _
              | succ k =>
                rw [List.set_cons_succ, List.filter_cons, List.filter_cons]
                split
                · simp
                  exact ih k y hy
                · exact ih k y hy
          exact this _ _ _ rfl
        · intro y hy
          rcases List.mem_or_eq_of_mem_set hy with hy | hy
          · exact hle.mr y hy
          · rw [hy]
            exact hle.mr x hx
        · intro y hy b hb
          rcases List.mem_or_eq_of_mem_set hy with hy | hy
          · exact hle.ma y hy b hb
          · rw [hy] at hb
            cases hb
        · intro y hy
          show y.2 < (s.marks.set m _).length
          rw [List.length_set]
          exact hle.gm y hy
        · intro y hy k mk e1 e2
          have e2 : (s.marks.set m { x with stand := .withdrawn })[k]? = some mk := e2
          rw [List.getElem?_set] at e2
          split at e2
          · split at e2
            · cases e2
              rfl
            · cases e2
          · exact hle.ge y hy k mk e1 e2
      | done p => exact hle
      | lost p => exact hle
      | withdrawn => exact hle
  | clashes => exact hle
  | carry =>
    show SInv left (if WORDS < (Si42.carried s).text.length then (s, ok (-5)) else (Si42.carried s, _)).1
    split
    · exact hle
    · rename_i hw
      exact h.carried hw
  | shown => exact hle
  | who i => exact hle
  | mark m => exact hle
  | gone => exact hle
  | test l => exact hle
end Pm
namespace Pm
open Si42
theorem find_filter {α : Type} {P Q : α → Bool} : ∀ {l : List α}, (∀ x ∈ l, P x = true → Q x = true) → (l.filter Q).find? P = l.find? P
  | [], _ => rfl
  | x :: l, h => by
    have ih := find_filter (l := l) (P := P) (Q := Q) (fun y hy => h y (List.mem_cons_of_mem _ hy))
    rw [List.filter_cons]
    by_cases hp : P x = true
    · rw [if_pos (h x List.mem_cons_self hp), List.find?_cons_of_pos hp, List.find?_cons_of_pos hp]
    · rw [List.find?_cons_of_neg hp]
      split
      · rw [List.find?_cons_of_neg hp, ih]
      · exact ih
theorem find_once {P : Ask → Bool} : ∀ (l : List (Nat × Ask)), (once l).find? (fun x => P x.2) = l.find? fun x => P x.2
  | [] => rfl
  | x :: l => by
    have ih := find_once (P := P) l
    show (x :: (once l).filter fun y => y.2 != x.2).find? (fun x => P x.2) = _
    by_cases hp : P x.2 = true
    · rw [List.find?_cons_of_pos (p := fun x : Nat × Ask => P x.2) hp, List.find?_cons_of_pos (p := fun x : Nat × Ask => P x.2) hp]
    · rw [List.find?_cons_of_neg (p := fun x : Nat × Ask => P x.2) hp, List.find?_cons_of_neg (p := fun x : Nat × Ask => P x.2) hp, ← ih]
      refine find_filter fun y _ hy => ?_
      have hy : P y.2 = true := hy
      simp only [bne_iff_ne, ne_eq]
      intro e
      rw [e] at hy
      exact hp hy
theorem putAt_once (l : List (Nat × Ask)) (g : Nat) : putAt (once l) g = putAt l g := find_once (P := fun a => puts a == some g) l
def takes (a : Ask) (p : Nat) : Bool := decide ((taken a).1 ≤ p) && decide (p < (taken a).2)
def takeAt (l : List (Nat × Ask)) (p : Nat) : Option (Nat × Ask) := l.find? fun x => takes x.2 p
theorem isTaken_once (l : List (Nat × Ask)) (p : Nat) : isTaken (once l) p = (takeAt l p).isSome := by
  unfold takeAt
  rw [← find_once (P := fun a => takes a p) l, Bool.eq_iff_iff, List.find?_isSome]
  unfold isTaken takes
  simp [List.any_eq_true]
def chTakes (a : Ask) (p : Nat) : Bool := match a with
  | .change i j _ => decide (i ≤ p) && decide (p < j)
  | _ => false
theorem takerOf_once (l : List (Nat × Ask)) (p : Nat) : takerOf (once l) p = (l.find? fun x => chTakes x.2 p).map fun x => x.1 := by
  rw [← find_once (P := fun a => chTakes a p) l]
  rfl
def isCh : Ask → Bool
  | .change _ _ _ => true
  | _ => false
theorem find_ext {α : Type} {P Q : α → Bool} : ∀ {l : List α}, (∀ x ∈ l, P x = Q x) → l.find? P = l.find? Q
  | [], _ => rfl
  | x :: l, h => by
    rw [List.find?_cons, List.find?_cons, h x List.mem_cons_self, find_ext fun y hy => h y (List.mem_cons_of_mem _ hy)]
theorem taker_first {l : List (Nat × Ask)} (F : Free l) (p : Nat) : takerOf (once l) p = match takeAt l p with
    | some x => if isCh x.2 = true then some x.1 else none
    | none => none := by
  rw [takerOf_once]
  have hsub : ∀ a : Ask, chTakes a p = true → takes a p = true ∧ isCh a = true := by
    intro a h
    cases a with
    | change i j w => exact ⟨h, rfl⟩
    | keep i j => cases h
    | move i j k => cases h
  cases hx : takeAt l p with
  | none =>
    have h0 : l.find? (fun x => chTakes x.2 p) = none := by
      rw [List.find?_eq_none]
      intro y hy hc
      have := List.find?_eq_none.mp hx y hy
      exact this (hsub _ hc).1
    rw [h0]
    rfl
  | some x =>
    dsimp only
    have hm : x ∈ l := List.mem_of_find?_eq_some hx
    have ht : takes x.2 p = true := by have := List.find?_some hx; exact this
    unfold takes at ht
    simp only [Bool.and_eq_true, decide_eq_true_eq] at ht
    have hkeep : ∀ {a : Ask}, (taken a).1 ≤ p → p < (taken a).2 → ∀ i j, a ≠ .keep i j := by
      rintro a h1 h2 i j rfl
      simp only [taken] at h1 h2
      omega
    have hal : ∀ y ∈ l, takes y.2 p = true → y.2 = x.2 := by
      intro y hy hty
      unfold takes at hty
      simp only [Bool.and_eq_true, decide_eq_true_eq] at hty
      refine Classical.byContradiction fun hne => ?_
      have := meet_clash hne (hkeep hty.1 hty.2) (hkeep ht.1 ht.2) hty.1 hty.2 ht.1 ht.2
      rw [F y hy x hm] at this
      cases this
    by_cases hc : isCh x.2 = true
    · rw [if_pos hc]
      have : l.find? (fun y => chTakes y.2 p) = l.find? fun y => takes y.2 p := by
        refine find_ext fun y hy => ?_
        rw [Bool.eq_iff_iff]
        refine ⟨fun h => (hsub _ h).1, fun h => ?_⟩
        have e := hal y hy h
        have h2 : isCh y.2 = true := by rw [e]; exact hc
        cases hy2 : y.2 with
        | change i j w => rw [hy2] at h; exact h
        | keep i j => rw [hy2] at h2; cases h2
        | move i j k => rw [hy2] at h2; cases h2
      rw [this]
      unfold takeAt at hx
      rw [hx]
      rfl
    · rw [if_neg hc]
      have h0 : l.find? (fun y => chTakes y.2 p) = none := by
        rw [List.find?_eq_none]
        intro y hy hcy
        obtain ⟨h1, h2⟩ := hsub _ hcy
        rw [hal y hy h1] at h2
        exact hc h2
      rw [h0]
      rfl
abbrev GT := Token × Nat
abbrev Tri := Int × Int × Int
def byI : Option Nat → Int
  | none => -1
  | some m => m
def trip (x : GT) : Tri := ((x.1.word : Int), byI x.1.by_, (x.2 : Int))
theorem byI_inj : ∀ {a b : Option Nat}, byI a = byI b → a = b
  | none, none, _ => rfl
  | none, some m, h => by dsimp only [byI] at h; omega
  | some m, none, h => by dsimp only [byI] at h; omega
  | some m, some k, h => by dsimp only [byI] at h; rw [Int.ofNat_inj.mp h]
theorem trip_inj {x y : GT} (h : trip x = trip y) : x.1.word = y.1.word ∧ x.1.by_ = y.1.by_ ∧ x.2 = y.2 := by
  unfold trip at h
  simp only [Prod.mk.injEq] at h
  exact ⟨Int.ofNat_inj.mp h.1, byI_inj h.2.1, Int.ofNat_inj.mp h.2.2⟩
def gPut (T : List GT) (n : Nat) : Option (Nat × Ask) → List GT
  | some (m, .change _ _ w) => (newWords m n w).zipIdx
  | some (_, .move i j _) => (T.drop i).take (j - i)
  | _ => []
theorem zipIdx_fst {α : Type} (l : List α) (k : Nat) : (l.zipIdx k).map Prod.fst = l := by simp
theorem gPut_fst (T : List GT) (n : Nat) (p : Option (Nat × Ask)) : (gPut T n p).map Prod.fst = putText (T.map Prod.fst) n p := by
  match p with
  | none => rfl
  | some (m, .change i j w) => exact zipIdx_fst _ _
  | some (m, .keep i j) => rfl
  | some (m, .move i j k) =>
    show ((T.drop i).take (j - i)).map Prod.fst = ((T.map Prod.fst).drop i).take (j - i)
    rw [List.map_take, List.map_drop]
def gOut (T : List GT) (o : List (Nat × Ask)) (n : Nat) : Nat → List GT
  | 0 => []
  | g + 1 => gOut T o n g ++ (gPut T (nxTo o n g) (putAt o g) ++ (if isTaken o g = true then [] else (T.drop g).take 1))
theorem gOut_fst (T : List GT) (o : List (Nat × Ask)) (n : Nat) : ∀ g, (gOut T o n g).map Prod.fst = (outTo (T.map Prod.fst) o n g).1
  | 0 => rfl
  | g + 1 => by
    show (gOut T o n g ++ (gPut T (nxTo o n g) (putAt o g) ++ (if isTaken o g = true then [] else (T.drop g).take 1))).map Prod.fst = (outTo (T.map Prod.fst) o n g).1 ++ (putText (T.map Prod.fst) (outTo (T.map Prod.fst) o n g).2 (putAt o g) ++ (if isTaken o g = true then [] else ((T.map Prod.fst).drop g).take 1))
    rw [List.map_append, List.map_append, gOut_fst T o n g, gPut_fst, outTo_nx]
    congr 2
    split
    · rfl
    · rw [List.map_take, List.map_drop]
def gDone (T : List GT) (n : Nat) (l : List (Nat × Ask)) : List GT := gOut T (once l) n T.length ++ gPut T (nxTo (once l) n T.length) (putAt (once l) T.length)
theorem gDone_fst (T : List GT) (n : Nat) (l : List (Nat × Ask)) : (gDone T n l).map Prod.fst = done (T.map Prod.fst) n l := by
  rw [done_out]
  unfold gDone
  rw [List.map_append, gOut_fst, gPut_fst, outTo_nx, List.length_map]
def bring (m : Nat) (w : List Nat) : List Tri := w.zipIdx.map fun x => ((x.1 : Int), (m : Int), (x.2 : Int))
def pPut (P : List Tri) : Option (Nat × Ask) → List Tri
  | some (m, .change _ _ w) => bring m w
  | some (_, .move i j _) => (P.drop i).take (j - i)
  | _ => []
def pOut (P : List Tri) (l : List (Nat × Ask)) : Nat → List Tri
  | 0 => []
  | g + 1 => pOut P l g ++ (pPut P (putAt l g) ++ (if (takeAt l g).isSome = true then [] else (P.drop g).take 1))
def pDone (P : List Tri) (l : List (Nat × Ask)) : List Tri := pOut P l P.length ++ pPut P (putAt l P.length)
def pGap (P : List Tri) (l : List (Nat × Ask)) (g : Nat) : Nat := (pOut P l g).length + (pPut P (putAt l g)).length
theorem bring_trip (m : Nat) : ∀ (w : List Nat) (n k : Nat), ((newWords m n w).zipIdx k).map trip = (w.zipIdx k).map fun x => ((x.1 : Int), (m : Int), (x.2 : Int))
  | [], _, _ => rfl
  | x :: w, n, k => by
    show (((⟨n, x, some m⟩ : Token) :: newWords m (n + 1) w).zipIdx k).map trip = _
    rw [List.zipIdx_cons, List.zipIdx_cons, List.map_cons, List.map_cons, bring_trip m w (n + 1) (k + 1)]
    rfl
theorem gPut_trip (T : List GT) (n : Nat) (p : Option (Nat × Ask)) : (gPut T n p).map trip = pPut (T.map trip) p := by
  match p with
  | none => rfl
  | some (m, .change i j w) => exact bring_trip m w n 0
  | some (m, .keep i j) => rfl
  | some (m, .move i j k) =>
    show ((T.drop i).take (j - i)).map trip = ((T.map trip).drop i).take (j - i)
    rw [List.map_take, List.map_drop]
theorem gOut_trip (T : List GT) (l : List (Nat × Ask)) (n : Nat) : ∀ g, (gOut T (once l) n g).map trip = pOut (T.map trip) l g
  | 0 => rfl
  | g + 1 => by
    show (gOut T (once l) n g ++ (gPut T (nxTo (once l) n g) (putAt (once l) g) ++ (if isTaken (once l) g = true then [] else (T.drop g).take 1))).map trip = pOut (T.map trip) l g ++ (pPut (T.map trip) (putAt l g) ++ (if (takeAt l g).isSome = true then [] else ((T.map trip).drop g).take 1))
    rw [List.map_append, List.map_append, gOut_trip T l n g, gPut_trip, putAt_once, isTaken_once]
    congr 2
    split
    · rfl
    · rw [List.map_take, List.map_drop]
theorem gDone_trip (T : List GT) (n : Nat) (l : List (Nat × Ask)) : (gDone T n l).map trip = pDone (T.map trip) l := by
  unfold gDone pDone
  rw [List.map_append, gOut_trip, gPut_trip, putAt_once, List.length_map]
theorem pGap_is (T : List GT) (l : List (Nat × Ask)) {g : Nat} (hg : g ≤ T.length) : gapThen (T.map Prod.fst) l g = pGap (T.map trip) l g := by
  rw [gapThen_out _ _ 0 _ (by rw [List.length_map]; exact hg), ← gOut_fst, ← gPut_fst, List.length_map, List.length_map]
  unfold pGap
  rw [← gOut_trip T l 0, ← gPut_trip T (outTo (T.map Prod.fst) (once l) 0 g).2, List.length_map, List.length_map, putAt_once]
theorem pDone_length (T : List GT) (n : Nat) (l : List (Nat × Ask)) : (pDone (T.map trip) l).length = (done (T.map Prod.fst) n l).length := by
  rw [← gDone_trip T n, ← gDone_fst, List.length_map, List.length_map]
structure GInv (T : List GT) : Prop where
  key : ∀ x ∈ T, ∀ y ∈ T, x.1.by_ = y.1.by_ → x.2 = y.2 → x = y
  org : ∀ x ∈ T, x.1.by_ = none → x.2 = x.1.id
theorem mem_gPut {T : List GT} {n : Nat} {p : Option (Nat × Ask)} {y : GT} (h : y ∈ gPut T n p) : y ∈ T ∨ ∃ m i j w, p = some (m, .change i j w) ∧ y ∈ (newWords m n w).zipIdx := by
  match p, h with
  | some (m, .change i j w), h => exact .inr ⟨m, i, j, w, rfl, h⟩
  | some (m, .move i j k), h => exact .inl (List.mem_of_mem_drop (List.mem_of_mem_take (show y ∈ (T.drop i).take (j - i) from h)))
  | some (m, .keep i j), h => cases h
  | none, h => cases h
theorem mem_gOut {T : List GT} {o : List (Nat × Ask)} {n : Nat} {y : GT} : ∀ {g : Nat}, y ∈ gOut T o n g → y ∈ T ∨ ∃ h m i j w, putAt o h = some (m, .change i j w) ∧ y ∈ (newWords m (nxTo o n h) w).zipIdx
  | 0, h => by cases h
  | g + 1, h => by
    rcases List.mem_append.mp (show y ∈ gOut T o n g ++ (gPut T (nxTo o n g) (putAt o g) ++ (if isTaken o g = true then [] else (T.drop g).take 1)) from h) with h | h
    · exact mem_gOut h
    · rcases List.mem_append.mp h with h | h
      · rcases mem_gPut h with h | ⟨m, i, j, w, h1, h2⟩
        · exact .inl h
        · exact .inr ⟨g, m, i, j, w, h1, h2⟩
      · split at h
        · cases h
        · exact .inl (List.mem_of_mem_drop (List.mem_of_mem_take h))
theorem mem_gDone {T : List GT} {n : Nat} {l : List (Nat × Ask)} {y : GT} (h : y ∈ gDone T n l) : y ∈ T ∨ ∃ h m i j w, putAt (once l) h = some (m, .change i j w) ∧ y ∈ (newWords m (nxTo (once l) n h) w).zipIdx := by
  rcases List.mem_append.mp h with h | h
  · exact mem_gOut h
  · rcases mem_gPut h with h | ⟨m, i, j, w, h1, h2⟩
    · exact .inl h
    · exact .inr ⟨_, m, i, j, w, h1, h2⟩
theorem zipIdx_at {α : Type} {l : List α} {x y : α × Nat} (hx : x ∈ l.zipIdx) (hy : y ∈ l.zipIdx) (e : x.2 = y.2) : x = y := by
  have h1 := List.mem_zipIdx_iff_getElem?.mp hx
  have h2 := List.mem_zipIdx_iff_getElem?.mp hy
  rw [e, h2] at h1
  obtain ⟨a, b⟩ := x
  obtain ⟨c, d⟩ := y
  dsimp only at e h1
  rw [e, Option.some.inj h1]
theorem mem_zip_by {m n : Nat} {w : List Nat} {y : GT} (h : y ∈ (newWords m n w).zipIdx) : y.1.by_ = some m ∧ n ≤ y.1.id := by
  have h1 : y.1 ∈ newWords m n w := by
    have := List.mem_zipIdx_iff_getElem?.mp h
    exact List.mem_of_getElem? this
  obtain ⟨e1, _, e2, _⟩ := mem_newWords h1
  exact ⟨e1, e2⟩
section
variable {T : List GT} {n : Nat} {l : List (Nat × Ask)}
theorem key_both (G : GInv T) (hu : ∀ x ∈ l, ∀ y ∈ l, x.1 = y.1 → x = y) (hn : ∀ x ∈ T, ∀ m, x.1.by_ = some m → ∀ y ∈ l, y.1 ≠ m) :
    ∀ x ∈ T ++ gDone T n l, ∀ y ∈ T ++ gDone T n l, x.1.by_ = y.1.by_ → x.2 = y.2 → x = y := by
  have mem : ∀ x ∈ T ++ gDone T n l, x ∈ T ∨ ∃ h m i j w, putAt (once l) h = some (m, .change i j w) ∧ x ∈ (newWords m (nxTo (once l) n h) w).zipIdx := fun x hx =>
    (List.mem_append.mp hx).elim .inl mem_gDone
  have on : ∀ x ∈ T, ∀ y : GT, (∃ h m i j w, putAt (once l) h = some (m, .change i j w) ∧ y ∈ (newWords m (nxTo (once l) n h) w).zipIdx) → x.1.by_ ≠ y.1.by_ := by
    rintro x hx y ⟨h, m, i, j, w, h1, h2⟩ e
    rw [(mem_zip_by h2).1] at e
    exact hn x hx m e _ (once_sub (put_mem h1).1) rfl
  intro x hx y hy e1 e2
  rcases mem x hx with hx | hx <;> rcases mem y hy with hy | hy
  · exact G.key x hx y hy e1 e2
  · exact absurd e1 (on x hx y hy)
  · exact absurd e1.symm (on y hy x hx)
  · obtain ⟨h, m, i, j, w, h1, h2⟩ := hx
    obtain ⟨h', m', i', j', w', h1', h2'⟩ := hy
    rw [(mem_zip_by h2).1, (mem_zip_by h2').1] at e1
    have em : m = m' := Option.some.inj e1
    have e3 := hu _ (once_sub (put_mem h1).1) _ (once_sub (put_mem h1').1) em
    have e4 := (put_mem h1).2
    have e5 := (put_mem h1').2
    rw [e3, e5] at e4
    have e6 : h' = h := Option.some.inj e4
    subst e6
    rw [h1] at h1'
    cases h1'
    exact zipIdx_at h2 h2' e2
theorem nodup_inj {α β : Type} {f : α → β} : ∀ {l : List α}, (l.map f).Nodup → ∀ x ∈ l, ∀ y ∈ l, f x = f y → x = y
  | [], _, x, hx => by cases hx
  | a :: l, h, x, hx => fun y hy e => by
    rw [List.map_cons, List.nodup_cons] at h
    rcases List.mem_cons.mp hx with ex | hx <;> rcases List.mem_cons.mp hy with ey | hy
    · rw [ex, ey]
    · exact absurd (List.mem_map.mpr ⟨y, hy, by rw [← e, ex]⟩) h.1
    · exact absurd (List.mem_map.mpr ⟨x, hx, by rw [e, ey]⟩) h.1
    · exact nodup_inj h.2 x hx y hy e
theorem id_both (hnd : ((T.map Prod.fst).map fun x => x.id).Nodup) (hlt : ∀ x ∈ T, x.1.id < n) (F : Free (once l)) (I : Inside T.length (once l)) :
    ∀ x ∈ T, ∀ y ∈ gDone T n l, x.1.id = y.1.id → x = y := by
  intro x hx y hy e
  rcases mem_gDone hy with hy | ⟨h, m, i, j, w, h1, h2⟩
  · rw [List.map_map] at hnd
    exact nodup_inj hnd x hx y hy e
  · have h3 := (mem_zip_by h2).2
    have h4 : n ≤ nxTo (once l) n h := nxTo_mono _ _ (Nat.zero_le h)
    have := hlt x hx
    omega
theorem gInv_done (G : GInv T) (hu : ∀ x ∈ l, ∀ y ∈ l, x.1 = y.1 → x = y) (hn : ∀ x ∈ T, ∀ m, x.1.by_ = some m → ∀ y ∈ l, y.1 ≠ m) : GInv (gDone T n l) where
  key := fun x hx y hy => key_both G hu hn x (List.mem_append_right _ hx) y (List.mem_append_right _ hy)
  org := fun x hx e => by
    rcases mem_gDone hx with hx | ⟨h, m, i, j, w, h1, h2⟩
    · exact G.org x hx e
    · rw [(mem_zip_by h2).1] at e
      cases e
theorem rows_alike {S : List GT} (hk : ∀ x ∈ S, ∀ y ∈ S, x.1.by_ = y.1.by_ → x.2 = y.2 → x = y) : ∀ (A B : List GT), (∀ x ∈ A, x ∈ S) → (∀ y ∈ B, y ∈ S) → (∀ x ∈ A, ∀ y ∈ B, x.1.id = y.1.id → x = y) →
    ((A.map fun x => x.1.id) = (B.map fun x => x.1.id) ↔ A.map trip = B.map trip)
  | [], [], _, _, _ => by simp
  | [], _ :: _, _, _, _ => by simp
  | _ :: _, [], _, _, _ => by simp
  | a :: A, b :: B, hA, hB, hid => by
    have ih := rows_alike hk A B (fun x hx => hA x (List.mem_cons_of_mem _ hx)) (fun y hy => hB y (List.mem_cons_of_mem _ hy)) (fun x hx y hy => hid x (List.mem_cons_of_mem _ hx) y (List.mem_cons_of_mem _ hy))
    simp only [List.map_cons, List.cons.injEq]
    rw [ih]
    refine and_congr_left fun _ => ⟨fun e => ?_, fun e => ?_⟩
    · rw [hid a List.mem_cons_self b List.mem_cons_self e]
    · obtain ⟨_, h1, h2⟩ := trip_inj e
      rw [hk a (hA a List.mem_cons_self) b (hB b List.mem_cons_self) h1 h2]
def startAt (P : List Tri) (W : List Tri) : Option Nat := (List.range P.length).find? fun p => decide ((P.drop p).take W.length = W)
theorem range_is (G : GInv T) (hu : ∀ x ∈ l, ∀ y ∈ l, x.1 = y.1 → x = y) (hn : ∀ x ∈ T, ∀ m, x.1.by_ = some m → ∀ y ∈ l, y.1 ≠ m)
    (hnd : ((T.map Prod.fst).map fun x => x.id).Nodup) (hlt : ∀ x ∈ T, x.1.id < n) (F : Free (once l)) (I : Inside T.length (once l)) {i j : Nat} (hij : i < j) (hj : j ≤ T.length) :
    rangeThen (T.map Prod.fst) (done (T.map Prod.fst) n l) i j = (startAt (pDone (T.map trip) l) (((T.map trip).drop i).take (j - i))).map fun p => (p, p + (j - i)) := by
  have hlen : (((T.map trip).drop i).take (j - i)).length = j - i := by simp; omega
  unfold rangeThen startAt
  dsimp only
  rw [hlen, ← gDone_trip T n l, ← gDone_fst, List.length_map, List.length_map, List.range_succ, List.find?_append]
  have hlast : [(gDone T n l).length].find? (fun p => (List.map (fun x : Token => x.id) (((List.map Prod.fst (gDone T n l)).drop p).take (j - i)) == List.map (fun x : Token => x.id) (((List.map Prod.fst T).drop i).take (j - i)))) = none := by
    rw [List.find?_eq_none]
    intro p hp
    rw [List.mem_singleton.mp hp]
    intro h
    have h := congrArg List.length (eq_of_beq h)
    simp at h
    omega
  rw [hlast, Option.or_none]
  congr 1
  refine find_ext fun p _ => ?_
  rw [Bool.eq_iff_iff, beq_iff_eq, decide_eq_true_eq]
  have := rows_alike (key_both (n := n) G hu hn) (((gDone T n l).drop p).take (j - i)) ((T.drop i).take (j - i)) (fun x hx => List.mem_append_right _ (List.mem_of_mem_drop (List.mem_of_mem_take hx))) (fun x hx => List.mem_append_left _ (List.mem_of_mem_drop (List.mem_of_mem_take hx)))
    (fun x hx y hy e => (id_both hnd hlt F I y (List.mem_of_mem_drop (List.mem_of_mem_take hy)) x (List.mem_of_mem_drop (List.mem_of_mem_take hx)) e.symm).symm)
  simp only [List.map_take, List.map_drop, List.map_map] at this ⊢
  exact this
end
def comp (c s : List (Nat × Ask)) : Bool := s.all fun y => c.all fun z => !clash y.2 z.2
def grow (L : List (List (Nat × Ask))) (x : Nat × Ask) : List (List (Nat × Ask)) := L.flatMap fun c => (if apart x.2 c = true then [c ++ [x]] else []) ++ [c]
theorem comp_snoc (c s : List (Nat × Ask)) (x : Nat × Ask) : comp (c ++ [x]) s = (comp c s && apart x.2 s) := by
  unfold comp apart
  rw [Bool.eq_iff_iff]
  simp only [List.all_eq_true, Bool.and_eq_true, List.mem_append, List.mem_singleton, Bool.not_eq_true']
  constructor
  · intro h
    refine ⟨fun y hy z hz => h y hy z (.inl hz), fun y hy => ?_⟩
    rw [clash_symm]
    exact h y hy x (.inr rfl)
  · rintro ⟨h1, h2⟩ y hy z (hz | rfl)
    · exact h1 y hy z hz
    · rw [clash_symm]
      exact h2 y hy
theorem comp_cons (c s : List (Nat × Ask)) (x : Nat × Ask) : comp c (x :: s) = (apart x.2 c && comp c s) := by
  unfold comp apart
  rw [List.all_cons]
def ext (l : List (Nat × Ask)) (c : List (Nat × Ask)) : List (List (Nat × Ask)) := ((sets l).filter (comp c)).map (c ++ ·)
theorem ext_cons (x : Nat × Ask) (l : List (Nat × Ask)) (c : List (Nat × Ask)) : ext (x :: l) c = ((if apart x.2 c = true then [c ++ [x]] else []) ++ [c]).flatMap (ext l) := by
  unfold ext
  show (((((sets l).filter fun s => apart x.2 s).map fun s => x :: s) ++ sets l).filter (comp c)).map (c ++ ·) = _
  rw [List.filter_append, List.map_append, List.flatMap_append, List.flatMap_cons, List.flatMap_nil, List.append_nil]
  congr 1
  rw [List.filter_map, List.map_map, List.filter_filter]
  by_cases h : apart x.2 c = true
  · rw [if_pos h, List.flatMap_cons, List.flatMap_nil, List.append_nil]
    have e1 : (fun a => (comp c ∘ fun s => x :: s) a && apart x.2 a) = comp (c ++ [x]) := by
      funext s
      show (comp c (x :: s) && apart x.2 s) = _
      rw [comp_cons, h, Bool.true_and, comp_snoc]
    rw [e1]
    congr 1
    funext s
    show c ++ x :: s = c ++ [x] ++ s
    rw [List.append_assoc]
    rfl
  · rw [if_neg h, List.flatMap_nil]
    have e1 : (fun a => (comp c ∘ fun s => x :: s) a && apart x.2 a) = fun _ => false := by
      funext s
      show (comp c (x :: s) && apart x.2 s) = _
      rw [comp_cons]
      cases e : apart x.2 c with
      | true => exact absurd e h
      | false => rfl
    rw [e1]
    simp
theorem grow_all : ∀ (l : List (Nat × Ask)) (A : List (List (Nat × Ask))), l.foldl grow A = A.flatMap (ext l)
  | [], A => by
    have : ext [] = fun c => [c] := by
      funext c
      simp [ext, sets, comp]
    rw [this]
    simp
  | x :: l, A => by
    rw [List.foldl_cons, grow_all l]
    unfold grow
    rw [List.flatMap_assoc]
    congr 1
    funext c
    exact (ext_cons x l c).symm
theorem grow_sets (l : List (Nat × Ask)) : l.foldl grow [[]] = sets l := by
  rw [grow_all]
  unfold ext
  rw [List.flatMap_cons, List.flatMap_nil, List.append_nil]
  have : comp [] = fun _ => true := by
    funext s
    unfold comp
    simp
  rw [this]
  simp
theorem grow_snoc (l : List (Nat × Ask)) (x : Nat × Ask) : (l ++ [x]).foldl grow [[]] = grow (l.foldl grow [[]]) x := by
  rw [List.foldl_append]
  rfl
theorem sets_length : ∀ (l : List (Nat × Ask)), (sets l).length ≤ 2 ^ l.length
  | [] => by simp [sets]
  | x :: l => by
    have := sets_length l
    show (((sets l).filter fun s => apart x.2 s).map (fun s => x :: s) ++ sets l).length ≤ _
    rw [List.length_append, List.length_map, List.length_cons, Nat.pow_succ]
    have := List.length_filter_le (fun s => apart x.2 s) (sets l)
    omega
def pick (w : List (Nat × Ask) → Nat) (L : List (List (Nat × Ask))) (b : List (Nat × Ask)) : List (Nat × Ask) := L.foldl (fun b s => if w b < w s then s else b) b
theorem best_pick (w : List (Nat × Ask) → Nat) : ∀ (L : List (List (Nat × Ask))) (b : List (Nat × Ask)), best w L (some (w b, b)) = some (w (pick w L b), pick w L b)
  | [], b => rfl
  | s :: L, b => by
    have e : best w (s :: L) (some (w b, b)) = best w L (if w b < w s then some (w s, s) else some (w b, b)) := rfl
    rw [e]
    show _ = some (w (pick w L (if w b < w s then s else b)), pick w L (if w b < w s then s else b))
    split
    · exact best_pick w L s
    · exact best_pick w L b
theorem weight_nil (w : List Nat) (marks : List Mark) : weightOf w marks [] = 0 := rfl
theorem weight_pos {w : List Nat} {marks : List Mark} {s : List (Nat × Ask)} (h : ∀ x ∈ s, 1 ≤ w.getD (((marks[x.1]?).map fun m => m.reader).getD 0) 0) (e : weightOf w marks s = 0) : s = [] := by
  cases s with
  | nil => rfl
  | cons x s =>
    have h1 := h x List.mem_cons_self
    unfold weightOf at e
    rw [List.map_cons, List.foldr_cons] at e
    omega
theorem chosen_pick {w : List Nat} {marks : List Mark} (h : ∀ x ∈ opens marks, 1 ≤ w.getD (((marks[x.1]?).map fun m => m.reader).getD 0) 0) : chosen w marks = pick (weightOf w marks) (sets (opens marks)) [] := by
  have e : chosen w marks = ((best (weightOf w marks) (sets (opens marks)) none).map fun x => x.2).getD [] := rfl
  rw [e]
  cases hs : sets (opens marks) with
  | nil => exact absurd hs (sets_ne _)
  | cons s L =>
    have e1 : best (weightOf w marks) (s :: L) none = best (weightOf w marks) L (some (weightOf w marks s, s)) := rfl
    rw [e1, best_pick]
    show pick (weightOf w marks) L s = pick (weightOf w marks) L (if weightOf w marks [] < weightOf w marks s then s else [])
    congr 1
    rw [weight_nil]
    split
    · rfl
    · rename_i h0
      refine weight_pos (fun x hx => h x ?_) (by omega)
      exact (sets_sub (by rw [hs]; exact List.mem_cons_self)).subset hx
end Pm
namespace Pm
open Si42
def askAt (marks : List Mark) (k : Nat) : Option Ask := match marks[k]? with
  | some m => (match m.stand with
    | .open_ a => some a
    | _ => none)
  | none => none
theorem askAt_some {marks : List Mark} {k : Nat} {a : Ask} : askAt marks k = some a ↔ ∃ m, marks[k]? = some m ∧ m.stand = .open_ a := by
  unfold askAt
  constructor
  · intro h
    split at h
    · rename_i m hm
      split at h
      · rename_i b hb
        cases h
        exact ⟨m, hm, hb⟩
      · cases h
    · cases h
  · rintro ⟨m, h1, h2⟩
    rw [h1]
    dsimp only
    rw [h2]
theorem opens_fst (marks : List Mark) : (opens marks).map Prod.fst = (List.range marks.length).filter fun k => (askAt marks k).isSome := by
  have gen : ∀ (l pre : List Mark), (List.filterMap (fun x : Mark × Nat => match x.1.stand with
      | .open_ a => some (x.2, a)
      | _ => none) (l.zipIdx pre.length)).map Prod.fst = (List.range' pre.length l.length).filter fun k => (askAt (pre ++ l) k).isSome := by
    intro l
    induction l with
    | nil => intro pre; rfl
    | cons m l ih =>
      intro pre
      have ih := ih (pre ++ [m])
      rw [List.length_append, List.length_singleton, List.append_assoc] at ih
      have hat : askAt (pre ++ m :: l) pre.length = match m.stand with
        | .open_ a => some a
        | _ => none := by
        unfold askAt
        have : (pre ++ m :: l)[pre.length]? = some m := by simp
        rw [this]
      rw [List.zipIdx_cons, List.length_cons, List.range'_succ, List.filter_cons, hat]
      cases hs : m.stand with
      | open_ a =>
        dsimp only
        rw [Option.isSome_some, if_pos rfl, List.filterMap_cons, hs]
        dsimp only
        rw [List.map_cons]
        congr 1
      | done p => dsimp only; rw [if_neg (by simp), List.filterMap_cons, hs]; exact ih
      | lost p => dsimp only; rw [if_neg (by simp), List.filterMap_cons, hs]; exact ih
      | withdrawn => dsimp only; rw [if_neg (by simp), List.filterMap_cons, hs]; exact ih
  have h := gen marks []
  rw [List.length_nil, List.nil_append] at h
  refine Eq.trans h ?_
  rw [List.range_eq_range']
theorem mem_opens2 {marks : List Mark} {x : Nat × Ask} : x ∈ opens marks ↔ askAt marks x.1 = some x.2 := by
  rw [askAt_some]
  exact mem_opens (i := x.1) (a := x.2)
theorem opens_uniq {marks : List Mark} {x y : Nat × Ask} (hx : x ∈ opens marks) (hy : y ∈ opens marks) (e : x.1 = y.1) : x = y := by
  have h1 := mem_opens2.mp hx
  have h2 := mem_opens2.mp hy
  rw [e, h2] at h1
  obtain ⟨a, b⟩ := x
  obtain ⟨c, d⟩ := y
  dsimp only at e h1
  rw [e, Option.some.inj h1]
theorem opens_nd (marks : List Mark) : ((opens marks).map Prod.fst).Nodup := by
  rw [opens_fst]
  exact List.Nodup.sublist List.filter_sublist List.nodup_range
theorem opens_find (marks : List Mark) (m : Nat) : ((opens marks).find? fun x => x.1 == m) = (askAt marks m).map fun a => (m, a) := by
  cases h : askAt marks m with
  | none =>
    rw [Option.map_none, List.find?_eq_none]
    intro x hx e
    have e : x.1 = m := eq_of_beq e
    have := mem_opens2.mp hx
    rw [e, h] at this
    cases this
  | some a =>
    rw [Option.map_some]
    have hm : (m, a) ∈ opens marks := mem_opens2.mpr h
    cases hf : (opens marks).find? fun x => x.1 == m with
    | none =>
      have := List.find?_eq_none.mp hf _ hm
      simp at this
    | some y =>
      have h1 := List.mem_of_find?_eq_some hf
      have h2 := List.find?_some hf
      rw [opens_uniq h1 hm (eq_of_beq h2)]
theorem mapM_none (marks : List Mark) : ∀ (l : List Nat), (l.mapM fun m => ((opens marks).find? fun x => x.1 == m)) = none ↔ (l.all fun m => (askAt marks m).isSome) = false
  | [] => by simp
  | m :: l => by
    have ih := mapM_none marks l
    rw [List.mapM_cons, opens_find, List.all_cons]
    cases h : askAt marks m with
    | none => simp
    | some a =>
      simp only [Option.map_some, Option.isSome_some, Bool.true_and]
      rw [← ih]
      show (Option.bind (some (m, a)) _) = none ↔ _
      rw [Option.bind_some]
      cases hl : (l.mapM fun m => ((opens marks).find? fun x => x.1 == m)) with
      | none => simp
      | some o => simp
theorem mapM_some (marks : List Mark) : ∀ {l : List Nat} {o : List (Nat × Ask)}, (l.mapM fun m => ((opens marks).find? fun x => x.1 == m)) = some o → o.map Prod.fst = l ∧ ∀ x ∈ o, x ∈ opens marks
  | [], o, h => by
    rw [List.mapM_nil] at h
    cases h
    exact ⟨rfl, fun x hx => by cases hx⟩
  | m :: l, o, h => by
    rw [List.mapM_cons, opens_find] at h
    cases ha : askAt marks m with
    | none => rw [ha] at h; cases h
    | some a =>
      rw [ha] at h
      cases hl : (l.mapM fun m => ((opens marks).find? fun x => x.1 == m)) with
      | none => rw [hl] at h; cases h
      | some o' =>
        rw [hl] at h
        cases h
        obtain ⟨h1, h2⟩ := mapM_some marks hl
        refine ⟨by rw [List.map_cons, h1], fun x hx => ?_⟩
        rcases List.mem_cons.mp hx with rfl | hx
        · exact mem_opens2.mpr ha
        · exact h2 x hx
def pairsOf (o : List (Nat × Ask)) : List (Nat × Nat) := o.flatMap fun x => (o.filter fun y => decide (x.1 < y.1) && clash x.2 y.2).map fun y => (x.1, y.1)
theorem pairs_nil {o : List (Nat × Ask)} (hu : ∀ x ∈ o, ∀ y ∈ o, x.1 = y.1 → x = y) : pairsOf o = [] ↔ (o.all fun x => apart x.2 o) = true := by
  unfold pairsOf apart
  rw [List.flatMap_eq_nil_iff]
  simp only [List.all_eq_true, Bool.not_eq_true', List.map_eq_nil_iff, List.filter_eq_nil_iff, Bool.and_eq_true, decide_eq_true_eq]
  constructor
  · intro h x hx y hy
    cases hc : clash x.2 y.2 with
    | false => rfl
    | true =>
      rcases Nat.lt_trichotomy x.1 y.1 with hl | he | hl
      · exact absurd ⟨hl, hc⟩ (h x hx y hy)
      · rw [hu x hx y hy he, clash_self] at hc
        cases hc
      · rw [clash_symm] at hc
        exact absurd ⟨hl, hc⟩ (h y hy x hx)
  · rintro h x hx y hy ⟨_, hc⟩
    rw [h x hx y hy] at hc
    cases hc
theorem free_all {o : List (Nat × Ask)} (h : (o.all fun x => apart x.2 o) = true) : Free o := fun x hx y hy => by
  have h1 := List.all_eq_true.mp h x hx
  unfold apart at h1
  have h2 := List.all_eq_true.mp h1 y hy
  simpa using h2
def marksAfter (s : St) (dn : List Nat) : List Mark := s.marks.zipIdx.map fun x => if x.2 ∈ dn then markThen s x.2 x.1 else x.1
theorem after_at (s : St) (dn : List Nat) (k : Nat) : (marksAfter s dn)[k]? = (s.marks[k]?).map fun m => if k ∈ dn then markThen s k m else m := by
  unfold marksAfter
  rw [List.getElem?_map, List.getElem?_zipIdx]
  cases s.marks[k]? with
  | none => rfl
  | some m => simp
theorem after_nil (s : St) : marksAfter s [] = s.marks := by
  apply List.ext_getElem?
  intro k
  rw [after_at]
  cases s.marks[k]? <;> simp
theorem after_length (s : St) (dn : List Nat) : (marksAfter s dn).length = s.marks.length := by
  unfold marksAfter
  rw [List.length_map, List.length_zipIdx]
theorem after_same {s : St} {dn : List Nat} {k : Nat} (h : k ∉ dn) : (marksAfter s dn)[k]? = s.marks[k]? := by
  rw [after_at]
  cases s.marks[k]? with
  | none => rfl
  | some m => simp [h]
theorem after_step {s : St} {dn : List Nat} {k : Nat} {m0 : Mark} (h0 : s.marks[k]? = some m0) : marksAfter s (dn ++ [k]) = (marksAfter s dn).set k (markThen s k m0) := by
  apply List.ext_getElem?
  intro j
  rw [after_at, List.getElem?_set, after_length, after_at]
  by_cases e : k = j
  · subst e
    rw [if_pos rfl, if_pos (List.getElem?_eq_some_iff.mp h0).1, h0]
    simp
  · rw [if_neg e]
    have : (j ∈ dn ++ [k]) ↔ j ∈ dn := by
      rw [List.mem_append, List.mem_singleton]
      exact ⟨fun h => h.elim id fun z => absurd z.symm e, .inl⟩
    cases s.marks[j]? with
    | none => rfl
    | some m => simp only [Option.map_some, this]
theorem after_all (s : St) : marksAfter s ((opens s.marks).map Prod.fst) = (carried s).marks := by
  rw [carried_marks]
  unfold marksAfter
  apply List.map_congr_left
  rintro ⟨m, k⟩ hx
  have hk := List.mem_zipIdx_iff_getElem?.mp hx
  dsimp only at hk ⊢
  split
  · rfl
  · rename_i hn
    unfold markThen
    cases hs : m.stand with
    | open_ a => exact absurd (List.mem_map.mpr ⟨(k, a), mem_opens.mpr ⟨m, hk, hs⟩, rfl⟩) hn
    | done p => rfl
    | lost p => rfl
    | withdrawn => rfl
def pGone (T : List GT) (l : List (Nat × Ask)) : List (Nat × Nat) := T.zipIdx.filterMap fun x => match takeAt l x.2 with
  | some y => if isCh y.2 = true ∧ x.1.1.by_ = none then some (x.1.2, y.1) else none
  | none => none
theorem filter_fm {α β : Type} (f : α → Option β) (p : β → Bool) : ∀ (l : List α), (l.filterMap f).filter p = l.filterMap fun x => (f x).filter p
  | [] => rfl
  | x :: l => by
    rw [List.filterMap_cons, List.filterMap_cons]
    cases h : f x with
    | none =>
      dsimp only [Option.filter]
      exact filter_fm f p l
    | some b =>
      dsimp only
      rw [List.filter_cons]
      cases hp : p b with
      | true => rw [Option.filter_some, hp]; simp [filter_fm f p l]
      | false => rw [Option.filter_some, hp]; simp [filter_fm f p l]
theorem fm_ext {α β : Type} {f g : α → Option β} : ∀ {l : List α}, (∀ x ∈ l, f x = g x) → l.filterMap f = l.filterMap g
  | [], _ => rfl
  | x :: l, h => by
    rw [List.filterMap_cons, List.filterMap_cons, h x List.mem_cons_self, fm_ext fun y hy => h y (List.mem_cons_of_mem _ hy)]
theorem gone_is {s : St} {T : List GT} {l : List (Nat × Ask)} (hT : T.map Prod.fst = s.text) (G : GInv T) (F : Free l) (bn : ∀ x ∈ s.text, (x.by_ = none ↔ x.id < s.first.length)) :
    (s.text.zipIdx.filterMap fun x => (takerOf (once l) x.2).map fun m => (x.1.id, m)).filter (fun x => decide (x.1 < s.first.length)) = pGone T l := by
  rw [filter_fm, ← hT]
  have e : (T.map Prod.fst).zipIdx = T.zipIdx.map fun x => (x.1.1, x.2) := by
    rw [List.zipIdx_map]
    rfl
  rw [e, List.filterMap_map]
  unfold pGone
  refine fm_ext ?_
  rintro ⟨x, k⟩ hx
  have hk := List.mem_of_getElem? (List.mem_zipIdx_iff_getElem?.mp hx)
  have hb := bn x.1 (by rw [← hT]; exact List.mem_map.mpr ⟨x, hk, rfl⟩)
  have ho := G.org x hk
  dsimp only [Function.comp]
  rw [taker_first F]
  cases ht : takeAt l k with
  | none => rfl
  | some y =>
    dsimp only
    by_cases hc : isCh y.2 = true
    · rw [if_pos hc, Option.map_some, Option.filter_some]
      by_cases hby : x.1.by_ = none
      · rw [if_pos (by simpa using hb.mp hby), if_pos ⟨hc, hby⟩, ho hby]
      · rw [if_neg (by simpa using fun z => hby (hb.mpr z)), if_neg fun z => hby z.2]
    · rw [if_neg hc, if_neg fun z => hc z.1]
      rfl
end Pm
namespace Pm
open PySem PySem.Spec PyProof.Rows L2
section
variable {K : PySem.W.Frag} {σ : L2.St} {H : Hp} {Q : VK} {X : Cx}
def ixT : R2 := fun x y H Q => ∃ p xs i v, x = .ref p ∧ y = .int i ∧ H p = some (.tup xs) ∧ atI xs i = some v ∧ Q v H
theorem ix_tp : IxR X ixT := by
  intro value slice pins s σ H x y v u Q I rx ry h e
  obtain ⟨p, xs, i, v', e1, e2, h, a, q⟩ := h
  exact ix_tup value slice pins s σ H x y v u Q I rx ry ⟨p, xs, i, v', e1, e2, SqT.of h, a, q⟩ e
theorem ixT_of {p : Addr} {xs : List V} (h : H p = some (.tup xs)) {i : Int} : ixT (.ref p) (.int i) H Q = ixV xs i fun v => Q v H := by
  apply propext
  constructor
  · rintro ⟨p', xs', i', v, e1, e2, h', a, q⟩
    cases e1
    cases e2
    rw [h] at h'
    cases h'
    exact ⟨v, a, q⟩
  · rintro ⟨v, a, q⟩
    exact ⟨p, xs, i, v, rfl, rfl, h, a, q⟩
theorem extend_tup (l : Addr) (items : Array Value) (n : Nat) (b : Addr) (items2 : Array Value) (n2 : Nat) (d2 : Option Addr) (sl2 : Array (Option Value)) (hs0 : ¬(!items.isEmpty && Builtin.List.listTooLong (items.size + items2.size)) = true) (hs1 : items.size ≤ sizeLine) (hs2 : items.size + items2.size ≤ sizeLine + 1) :
    Meets (Builtin.«list.extend» ⟨[.ref l, .ref b], []⟩) (fun _ R s => s.heap.get? l = some { cls := .type "list", dict := none, data := .seq items n, slots := #[] } ∧ s.heap.get? b = some { cls := .type "tuple", dict := d2, data := .seq items2 n2, slots := sl2 } ∧ R (.ok (.ret Value.none)) { s with heap := s.heap.update l (Obj.mapSeq fun x => x ++ items2), toks := s.toks }) :=
  .of_wp fun prog w A R s hyp => by
    obtain ⟨hp, gn, dr, tk, os⟩ := s
    obtain ⟨hfst, hsnd, hyp⟩ := hyp
    have f1 := PySem.AutoSeq1.idx_int
    have f2 := PySem.AutoSeq1.sub_tuple_tuple
    have f3 := PySem.AutoSeq1.sub_list_list
    have f4 := PySem.AutoSeq1.sub_tuple_list
    have f5 := PySem.AutoSeq1.sub_list_tuple
    have hz' : (items ++ items2).size ≤ sizeLine + 1 := by rw [Array.size_append]; exact hs2
    wp_walk using (wpAny_updateSeq hfst rfl (hz := hs1) (_hz' := hz')), PySem.AutoSeq1.wpAny_loadPart' hfst, PySem.AutoSeq1.wpAny_loadPart' hsnd
    exact ⟨_, rfl, hyp⟩
def rExtT : V → List V → Hp → VK → Prop := fun x vs H Q => ∃ l b xs zs, x = .ref l ∧ vs = [.ref b] ∧ H l = some (.lst xs) ∧ H b = some (.tup zs) ∧ xs.length + zs.length ≤ sizeLine ∧ Q .non (upd H l (.lst (xs ++ zs)))
theorem mt_extendT : MtM X "list.extend" rExtT := by
  intro pins s σ H x vs v us Q I rx rv h
  obtain ⟨l, b, xs, zs, rfl, rfl, hH, hB, hz, q⟩ := h
  cases rx
  obtain ⟨u, rfl, ru⟩ := rv.one
  cases ru
  obtain ⟨z, its, n, r, hl, e⟩ := I.lstM hH
  obtain ⟨z2, its2, r2, o2, e2, c2, n2, d2⟩ := I.hok b _ hB
  obtain ⟨oc, od, odata, osl⟩ := o2
  dsimp only at c2 d2
  subst c2 d2
  have hl2 : zs.length = its2.length := r2.length
  have hsz : its.toArray.size + its2.toArray.size ≤ sizeLine := by rw [List.size_toArray, List.size_toArray]; omega
  have hlong : ¬ (!its.toArray.isEmpty && Builtin.List.listTooLong (its.toArray.size + its2.toArray.size)) = true := by
    rw [notLongL hsz, Bool.and_false]
    exact Bool.false_ne_true
  refine call_meets F.slot_list_extend ⟨_, e, rfl⟩ F.entry_list_extend (F.args_list_extend_2 _ _)
    (extend_tup l its.toArray n b its2.toArray n2 _ _ hlong (by rw [List.size_toArray]; omega) (by omega)) ⟨e, e2, ?_⟩
  refine ⟨.non, _, I.lset (its' := its ++ its2) hH e (by simp) (r.append r2) ?_, rfl, q⟩
  rw [List.length_append]
  omega
def tDSetd (td ty tx : TE) : TE := fun σ H Q => td σ H fun x H1 => ∃ a, x = .ref a ∧ IsD H1 a ∧ ty σ H1 fun y H2 => tx σ H2 fun z H3 => ∃ kvs k, H3 a = some (.dK kvs) ∧ y = kV k ∧ kvs.length < sizeLine ∧
  (∀ v, valV kvs k = some v → Q v H3) ∧ (valV kvs k = none → Q z (upd H3 a (.dK (putK kvs k z))))
theorem d_setd {pins : List (Addr × Obj)} {s : Shared} {a : Addr} {kvs : List (Key × V)} {k : Key} {z : V} {u r : Value} {A : Around} {E : Value → Shared → Prop} {Q : Value → Shared → Prop} (I : Inv X pins σ H s) (e : H a = some (.dK kvs)) (ry : RelV (kV k) u) (rz : RelV z r) (hl : kvs.length < sizeLine)
    (h1 : ∀ v w' s', valV kvs k = some v → Inv X pins σ H s' → RelV v w' → Q w' s') (h2 : ∀ s', valV kvs k = none → Inv X pins σ (upd H a (.dK (putK kvs k z))) s' → Q r s') : wpAny (model X.prog X.w) A (call (.builtin "dict.setdefault") [.ref a, u, r]) Q E s := by
  obtain ⟨zz, hd, vs, rel, dd⟩ := dk_of I.hok e
  refine call_meetsIn PySem.F.slot_dict_setdefault dd.typeIs PySem.F.entry_dict_setdefault (PySem.F.args_dict_setdefault_3 _ _ _) (kt_meets_setdefault (mixKind X.prog X.w) a (kV_is ry) hd r)
    ⟨vs, dd, by rw [← rel.length]; exact zz, fun v' hv => ?_, fun hn h' dd' hs => ?_⟩
  · have hr := rel.val k
    rw [hv] at hr
    cases hv2 : valV kvs k with
    | none => rw [hv2] at hr; exact hr.elim
    | some v => rw [hv2] at hr; exact h1 v v' _ hv2 (I.tok _) hr
  · have hr := rel.val k
    rw [hn] at hr
    cases hv2 : valV kvs k with
    | some v => rw [hv2] at hr; exact hr.elim
    | none =>
      refine h2 _ hv2 ?_
      have he : ∃ q, h'.get? a = some q := let ⟨q, _, _, hq, _⟩ := dd'; ⟨q, hq⟩
      have hl2 : (putK kvs k z).length ≤ sizeLine := by have := length_putK kvs k z; omega
      exact d_write I (by rw [e]; exact True.intro) hs he (dk_new hl2 hd (rel.put k rz) dd')
theorem pe_dsetd {o e f : Expr} {apos cpos : Pos} {td ty tx : TE} (ho : PE X o td) (he : PE X e ty) (hf : PE X f tx) (m : M2 X o "setdefault" apos e f cpos) : PE X (.Call (.Attribute o "setdefault" apos) [e, f] [] cpos) (tDSetd td ty tx) := by
  intro pins s σ H Q I h
  refine wpAny_Call_method m.base m.few m.line PySem.F.plainAttrs_dict PySem.F.slot_dict_setdefault PySem.F.type_dict_setdefault (thn (ho pins s σ H _ I h) fun u s1 ⟨x, H1, I1, rx, a, ex, d, q1⟩ => ?_)
  subst ex
  obtain rfl : u = Value.ref a := rx
  obtain ⟨t1, t2, _⟩ := isD_at I1 d
  refine ⟨t1, t2, ?_⟩
  rw [m.trees]
  refine Calls.callWith_builtin rfl (Calls.evalArgs_plain (Calls.spliced_cons (thn (he pins s1 σ H1 _ I1 q1) fun iv s2 ⟨y, H2, I2, ry, q2⟩ =>
    Calls.spliced_cons (thn (hf pins s2 σ H2 _ I2 q2) fun fv s3 ⟨z, H3, I3, rz, kvs, k, ea, ey, hl, q3, q4⟩ => Calls.spliced_nil ?_))))
  subst ey
  exact d_setd I3 ea ry rz hl (fun v w' s4 hv I4 rw' => ⟨v, H3, I4, rw', q3 v hv⟩) fun s4 hv I4 => ⟨z, _, I4, rz, q4 hv⟩
def triV (x : Tri) : List V := [.int x.1, .int x.2.1, .int x.2.2]
def triD (x : Tri) : PyData := .tuple [.int x.1, .int x.2.1, .int x.2.2]
abbrev Tups (H : Hp) : List Addr → List Tri → Prop := Paired fun a x => H a = some (.tup (triV x))
theorem dpAll_tups : ∀ {as : List Addr} {xs : List Tri}, Tups H as xs → DpAll K H (as.map V.ref) (xs.map triD)
  | _, _, .nil => .nil
  | _, _, .cons h t => .cons (.tup (SqT.of h) (.cons (.int _) (.cons (.int _) (.cons (.int _) .nil)))) (dpAll_tups t)
theorem canLay_tups : ∀ xs : List Tri, PyData.canLayAll0 (xs.map triD) = true
  | [] => by simp [PyData.canLayAll0]
  | n :: r => by simp [PyData.canLayAll0, PyData.canLay0, triD, canLay_tups r]
theorem depth_tups : ∀ xs : List Tri, PyData.depthAll (xs.map triD) ≤ 2
  | [] => by simp [PyData.depthAll]
  | n :: r => by
    have := depth_tups r
    simp only [List.map_cons, triD, PyData.depthAll, PyData.depth]
    omega
theorem shaped_tups (xs : List Tri) : SeqAt.shaped (.list (xs.map triD)) = true := by
  have h1 := depth_tups xs
  have h2 : PyData.depth (.list (xs.map triD)) ≤ 64 := by simp only [PyData.depth]; omega
  show (PyData.canLay0 (.list (xs.map triD)) && decide (PyData.depth (.list (xs.map triD)) ≤ 64)) = true
  rw [Bool.and_eq_true]
  exact ⟨by simp only [PyData.canLay0]; exact canLay_tups xs, decide_eq_true h2⟩
theorem eqvAll_tups : ∀ xs ys : List Tri, PyData.eqvAll (xs.map triD) (ys.map triD) = decide (xs = ys)
  | [], [] => by simp [PyData.eqvAll]
  | [], _ :: _ => by simp [PyData.eqvAll]
  | _ :: _, [] => by simp [PyData.eqvAll]
  | (a, b, c) :: r, (a', b', c') :: q => by
    have ih := eqvAll_tups r q
    rw [List.map_cons, List.map_cons, PyData.eqvAll, ih]
    simp only [triD, PyData.eqvAll, PyData.eqv]
    rw [Bool.eq_iff_iff]
    simp only [Bool.and_eq_true, beq_iff_eq, decide_eq_true_eq, List.cons.injEq, Prod.mk.injEq, and_true]
def eqTR : R2 := fun x y H Q => ∃ l l' as bs xs ys, x = .ref l ∧ y = .ref l' ∧ Ls H l (as.map V.ref) ∧ Ls H l' (bs.map V.ref) ∧ Tups H as xs ∧ Tups H bs ys ∧ Q (.bl (decide (xs = ys))) H
theorem op_eqT (hu : X.A.units + 64 < cLine) : OpR X (compareOp .Eq) eqTR := by
  intro pins s σ H x y v u Q I rx ry h
  obtain ⟨l, l', as, bs, xs, ys, e1, e2, h1, h2, t1, t2, q⟩ := h
  subst e1
  subst e2
  refine op_eqD hu pins s σ H _ _ v u Q I rx ry ⟨_, _, .lst h1.sq (dpAll_tups t1), .lst h2.sq (dpAll_tups t2), shaped_tups xs, shaped_tups ys, ?_⟩
  have e : PyData.eqv (.list (xs.map triD)) (.list (ys.map triD)) = decide (xs = ys) := by
    simp only [PyData.eqv]
    exact eqvAll_tups xs ys
  rw [e]
  exact q
theorem inV_nats (k : Nat) : ∀ l : List Nat, inV (.int k) (natsV l) = decide (k ∈ l)
  | [] => rfl
  | n :: l => by
    have ih := inV_nats k l
    unfold inV at ih ⊢
    show (eqV (.int n) (.int k) || (natsV l).any fun y => eqV y (.int k)) = _
    rw [ih]
    have e : eqV (.int n) (.int k) = decide (k = n) := by
      unfold eqV
      rw [Bool.eq_iff_iff]
      simp only [beq_iff_eq, decide_eq_true_eq]
      omega
    rw [e, Bool.eq_iff_iff]
    simp
theorem flat_nats : ∀ l : List Nat, (natsV l).all flatV = true
  | [] => rfl
  | n :: l => by
    show (flatV (.int n) && (natsV l).all flatV) = true
    rw [flat_nats l]
    rfl
def inR : R2 := fun x y H Q => ∃ (k : Nat) (p : Addr) (l : List Nat), x = .int k ∧ y = .ref p ∧ Ls H p (natsV l) ∧ Q (.bl (decide (k ∈ l))) H
theorem op_inI : OpR X (compareOp .In) inR := by
  intro pins s σ H x y v u Q I rx ry h
  obtain ⟨k, p, l, e1, e2, h, q⟩ := h
  subst e1
  subst e2
  refine op_in_seq pins s σ H _ _ v u Q I rx ry ⟨p, natsV l, rfl, .inl h.sq, rfl, flat_nats l, ?_⟩
  rw [inV_nats]
  exact q
theorem setL_of {p : Addr} {xs : List V} {i : Nat} {v : V} {q : Hp → Prop} (h : H p = some (.lst xs)) (hi : i < xs.length) (k : q (upd H p (.lst (xs.set i v)))) : rSetL (.ref p) (.int i) v H q :=
  ⟨p, xs, i, i, rfl, rfl, h, by unfold ixN; simp; omega, k⟩
theorem pr_get {α β : Type} {F : α → β → Prop} : ∀ {as : List α} {xs : List β} {i : Nat} {x : β}, Paired F as xs → xs[i]? = some x → ∃ a, as[i]? = some a ∧ F a x
  | _, _, _, _, .nil, h => by cases h
  | a :: _, _, 0, _, .cons r t, h => ⟨a, rfl, by rw [List.getElem?_cons_zero] at h; cases h; exact r⟩
  | _, _, i + 1, _, .cons r t, h => by
    rw [List.getElem?_cons_succ] at h
    obtain ⟨a, h1, h2⟩ := pr_get t h
    exact ⟨a, by rw [List.getElem?_cons_succ]; exact h1, h2⟩
theorem pr_take {α β : Type} {F : α → β → Prop} : ∀ {as : List α} {xs : List β} (n : Nat), Paired F as xs → Paired F (as.take n) (xs.take n)
  | _, _, 0, _ => by rw [List.take_zero, List.take_zero]; exact .nil
  | _, _, n + 1, .nil => by rw [List.take_nil, List.take_nil]; exact .nil
  | _, _, n + 1, .cons r t => by rw [List.take_succ_cons, List.take_succ_cons]; exact .cons r (pr_take n t)
theorem pr_drop {α β : Type} {F : α → β → Prop} : ∀ {as : List α} {xs : List β} (n : Nat), Paired F as xs → Paired F (as.drop n) (xs.drop n)
  | _, _, 0, h => by rw [List.drop_zero, List.drop_zero]; exact h
  | _, _, n + 1, .nil => by rw [List.drop_nil, List.drop_nil]; exact .nil
  | _, _, n + 1, .cons r t => by rw [List.drop_succ_cons, List.drop_succ_cons]; exact pr_drop n t
theorem pr_app {α β : Type} {F : α → β → Prop} : ∀ {as bs : List α} {xs ys : List β}, Paired F as xs → Paired F bs ys → Paired F (as ++ bs) (xs ++ ys)
  | _, _, _, _, .nil, h => h
  | _, _, _, _, .cons r t, h => .cons r (pr_app t h)
theorem pr_mem {α β : Type} {F : α → β → Prop} : ∀ {as : List α} {xs : List β} {a : α}, Paired F as xs → a ∈ as → ∃ x, x ∈ xs ∧ F a x
  | _, _, _, .nil, h => by cases h
  | _, _, a, .cons r t, h => by
    rcases List.mem_cons.mp h with e | h
    · exact ⟨_, List.mem_cons_self, by rw [e]; exact r⟩
    · obtain ⟨x, h1, h2⟩ := pr_mem t h
      exact ⟨x, List.mem_cons_of_mem _ h1, h2⟩
theorem pr_on {α β : Type} {F G : α → β → Prop} : ∀ {as : List α} {xs : List β}, Paired F as xs → (∀ a ∈ as, ∀ x, F a x → G a x) → Paired G as xs
  | _, _, .nil, _ => .nil
  | _, _, .cons r t, h => .cons (h _ List.mem_cons_self _ r) (pr_on t fun a ha => h a (List.mem_cons_of_mem _ ha))
theorem pr_set {α β : Type} {F : α → β → Prop} {a : α} {x : β} : ∀ {as : List α} {xs : List β} (n : Nat), Paired F as xs → F a x → Paired F (as.set n a) (xs.set n x)
  | _, _, _, .nil, _ => .nil
  | _, _, 0, .cons r t, h => .cons h t
  | _, _, n + 1, .cons r t, h => .cons r (pr_set n t h)
theorem same_upd {H H' : Hp} {D : Addr} {o : HO} (s : Same H H') (h : H D = none) : Same H (upd H' D o) := fun b u e => by
  rw [upd_ne (ne_of_none e h)]
  exact s b u e
theorem fresh_ne {H H' : Hp} {a b : Addr} {o : HO} (s : Same H H') (h : H a = some o) (hb : H' b = none) : a ≠ b := ne_of_none (s _ _ h) hb
theorem fresh_none {H H' : Hp} {b : Addr} (s : Same H H') (hb : H' b = none) : H b = none := by
  cases e : H b with
  | none => rfl
  | some o => rw [s _ _ e] at hb; cases hb
def TxtAt (H : Hp) (l : Addr) (as : List Addr) (P : List Tri) : Prop := H l = some (.lst (as.map V.ref)) ∧ Tups H as P
abbrev Prs (H : Hp) : List Addr → List (Nat × Nat) → Prop := Paired fun a x => H a = some (.tup [.int x.1, .int x.2])
theorem Tups.same {H H' : Hp} {as : List Addr} {P : List Tri} (h : Tups H as P) (s : Same H H') : Tups H' as P := pr_on h fun a _ x e => s _ _ e
theorem Prs.same {H H' : Hp} {as : List Addr} {P : List (Nat × Nat)} (h : Prs H as P) (s : Same H H') : Prs H' as P := pr_on h fun a _ x e => s _ _ e
theorem TxtAt.same {H H' : Hp} {l : Addr} {as : List Addr} {P : List Tri} (h : TxtAt H l as P) (s : Same H H') : TxtAt H' l as P := ⟨s _ _ h.1, Tups.same h.2 s⟩
theorem Tups.length {H : Hp} {as : List Addr} {P : List Tri} (h : Tups H as P) : as.length = P.length := Paired.length h
theorem Tups.ne_lst {H : Hp} {as : List Addr} {P : List Tri} {l : Addr} {xs : List V} (h : Tups H as P) (hl : H l = some (.lst xs)) : ∀ a ∈ as, a ≠ l := fun a ha => by
  obtain ⟨x, _, e⟩ := pr_mem h ha
  exact ne_of e hl (by intro z; cases z)
theorem Prs.ne_lst {H : Hp} {as : List Addr} {P : List (Nat × Nat)} {l : Addr} {xs : List V} (h : Prs H as P) (hl : H l = some (.lst xs)) : ∀ a ∈ as, a ≠ l := fun a ha => by
  obtain ⟨x, _, e⟩ := pr_mem h ha
  exact ne_of e hl (by intro z; cases z)
end
end Pm
namespace Pm
open PySem PySem.Spec PyProof.Rows L2
section
variable {K : PySem.W.Frag} {σ : L2.St} {H : Hp} {g : TG} {tb : TS} {D : Ends}
def forW (J : It) (g : TG) (tb : TS) (D : Ends) (σ : L2.St) (H : Hp) : Prop := ∃ W : Nat → Nat → L2.St → Hp → Prop, (∃ m, W 0 m σ H) ∧ ∀ i m σ H, W i m σ H →
  (J.stop i H ∧ D.nx σ H) ∨ (J.go i H ∧ ∃ N : L2.St → Hp → Prop, (∀ σ' H', N σ' H' → ∃ m', m' < m ∧ W (i + 1) m' σ' H') ∧ ∀ x H', J.yld i H x H' → g x σ H' fun σ2 H2 => tb { D with nx := N, ct := N, bk := D.nx } σ2 H2)
theorem q_for {wi : TI} : tFor wi g tb D σ H = wi σ H fun J H1 => forW J g tb D σ H1 := rfl
theorem for_mapL {α : Type} {a : Addr} {f : α → V} {xs : List α} (Pv : Nat → L2.St → Hp → Prop) (h0 : Pv 0 σ H) (hl : ∀ i σ H, i ≤ xs.length → Pv i σ H → SqL K H a (xs.map f))
    (hs : ∀ i x σ H, xs[i]? = some x → Pv i σ H → g (f x) σ H fun σ2 H2 => tb { D with nx := Pv (i + 1), ct := Pv (i + 1), bk := D.nx } σ2 H2) (hd : ∀ σ H, Pv xs.length σ H → D.nx σ H) : forW (Itl K a) g tb D σ H := by
  refine for_list (xs := xs.map f) Pv h0 (fun i σ H hi p => hl i σ H (by rw [List.length_map] at hi; exact hi) p) (fun i x σ H hx p => ?_) (fun σ H p => hd σ H (by rw [List.length_map] at p; exact p))
  rw [List.getElem?_map] at hx
  cases e : xs[i]? with
  | none => rw [e] at hx; cases hx
  | some y =>
    rw [e] at hx
    cases hx
    exact hs i y σ H e p
theorem for_rng {lo n : Nat} {z : Int} {m : Nat} (ez : z = (lo : Int)) (em : m = n) (Pv : Nat → L2.St → Hp → Prop) (h0 : Pv 0 σ H)
    (hs : ∀ i σ H, i < n → Pv i σ H → g (.int ((lo + i : Nat) : Int)) σ H fun σ2 H2 => tb { D with nx := Pv (i + 1), ct := Pv (i + 1), bk := D.nx } σ2 H2) (hd : ∀ σ H, Pv n σ H → D.nx σ H) : forW (Itr z m) g tb D σ H := by
  subst ez em
  refine for_range (n := m) Pv h0 (fun i σ H hi p => ?_) hd
  have := hs i σ H hi p
  rw [Int.natCast_add] at this
  exact this
theorem for_enum {a : Addr} {xs : List V} (Pv : Nat → L2.St → Hp → Prop) (h0 : Pv 0 σ H) (hl : ∀ i σ H, i ≤ xs.length → Pv i σ H → SqL K H a xs)
    (hs : ∀ i x σ H T, xs[i]? = some x → H T = none → Pv i σ H → g (.ref T) σ (upd H T (.tup [.int (i : Nat), x])) fun σ2 H2 => tb { D with nx := Pv (i + 1), ct := Pv (i + 1), bk := D.nx } σ2 H2) (hd : ∀ σ H, Pv xs.length σ H → D.nx σ H) : forW (Ite K a) g tb D σ H := by
  refine ⟨fun i m σ H => m = xs.length - i ∧ i ≤ xs.length ∧ Pv i σ H, ⟨xs.length, by simp, Nat.zero_le _, h0⟩, ?_⟩
  rintro i m σ H ⟨rfl, hi, p⟩
  have q := hl i σ H hi p
  by_cases hlt : i < xs.length
  · refine .inr ⟨⟨xs, xs[i], q, by simp [hlt]⟩, Pv (i + 1), fun σ' H' p' => ⟨xs.length - (i + 1), by omega, rfl, hlt, p'⟩, fun x H' y => ?_⟩
    obtain ⟨T, x', e1, hT, e2, hx⟩ := y
    subst e1
    subst e2
    exact hs i x' σ _ T (hx xs q) hT p
  · have e : i = xs.length := by omega
    subst e
    exact .inl ⟨⟨xs, q, Nat.le_refl _⟩, hd σ H p⟩
end
section
variable {K : PySem.W.Frag} {σ : L2.St} {H : Hp} {X : Cx}
theorem lc_enumT {α : Type} {ta : TA} {a : Addr} {xs : List α} {f : α → V} {g : TG} {tt : TT} {te : TE} {vs : List Nat} {R : VK} (h : Nat → α → List V) (hta : ∀ B : List V → Hp → Prop, B [.ref a] H → ta σ H B) (hx : Ls H a (xs.map f)) (hl : xs.length ≤ sizeLine)
    (ht : ∀ (j : Nat) (x : α) (H' : Hp) (T D : Addr) (Nx : Hp → Prop), xs[j]? = some x → H' T = none → (∀ H4 t, Same (upd H' T (.tup [.int (j : Nat), f x])) H4 → H4 t = some (.tup (h j x)) → H' t = none → (∀ b, b ≠ t → H4 b = (upd H' T (.tup [.int (j : Nat), f x])) b) → ∃ acc, H4 D = some (.lst acc) ∧ acc.length < sizeLine ∧ Nx (upd H4 D (.lst (acc ++ [.ref t])))) →
      g (.ref T) (wipe σ vs) (upd H' T (.tup [.int (j : Nat), f x])) fun σ2 H2 => wipe σ2 vs = wipe σ vs ∧ tt σ2 H2 fun b H3 => if b = true then te σ2 H3 fun y H4 => ∃ acc, H4 D = some (.lst acc) ∧ acc.length < sizeLine ∧ Nx (upd H4 D (.lst (acc ++ [y]))) else Nx H3)
    (q : ∀ (H' : Hp) (l : Addr) (as : List Addr), Same H H' → H l = none → H' l = some (.lst (as.map V.ref)) → (∀ b ∈ as, H b = none) → Paired (fun b (x : Nat × α) => H' b = some (.tup (h x.1 x.2))) as (xs.zipIdx.map fun x => (x.2, x.1)) → R (.ref l) H') : tLc (iEnum K ta) g tt te vs σ H R := by
  refine hta _ ⟨a, _, rfl, hx.sq, fun D hD => ?_⟩
  let Pv : Nat → Hp → Prop := fun i H' => ∃ as : List Addr, Same H H' ∧ H' D = some (.lst (as.map V.ref)) ∧ (∀ b ∈ as, H b = none) ∧ Paired (fun b (x : Nat × α) => H' b = some (.tup (h x.1 x.2))) as ((xs.zipIdx.map fun x => (x.2, x.1)).take i)
  have hzl : (xs.zipIdx.map fun x => (x.2, x.1)).length = xs.length := by rw [List.length_map, List.length_zipIdx]
  refine ⟨fun i m H' => m = xs.length - i ∧ i ≤ xs.length ∧ Pv i H', ⟨xs.length, by simp, Nat.zero_le _, [], same_new hD, upd_same, fun b hb => absurd hb List.not_mem_nil, by rw [List.take_zero]; exact .nil⟩, ?_⟩
  rintro i m H' ⟨rfl, hi, as, s1, h1, h2, h3⟩
  have hq : SqL K H' a (xs.map f) := (same_ls s1 hx).sq
  by_cases hlt : i < xs.length
  · refine .inr ⟨⟨xs.map f, f xs[i], hq, by simp [hlt]⟩, Pv (i + 1), fun H' p' => ⟨xs.length - (i + 1), by omega, rfl, hlt, p'⟩, fun x H2 y => ?_⟩
    obtain ⟨T, x', e1, hT, e2, hx'⟩ := y
    subst e1
    subst e2
    have e3 := hx' _ hq
    have hxi : xs[i]? = some xs[i] := List.getElem?_eq_getElem hlt
    rw [List.getElem?_map, hxi] at e3
    cases e3
    refine ht i xs[i] H' T D (Pv (i + 1)) hxi hT fun H4 t s4 h4 ht4 hb4 => ?_
    have hDT : D ≠ T := ne_of_none h1 hT
    have hDt : D ≠ t := ne_of_none h1 ht4
    have e4 : H4 D = some (.lst (as.map V.ref)) := by rw [hb4 D hDt, upd_ne hDT]; exact h1
    have hal : as.length = i := by rw [Paired.length h3, List.length_take, hzl]; omega
    refine ⟨_, e4, by rw [List.length_map, hal]; omega, as ++ [t], ?_, ?_, ?_, ?_⟩
    · exact same_upd (s1.trans ((same_new hT).trans s4)) hD
    · rw [upd_same, List.map_append]
      rfl
    · intro b hb
      rcases List.mem_append.mp hb with hb | hb
      · exact h2 b hb
      · rw [List.mem_singleton.mp hb]
        exact fresh_none s1 ht4
    · have e5 : (xs.zipIdx.map fun x => (x.2, x.1)).take (i + 1) = (xs.zipIdx.map fun x => (x.2, x.1)).take i ++ [(i, xs[i])] := by
        rw [List.take_add_one]
        congr 1
        rw [List.getElem?_map, List.getElem?_zipIdx, hxi]
        simp
      rw [e5]
      refine pr_app (pr_on h3 fun b hb x e => ?_) (.cons ?_ .nil)
      · rw [upd_ne (ne_of e h1 (by intro z; cases z))]
        exact s4 _ _ (same_new hT _ _ e)
      · rw [upd_ne (Ne.symm hDt)]
        exact h4
  · have e : i = xs.length := by omega
    subst e
    refine .inl ⟨⟨xs.map f, hq, by rw [List.length_map]; exact Nat.le_refl _⟩, ?_⟩
    rw [← hzl, List.take_length] at h3
    exact q H' D as s1 hD h1 h2 h3
end
section
variable {X : Cx} {K : PySem.W.Frag} {e a : Expr} {f : Str} {pos : Pos} {ta : TE}
theorem pe_fldK (hK : X.K = K) (he : PE X e ta) (hb : attributeBase e f X.env (eval e X.env) = eval e X.env) : PE X (.Attribute e f pos) (tFld K ta f) := by
  subst hK
  exact pe_fld he hb
theorem pg_tupK {es : List Expr} {k : Nat} {t : TGs} {n : Nat} (hK : X.K = K) (hc : X.calm = true) (h : PGs X es t) (hn : (assignEach es X.env).length = n := by rfl) (hst : (assignEach es X.env).findIdx? (·.1) = none := by rfl) : PG X (.Tuple es k pos) (gTup K n t) := by
  subst hK
  exact pg_tup hc h hn hst
theorem pt_truK (hK : X.K = K) (ha : PE X a ta) (he : ∀ whole, isTrue a X.env whole = (do let v ← whole; standAt a.pos; holding [v] (truthy v)) := by intro _; rfl) : PT X a (fun σ H Q => ta σ H fun x H1 => truR K x H1 Q) := by
  subst hK
  exact pt_tru ha he
end
end Pm
namespace Pm
open PySem PySem.Spec PyProof.Rows L2
local macro_rules | `(tactic| walk_at "rd") => `(tactic| simp (config := { zeta := false, failIfUnchanged := false }) only [q_fld, q_set, q_meth, q_call, q_make, q_test, q_andV, q_orV, q_notV, blR_bl, truR_bl, truR_int, rI0_int, rI_int, rEq_nat, rNe_nat, rEq_int, rNe_int, rEq_gap, rNe_gap, q_cxK, max2R_int, min2R_int, tCB, q_sl, q_part, q_nopart, intR_int, q_bm, q_bm0, ixV_0, ixV_1, ixV_2, ixV_3, HO.lst.injEq,
  tRet, tOp, tVar, tC, L2.start, tSeq, tNext, tIfS, tAnd, tOr, tNot, tCons, tNil, tDrop, tLst, tAsg, gName, tTup, tDNewK, tDSetd, tDGet, tDGet2, tDIn, tDNotIn, gSub,
  List.map_cons, List.map_nil, List.append_nil, List.cons_append, List.nil_append, List.length_cons, List.length_nil, List.getElem?_cons_zero, List.getElem?_cons_succ, List.replicate, List.set_cons_zero, List.set_cons_succ, Option.some.injEq, V.int.injEq, V.bl.injEq, V.ref.injEq, HO.ins.injEq,
  Nat.sub_self, Nat.add_one_sub_one, Nat.reduceAdd, Nat.reduceSub, exists_eq_left', exists_eq_left, true_and, and_true, Bool.true_eq_false, Bool.false_eq_true, if_true, if_false, ite_true, ite_false, reduceCtorEq, decide_eq_true_eq, not_true_eq_false, not_false_eq_true, Bool.not_eq_true', decide_eq_false_iff_not, Bool.or_eq_true, Bool.and_eq_true])
local macro_rules | `(tactic| walk_at "rds") => `(tactic| simp (config := { zeta := false, failIfUnchanged := false }) only [*, q_fld, q_set, q_meth, q_call, q_make, q_test, q_andV, q_orV, q_notV, blR_bl, truR_bl, truR_int, rI0_int, rI_int, rEq_nat, rNe_nat, rEq_int, rNe_int, rEq_gap, rNe_gap, q_cxK, max2R_int, min2R_int, tCB, q_sl, q_part, q_nopart, intR_int, q_bm, q_bm0, ixV_0, ixV_1, ixV_2, ixV_3, HO.lst.injEq,
  tRet, tOp, tVar, tC, L2.start, tSeq, tNext, tIfS, tAnd, tOr, tNot, tCons, tNil, tDrop, tLst, tAsg, gName, tTup, tDNewK, tDSetd, tDGet, tDGet2, tDIn, tDNotIn, gSub,
  List.map_cons, List.map_nil, List.append_nil, List.cons_append, List.nil_append, List.length_cons, List.length_nil, List.getElem?_cons_zero, List.getElem?_cons_succ, List.replicate, List.set_cons_zero, List.set_cons_succ, Option.some.injEq, V.int.injEq, V.bl.injEq, V.ref.injEq, HO.ins.injEq,
  Nat.sub_self, Nat.add_one_sub_one, Nat.reduceAdd, Nat.reduceSub, exists_eq_left', exists_eq_left, true_and, and_true, Bool.true_eq_false, Bool.false_eq_true, if_true, if_false, ite_true, ite_false, reduceCtorEq, decide_eq_true_eq, not_true_eq_false, not_false_eq_true, Bool.not_eq_true', decide_eq_false_iff_not, Bool.or_eq_true, Bool.and_eq_true])
local macro_rules | `(tactic| walk_at "rf") => `(tactic| simp (config := { zeta := false, failIfUnchanged := false }) only [q_for, iRng1, iRng2, iEnum, iList, List.cons.injEq, q_fld, q_set, q_meth, q_call, q_make, q_test, q_andV, q_orV, q_notV, blR_bl, truR_bl, truR_int, rI0_int, rI_int, rEq_nat, rNe_nat, rEq_int, rNe_int, rEq_gap, rNe_gap, q_cxK, max2R_int, min2R_int, tCB, q_sl, q_part, q_nopart, intR_int, q_bm, q_bm0, ixV_0, ixV_1, ixV_2, ixV_3, HO.lst.injEq,
  tRet, tOp, tVar, tC, L2.start, tSeq, tNext, tIfS, tAnd, tOr, tNot, tCons, tNil, tDrop, tLst, tAsg, gName, tTup, tDNewK, tDSetd, tDGet, tDGet2, tDIn, tDNotIn, gSub,
  List.map_cons, List.map_nil, List.append_nil, List.cons_append, List.nil_append, List.length_cons, List.length_nil, List.getElem?_cons_zero, List.getElem?_cons_succ, List.replicate, List.set_cons_zero, List.set_cons_succ, Option.some.injEq, V.int.injEq, V.bl.injEq, V.ref.injEq, HO.ins.injEq,
  Nat.sub_self, Nat.add_one_sub_one, Nat.reduceAdd, Nat.reduceSub, exists_eq_left', exists_eq_left, true_and, and_true, Bool.true_eq_false, Bool.false_eq_true, if_true, if_false, ite_true, ite_false, reduceCtorEq, decide_eq_true_eq, not_true_eq_false, not_false_eq_true, Bool.not_eq_true', decide_eq_false_iff_not, Bool.or_eq_true, Bool.and_eq_true])
def top (i : Nat) : Stmt := PySem.Challenge.pw_proofmarks_s01_answers.main.body.getD i (.Pass ⟨0, 0, 0, 0⟩)
abbrev s_Mark___init__ : Stmt := inClass (top 8) 0
theorem sc_Mark___init__ : FnScope ["self", "reader", "kind", "start", "end", "gap", "words"] ["self", "reader", "kind", "start", "end", "gap", "words"] (defScope s_Mark___init__) := ⟨rfl, rfl, rfl, by decide +kernel, rfl, by decide +kernel, by decide +kernel⟩
abbrev s_change_mark : Stmt := top 9
theorem sc_change_mark : FnScope ["reader", "start", "end", "words"] ["reader", "start", "end", "words"] (defScope s_change_mark) := ⟨rfl, rfl, rfl, by decide +kernel, rfl, by decide +kernel, by decide +kernel⟩
abbrev s_keep_mark : Stmt := top 10
theorem sc_keep_mark : FnScope ["reader", "start", "end"] ["reader", "start", "end"] (defScope s_keep_mark) := ⟨rfl, rfl, rfl, by decide +kernel, rfl, by decide +kernel, by decide +kernel⟩
abbrev s_move_mark : Stmt := top 11
theorem sc_move_mark : FnScope ["reader", "start", "end", "gap"] ["reader", "start", "end", "gap"] (defScope s_move_mark) := ⟨rfl, rfl, rfl, by decide +kernel, rfl, by decide +kernel, by decide +kernel⟩
abbrev s_ask_the_same : Stmt := top 12
theorem sc_ask_the_same : FnScope ["one", "other"] ["one", "other"] (defScope s_ask_the_same) := ⟨rfl, rfl, rfl, by decide +kernel, rfl, by decide +kernel, by decide +kernel⟩
abbrev s_lies_within : Stmt := top 13
theorem sc_lies_within : FnScope ["gap", "start", "end"] ["gap", "start", "end"] (defScope s_lies_within) := ⟨rfl, rfl, rfl, by decide +kernel, rfl, by decide +kernel, by decide +kernel⟩
abbrev s_takes_of : Stmt := top 14
theorem sc_takes_of : FnScope ["mark", "start", "end"] ["mark", "start", "end"] (defScope s_takes_of) := ⟨rfl, rfl, rfl, by decide +kernel, rfl, by decide +kernel, by decide +kernel⟩
abbrev s_breaks_into : Stmt := top 15
theorem sc_breaks_into : FnScope ["mark", "start", "end"] ["mark", "start", "end"] (defScope s_breaks_into) := ⟨rfl, rfl, rfl, by decide +kernel, rfl, by decide +kernel, by decide +kernel⟩
abbrev s_gainsay : Stmt := top 16
theorem sc_gainsay : FnScope ["one", "other"] ["one", "other"] (defScope s_gainsay) := ⟨rfl, rfl, rfl, by decide +kernel, rfl, by decide +kernel, by decide +kernel⟩
abbrev s_clashing_pairs : Stmt := top 17
theorem sc_clashing_pairs : FnScope ["marks", "numbers", "pairs", "lesser", "greater"] ["marks", "numbers"] (defScope s_clashing_pairs) := ⟨rfl, rfl, rfl, by decide +kernel, rfl, by decide +kernel, by decide +kernel⟩
abbrev s_asked_by : Stmt := top 18
theorem sc_asked_by : FnScope ["mark", "asked"] ["mark"] (defScope s_asked_by) := ⟨rfl, rfl, rfl, by decide +kernel, rfl, by decide +kernel, by decide +kernel⟩
abbrev s_Carried___init__ : Stmt := inClass (top 21) 0
theorem sc_Carried___init__ : FnScope ["self", "text", "gaps"] ["self", "text", "gaps"] (defScope s_Carried___init__) := ⟨rfl, rfl, rfl, by decide +kernel, rfl, by decide +kernel, by decide +kernel⟩
abbrev s_brought_by : Stmt := top 22
theorem sc_brought_by : FnScope ["bringer", "words", "origin", "word"] ["bringer", "words"] (defScope s_brought_by) := ⟨rfl, rfl, rfl, by decide +kernel, rfl, by decide +kernel, by decide +kernel⟩
abbrev s_bare_words : Stmt := top 23
theorem sc_bare_words : FnScope ["text", "entry"] ["text"] (defScope s_bare_words) := ⟨rfl, rfl, rfl, by decide +kernel, rfl, by decide +kernel, by decide +kernel⟩
abbrev s_puts_of : Stmt := top 24
theorem sc_puts_of : FnScope ["text", "marks", "numbers", "puts", "number", "mark"] ["text", "marks", "numbers"] (defScope s_puts_of) := ⟨rfl, rfl, rfl, by decide +kernel, rfl, by decide +kernel, by decide +kernel⟩
abbrev s_takers_of : Stmt := top 25
theorem sc_takers_of : FnScope ["marks", "numbers", "takers", "number", "mark", "place"] ["marks", "numbers"] (defScope s_takers_of) := ⟨rfl, rfl, rfl, by decide +kernel, rfl, by decide +kernel, by decide +kernel⟩
abbrev s_carry_out : Stmt := top 26
theorem sc_carry_out : FnScope ["text", "marks", "numbers", "puts", "takers", "made", "gaps", "place"] ["text", "marks", "numbers"] (defScope s_carry_out) := ⟨rfl, rfl, rfl, by decide +kernel, rfl, by decide +kernel, by decide +kernel⟩
abbrev s_gone_words : Stmt := top 27
theorem sc_gone_words : FnScope ["text", "marks", "numbers", "takers", "gone", "place", "entry"] ["text", "marks", "numbers"] (defScope s_gone_words) := ⟨rfl, rfl, rfl, by decide +kernel, rfl, by decide +kernel, by decide +kernel⟩
abbrev s_start_of : Stmt := top 28
theorem sc_start_of : FnScope ["words", "text", "place"] ["words", "text"] (defScope s_start_of) := ⟨rfl, rfl, rfl, by decide +kernel, rfl, by decide +kernel, by decide +kernel⟩
abbrev s_followed : Stmt := top 29
theorem sc_followed : FnScope ["mark", "text", "carried", "words", "start", "end"] ["mark", "text", "carried"] (defScope s_followed) := ⟨rfl, rfl, rfl, by decide +kernel, rfl, by decide +kernel, by decide +kernel⟩
abbrev s_agrees_with_all : Stmt := top 31
theorem sc_agrees_with_all : FnScope ["marks", "number", "chosen", "other"] ["marks", "number", "chosen"] (defScope s_agrees_with_all) := ⟨rfl, rfl, rfl, by decide +kernel, rfl, by decide +kernel, by decide +kernel⟩
abbrev s_agreeing_sets : Stmt := top 32
theorem sc_agreeing_sets : FnScope ["marks", "numbers", "sets", "number", "grown", "chosen"] ["marks", "numbers"] (defScope s_agreeing_sets) := ⟨rfl, rfl, rfl, by decide +kernel, rfl, by decide +kernel, by decide +kernel⟩
abbrev s_weight_of : Stmt := top 33
theorem sc_weight_of : FnScope ["marks", "weights", "numbers", "number"] ["marks", "weights", "numbers"] (defScope s_weight_of) := ⟨rfl, rfl, rfl, by decide +kernel, rfl, by decide +kernel, by decide +kernel⟩
abbrev s_weightiest : Stmt := top 34
theorem sc_weightiest : FnScope ["marks", "weights", "numbers", "best", "chosen"] ["marks", "weights", "numbers"] (defScope s_weightiest) := ⟨rfl, rfl, rfl, by decide +kernel, rfl, by decide +kernel, by decide +kernel⟩
abbrev s_are_words : Stmt := top 50
theorem sc_are_words : FnScope ["numbers", "number"] ["numbers"] (defScope s_are_words) := ⟨rfl, rfl, rfl, by decide +kernel, rfl, by decide +kernel, by decide +kernel⟩
abbrev s_told_in_pairs : Stmt := top 51
theorem sc_told_in_pairs : FnScope ["pairs", "told", "pair"] ["pairs"] (defScope s_told_in_pairs) := ⟨rfl, rfl, rfl, by decide +kernel, rfl, by decide +kernel, by decide +kernel⟩
abbrev s_told_words : Stmt := top 52
theorem sc_told_words : FnScope ["text"] ["text"] (defScope s_told_words) := ⟨rfl, rfl, rfl, by decide +kernel, rfl, by decide +kernel, by decide +kernel⟩
abbrev s_Proof___init__ : Stmt := inClass (top 53) 0
theorem sc_Proof___init__ : FnScope ["self"] ["self"] (defScope s_Proof___init__) := ⟨rfl, rfl, rfl, by decide +kernel, rfl, by decide +kernel, by decide +kernel⟩
abbrev s_Proof_begins : Stmt := inClass (top 53) 1
theorem sc_Proof_begins : FnScope ["self", "words"] ["self", "words"] (defScope s_Proof_begins) := ⟨rfl, rfl, rfl, by decide +kernel, rfl, by decide +kernel, by decide +kernel⟩
abbrev s_Proof_add_reader : Stmt := inClass (top 53) 2
theorem sc_Proof_add_reader : FnScope ["self", "weight"] ["self", "weight"] (defScope s_Proof_add_reader) := ⟨rfl, rfl, rfl, by decide +kernel, rfl, by decide +kernel, by decide +kernel⟩
abbrev s_Proof_change : Stmt := inClass (top 53) 3
theorem sc_Proof_change : FnScope ["self", "reader", "start", "end", "words"] ["self", "reader", "start", "end", "words"] (defScope s_Proof_change) := ⟨rfl, rfl, rfl, by decide +kernel, rfl, by decide +kernel, by decide +kernel⟩
abbrev s_Proof_keep : Stmt := inClass (top 53) 4
theorem sc_Proof_keep : FnScope ["self", "reader", "start", "end"] ["self", "reader", "start", "end"] (defScope s_Proof_keep) := ⟨rfl, rfl, rfl, by decide +kernel, rfl, by decide +kernel, by decide +kernel⟩
abbrev s_Proof_move : Stmt := inClass (top 53) 5
theorem sc_Proof_move : FnScope ["self", "reader", "start", "end", "gap"] ["self", "reader", "start", "end", "gap"] (defScope s_Proof_move) := ⟨rfl, rfl, rfl, by decide +kernel, rfl, by decide +kernel, by decide +kernel⟩
abbrev s_Proof_withdraw : Stmt := inClass (top 53) 6
theorem sc_Proof_withdraw : FnScope ["self", "number", "mark"] ["self", "number"] (defScope s_Proof_withdraw) := ⟨rfl, rfl, rfl, by decide +kernel, rfl, by decide +kernel, by decide +kernel⟩
abbrev s_Proof_clashes : Stmt := inClass (top 53) 7
theorem sc_Proof_clashes : FnScope ["self"] ["self"] (defScope s_Proof_clashes) := ⟨rfl, rfl, rfl, by decide +kernel, rfl, by decide +kernel, by decide +kernel⟩
abbrev s_Proof_carry : Stmt := inClass (top 53) 8
theorem sc_Proof_carry : FnScope ["self", "chosen", "carried", "number"] ["self"] (defScope s_Proof_carry) := ⟨rfl, rfl, rfl, by decide +kernel, rfl, by decide +kernel, by decide +kernel⟩
abbrev s_Proof_shown : Stmt := inClass (top 53) 9
theorem sc_Proof_shown : FnScope ["self"] ["self"] (defScope s_Proof_shown) := ⟨rfl, rfl, rfl, by decide +kernel, rfl, by decide +kernel, by decide +kernel⟩
abbrev s_Proof_who : Stmt := inClass (top 53) 10
theorem sc_Proof_who : FnScope ["self", "place", "bringer"] ["self", "place"] (defScope s_Proof_who) := ⟨rfl, rfl, rfl, by decide +kernel, rfl, by decide +kernel, by decide +kernel⟩
abbrev s_Proof_tell_mark : Stmt := inClass (top 53) 11
theorem sc_Proof_tell_mark : FnScope ["self", "number", "mark", "told"] ["self", "number"] (defScope s_Proof_tell_mark) := ⟨rfl, rfl, rfl, by decide +kernel, rfl, by decide +kernel, by decide +kernel⟩
abbrev s_Proof_gone : Stmt := inClass (top 53) 12
theorem sc_Proof_gone : FnScope ["self"] ["self"] (defScope s_Proof_gone) := ⟨rfl, rfl, rfl, by decide +kernel, rfl, by decide +kernel, by decide +kernel⟩
abbrev s_Proof_test : Stmt := inClass (top 53) 13
theorem sc_Proof_test : FnScope ["self", "numbers", "number"] ["self", "numbers"] (defScope s_Proof_test) := ⟨rfl, rfl, rfl, by decide +kernel, rfl, by decide +kernel, by decide +kernel⟩
abbrev s_Proof_has_reader : Stmt := inClass (top 53) 14
theorem sc_Proof_has_reader : FnScope ["self", "reader"] ["self", "reader"] (defScope s_Proof_has_reader) := ⟨rfl, rfl, rfl, by decide +kernel, rfl, by decide +kernel, by decide +kernel⟩
abbrev s_Proof_has_mark : Stmt := inClass (top 53) 15
theorem sc_Proof_has_mark : FnScope ["self", "number"] ["self", "number"] (defScope s_Proof_has_mark) := ⟨rfl, rfl, rfl, by decide +kernel, rfl, by decide +kernel, by decide +kernel⟩
abbrev s_Proof_stands_open : Stmt := inClass (top 53) 16
theorem sc_Proof_stands_open : FnScope ["self", "number"] ["self", "number"] (defScope s_Proof_stands_open) := ⟨rfl, rfl, rfl, by decide +kernel, rfl, by decide +kernel, by decide +kernel⟩
abbrev s_Proof_has_words : Stmt := inClass (top 53) 17
theorem sc_Proof_has_words : FnScope ["self", "start", "end"] ["self", "start", "end"] (defScope s_Proof_has_words) := ⟨rfl, rfl, rfl, by decide +kernel, rfl, by decide +kernel, by decide +kernel⟩
abbrev s_Proof_change_fits : Stmt := inClass (top 53) 18
theorem sc_Proof_change_fits : FnScope ["self", "start", "end", "words"] ["self", "start", "end", "words"] (defScope s_Proof_change_fits) := ⟨rfl, rfl, rfl, by decide +kernel, rfl, by decide +kernel, by decide +kernel⟩
abbrev s_Proof_move_fits : Stmt := inClass (top 53) 19
theorem sc_Proof_move_fits : FnScope ["self", "start", "end", "gap"] ["self", "start", "end", "gap"] (defScope s_Proof_move_fits) := ⟨rfl, rfl, rfl, by decide +kernel, rfl, by decide +kernel, by decide +kernel⟩
abbrev s_Proof_open_marks : Stmt := inClass (top 53) 20
theorem sc_Proof_open_marks : FnScope ["self", "number"] ["self"] (defScope s_Proof_open_marks) := ⟨rfl, rfl, rfl, by decide +kernel, rfl, by decide +kernel, by decide +kernel⟩
abbrev s_Proof_add_mark : Stmt := inClass (top 53) 21
theorem sc_Proof_add_mark : FnScope ["self", "mark"] ["self", "mark"] (defScope s_Proof_add_mark) := ⟨rfl, rfl, rfl, by decide +kernel, rfl, by decide +kernel, by decide +kernel⟩
abbrev s_Proof_close_mark : Stmt := inClass (top 53) 22
theorem sc_Proof_close_mark : FnScope ["self", "number", "state", "mark"] ["self", "number", "state"] (defScope s_Proof_close_mark) := ⟨rfl, rfl, rfl, by decide +kernel, rfl, by decide +kernel, by decide +kernel⟩
abbrev s_Proof_follow_mark : Stmt := inClass (top 53) 23
theorem sc_Proof_follow_mark : FnScope ["self", "number", "carried", "mark"] ["self", "number", "carried"] (defScope s_Proof_follow_mark) := ⟨rfl, rfl, rfl, by decide +kernel, rfl, by decide +kernel, by decide +kernel⟩
abbrev s_answers : Stmt := top 68
theorem sc_answers : FnScope ["calls", "proof", "given", "place", "call", "behind_numbers", "numbers", "row", "answered"] ["calls"] (defScope s_answers) := ⟨rfl, rfl, rfl, by decide +kernel, rfl, by decide +kernel, by decide +kernel⟩
abbrev s_answer_call : Stmt := top 69
theorem sc_answer_call : FnScope ["proof", "call", "numbers", "row"] ["proof", "call", "numbers", "row"] (defScope s_answer_call) := ⟨rfl, rfl, rfl, by decide +kernel, rfl, by decide +kernel, by decide +kernel⟩
def FnD (K : PySem.W.Frag) (mg : Str → Option Value) (x : Str) (st : Stmt) : Prop := ∃ (f : Addr) (fd : FuncData), Fun K x x st f fd ∧ mg x = some (.ref f)
def MtD (K : PySem.W.Frag) (C : Addr) (m qual : Str) (st : Stmt) : Prop := ∃ (f : Addr) (fd : FuncData), Fun K m qual st f fd ∧ Meth K C m f
def MkD (K : PySem.W.Frag) (mg : Str → Option Value) (x qual : Str) (C : Addr) (st : Stmt) : Prop := ∃ (f : Addr) (fd : FuncData), Fun K "__init__" qual st f fd ∧ Mk K C f ∧ mg x = some (.ref C)
structure Facts (K : PySem.W.Frag) (mg : Str → Option Value) (c_Mark c_Carried c_Proof : Addr) : Prop where
  b_all : mg "all" = none
  b_enumerate : mg "enumerate" = none
  b_len : mg "len" = none
  b_list : mg "list" = none
  b_max : mg "max" = none
  b_min : mg "min" = none
  b_range : mg "range" = none
  b_sum : mg "sum" = none
  g_CHANGE : GI mg "CHANGE" 0
  g_KEEP : GI mg "KEEP" 1
  g_MOVE : GI mg "MOVE" 2
  g_STANDS_OPEN : GI mg "STANDS_OPEN" 0
  g_CARRIED_OUT : GI mg "CARRIED_OUT" 1
  g_LOST : GI mg "LOST" 2
  g_WITHDRAWN : GI mg "WITHDRAWN" 3
  g_NOBODY : GI mg "NOBODY" (-1)
  g_GREATEST_WORD : GI mg "GREATEST_WORD" 99999
  g_GREATEST_WEIGHT : GI mg "GREATEST_WEIGHT" 1000
  g_MOST_WORDS : GI mg "MOST_WORDS" 100
  g_MOST_CHANGE_WORDS : GI mg "MOST_CHANGE_WORDS" 20
  g_MOST_READERS : GI mg "MOST_READERS" 8
  g_MOST_OPEN_MARKS : GI mg "MOST_OPEN_MARKS" 10
  g_MOST_MARKS : GI mg "MOST_MARKS" 60
  g_UNFIT : GI mg "UNFIT" (-1)
  g_MISSING : GI mg "MISSING" (-2)
  g_HINDERED : GI mg "HINDERED" (-4)
  g_FULL : GI mg "FULL" (-5)
  g_NO_WORD : GI mg "NO_WORD" (-6)
  g_WAS_THERE : GI mg "WAS_THERE" 0
  g_WAS_BROUGHT : GI mg "WAS_BROUGHT" 1
  g_BEGINS_CALL : GI mg "BEGINS_CALL" 0
  g_READER_CALL : GI mg "READER_CALL" 1
  g_CHANGE_CALL : GI mg "CHANGE_CALL" 2
  g_KEEP_CALL : GI mg "KEEP_CALL" 3
  g_MOVE_CALL : GI mg "MOVE_CALL" 4
  g_WITHDRAW_CALL : GI mg "WITHDRAW_CALL" 5
  g_CLASHES_CALL : GI mg "CLASHES_CALL" 6
  g_CARRY_CALL : GI mg "CARRY_CALL" 7
  g_SHOWN_CALL : GI mg "SHOWN_CALL" 8
  g_WHO_CALL : GI mg "WHO_CALL" 9
  g_MARK_CALL : GI mg "MARK_CALL" 10
  g_GONE_CALL : GI mg "GONE_CALL" 11
  t_FORMS : ∃ fa fs, GR mg "FORMS" fa ∧ KT K fa fs ∧ fs.length = 13 ∧ (∃ t, fs[0]? = some (.ref t) ∧ KT K t [.int 0, .bl true]) ∧ (∃ t, fs[1]? = some (.ref t) ∧ KT K t [.int 1, .bl false]) ∧ (∃ t, fs[2]? = some (.ref t) ∧ KT K t [.int 3, .bl true]) ∧ (∃ t, fs[3]? = some (.ref t) ∧ KT K t [.int 3, .bl false]) ∧ (∃ t, fs[4]? = some (.ref t) ∧ KT K t [.int 4, .bl false]) ∧ (∃ t, fs[5]? = some (.ref t) ∧ KT K t [.int 1, .bl false]) ∧ (∃ t, fs[6]? = some (.ref t) ∧ KT K t [.int 0, .bl false]) ∧ (∃ t, fs[7]? = some (.ref t) ∧ KT K t [.int 0, .bl false]) ∧ (∃ t, fs[8]? = some (.ref t) ∧ KT K t [.int 0, .bl false]) ∧ (∃ t, fs[9]? = some (.ref t) ∧ KT K t [.int 1, .bl false]) ∧ (∃ t, fs[10]? = some (.ref t) ∧ KT K t [.int 1, .bl false]) ∧ (∃ t, fs[11]? = some (.ref t) ∧ KT K t [.int 0, .bl false]) ∧ (∃ t, fs[12]? = some (.ref t) ∧ KT K t [.int 0, .bl true])
  d_change_mark : FnD K mg "change_mark" s_change_mark
  d_keep_mark : FnD K mg "keep_mark" s_keep_mark
  d_move_mark : FnD K mg "move_mark" s_move_mark
  d_ask_the_same : FnD K mg "ask_the_same" s_ask_the_same
  d_lies_within : FnD K mg "lies_within" s_lies_within
  d_takes_of : FnD K mg "takes_of" s_takes_of
  d_breaks_into : FnD K mg "breaks_into" s_breaks_into
  d_gainsay : FnD K mg "gainsay" s_gainsay
  d_clashing_pairs : FnD K mg "clashing_pairs" s_clashing_pairs
  d_asked_by : FnD K mg "asked_by" s_asked_by
  d_brought_by : FnD K mg "brought_by" s_brought_by
  d_bare_words : FnD K mg "bare_words" s_bare_words
  d_puts_of : FnD K mg "puts_of" s_puts_of
  d_takers_of : FnD K mg "takers_of" s_takers_of
  d_carry_out : FnD K mg "carry_out" s_carry_out
  d_gone_words : FnD K mg "gone_words" s_gone_words
  d_start_of : FnD K mg "start_of" s_start_of
  d_followed : FnD K mg "followed" s_followed
  d_agrees_with_all : FnD K mg "agrees_with_all" s_agrees_with_all
  d_agreeing_sets : FnD K mg "agreeing_sets" s_agreeing_sets
  d_weight_of : FnD K mg "weight_of" s_weight_of
  d_weightiest : FnD K mg "weightiest" s_weightiest
  d_are_words : FnD K mg "are_words" s_are_words
  d_told_in_pairs : FnD K mg "told_in_pairs" s_told_in_pairs
  d_told_words : FnD K mg "told_words" s_told_words
  d_answers : FnD K mg "answers" s_answers
  d_answer_call : FnD K mg "answer_call" s_answer_call
  cl_Mark : Cls K c_Mark
  n_Mark_reader : NoAttr K c_Mark "reader"
  n_Mark_kind : NoAttr K c_Mark "kind"
  n_Mark_start : NoAttr K c_Mark "start"
  n_Mark_end : NoAttr K c_Mark "end"
  n_Mark_gap : NoAttr K c_Mark "gap"
  n_Mark_words : NoAttr K c_Mark "words"
  n_Mark_state : NoAttr K c_Mark "state"
  n_Mark_closed_in : NoAttr K c_Mark "closed_in"
  k_Mark : MkD K mg "Mark" "Mark.__init__" c_Mark s_Mark___init__
  cl_Carried : Cls K c_Carried
  n_Carried_text : NoAttr K c_Carried "text"
  n_Carried_gaps : NoAttr K c_Carried "gaps"
  k_Carried : MkD K mg "Carried" "Carried.__init__" c_Carried s_Carried___init__
  cl_Proof : Cls K c_Proof
  n_Proof_text : NoAttr K c_Proof "text"
  n_Proof_weights : NoAttr K c_Proof "weights"
  n_Proof_marks : NoAttr K c_Proof "marks"
  n_Proof_number : NoAttr K c_Proof "number"
  n_Proof_losses : NoAttr K c_Proof "losses"
  k_Proof : MkD K mg "Proof" "Proof.__init__" c_Proof s_Proof___init__
  m_Proof_begins : MtD K c_Proof "begins" "Proof.begins" s_Proof_begins
  m_Proof_add_reader : MtD K c_Proof "add_reader" "Proof.add_reader" s_Proof_add_reader
  m_Proof_change : MtD K c_Proof "change" "Proof.change" s_Proof_change
  m_Proof_keep : MtD K c_Proof "keep" "Proof.keep" s_Proof_keep
  m_Proof_move : MtD K c_Proof "move" "Proof.move" s_Proof_move
  m_Proof_withdraw : MtD K c_Proof "withdraw" "Proof.withdraw" s_Proof_withdraw
  m_Proof_clashes : MtD K c_Proof "clashes" "Proof.clashes" s_Proof_clashes
  m_Proof_carry : MtD K c_Proof "carry" "Proof.carry" s_Proof_carry
  m_Proof_shown : MtD K c_Proof "shown" "Proof.shown" s_Proof_shown
  m_Proof_who : MtD K c_Proof "who" "Proof.who" s_Proof_who
  m_Proof_tell_mark : MtD K c_Proof "tell_mark" "Proof.tell_mark" s_Proof_tell_mark
  m_Proof_gone : MtD K c_Proof "gone" "Proof.gone" s_Proof_gone
  m_Proof_test : MtD K c_Proof "test" "Proof.test" s_Proof_test
  m_Proof_has_reader : MtD K c_Proof "has_reader" "Proof.has_reader" s_Proof_has_reader
  m_Proof_has_mark : MtD K c_Proof "has_mark" "Proof.has_mark" s_Proof_has_mark
  m_Proof_stands_open : MtD K c_Proof "stands_open" "Proof.stands_open" s_Proof_stands_open
  m_Proof_has_words : MtD K c_Proof "has_words" "Proof.has_words" s_Proof_has_words
  m_Proof_change_fits : MtD K c_Proof "change_fits" "Proof.change_fits" s_Proof_change_fits
  m_Proof_move_fits : MtD K c_Proof "move_fits" "Proof.move_fits" s_Proof_move_fits
  m_Proof_open_marks : MtD K c_Proof "open_marks" "Proof.open_marks" s_Proof_open_marks
  m_Proof_add_mark : MtD K c_Proof "add_mark" "Proof.add_mark" s_Proof_add_mark
  m_Proof_close_mark : MtD K c_Proof "close_mark" "Proof.close_mark" s_Proof_close_mark
  m_Proof_follow_mark : MtD K c_Proof "follow_mark" "Proof.follow_mark" s_Proof_follow_mark
section
variable {G : Env1} {x m qual : Str} {C : Addr} {st : Stmt} {ps : List Str} {k : Nat} {sp : Sp}
theorem fn_of_d (d : FnD G.K G.mg x st) (ok : ∀ f fd, Fun G.K x x st f fd → FnOk G.P G.w G.K G.mg G.base CX0 k f fd ps sp)
    (b : ∀ (kV doc pm : Value) (an : Option Addr) (cdv ct : Value) (us : List Value), us.length = ps.length → bindArgs (PySem.W.fnOf x x (defArgs st) (defBody st) (defScope st) .none kV doc pm an cdv ct) ⟨us, []⟩ = pure (ps.zip us)) : Fn G x ps k sp := by
  obtain ⟨f, fd, F, h⟩ := d
  exact ⟨f, fd, ok f fd F, h, F.kp, F.binds b⟩
theorem mt_of_d (c : Cls G.K C) (d : MtD G.K C m qual st) (ok : ∀ f fd, Fun G.K m qual st f fd → FnOk G.P G.w G.K G.mg G.base CX0 k f fd ps sp)
    (b : ∀ (kV doc pm : Value) (an : Option Addr) (cdv ct : Value) (us : List Value), us.length = ps.length → bindArgs (PySem.W.fnOf m qual (defArgs st) (defBody st) (defScope st) .none kV doc pm an cdv ct) ⟨us, []⟩ = pure (ps.zip us)) : Mt G C m ps k sp := by
  obtain ⟨f, fd, F, h⟩ := d
  exact ⟨f, fd, c, h, ok f fd F, F.binds b⟩
theorem md_of_d (d : MkD G.K G.mg x qual C st) (ok : ∀ f fd, Fun G.K "__init__" qual st f fd → FnOk G.P G.w G.K G.mg G.base CX0 k f fd ps sp)
    (b : ∀ (kV doc pm : Value) (an : Option Addr) (cdv ct : Value) (us : List Value), us.length = ps.length → bindArgs (PySem.W.fnOf "__init__" qual (defArgs st) (defBody st) (defScope st) .none kV doc pm an cdv ct) ⟨us, []⟩ = pure (ps.zip us)) : Md G x C ps k sp := by
  obtain ⟨f, fd, F, h, h2⟩ := d
  exact ⟨f, fd, h, ok f fd F, h2, F.binds b⟩
end
def mf (r k i j g w s c : V) : List (Str × V) := [("reader", r), ("kind", k), ("start", i), ("end", j), ("gap", g), ("words", w), ("state", s), ("closed_in", c)]
def kdA : Si42.Ask → Nat
  | .change _ _ _ => 0
  | .keep _ _ => 1
  | .move _ _ _ => 2
def frA : Si42.Ask → Nat
  | .change i _ _ => i
  | .keep i _ => i
  | .move i _ _ => i
def toA : Si42.Ask → Nat
  | .change _ j _ => j
  | .keep _ j => j
  | .move _ j _ => j
def wdA : Si42.Ask → List Nat
  | .change _ _ w => w
  | _ => []
structure MarkAt (CM : Addr) (H : Hp) (a l : Addr) (r : Nat) (q : Si42.Ask) (s : Nat) (c : V) : Prop where
  ob : ∃ dx, H a = some (.ins CM dx (mf (.int r) (.int (kdA q)) (.int (frA q)) (.int (toA q)) (gapV (Si42.puts q)) (.ref l) (.int s) c))
  wd : H l = some (.lst (natsV (wdA q)))
section
variable {G : Env1} {CM CC CP : Addr} {H : Hp} {a l : Addr} {r s : Nat} {q : Si42.Ask} {c : V}
theorem MarkAt.rd (h : MarkAt CM H a l r q s c) {K : PySem.W.Frag} {mg : Str → Option Value} (T : Facts K mg CM CC CP) :
    (∀ Q, fldR K "reader" (.ref a) H Q = Q (.int r) H) ∧ (∀ Q, fldR K "kind" (.ref a) H Q = Q (.int (kdA q)) H) ∧ (∀ Q, fldR K "start" (.ref a) H Q = Q (.int (frA q)) H) ∧ (∀ Q, fldR K "end" (.ref a) H Q = Q (.int (toA q)) H) ∧
    (∀ Q, fldR K "gap" (.ref a) H Q = Q (gapV (Si42.puts q)) H) ∧ (∀ Q, fldR K "words" (.ref a) H Q = Q (.ref l) H) ∧ (∀ Q, fldR K "state" (.ref a) H Q = Q (.int s) H) ∧ (∀ Q, fldR K "closed_in" (.ref a) H Q = Q c H) := by
  obtain ⟨⟨dx, h⟩, _⟩ := h
  exact ⟨fun Q => fldR_of h T.cl_Mark T.n_Mark_reader rfl, fun Q => fldR_of h T.cl_Mark T.n_Mark_kind rfl, fun Q => fldR_of h T.cl_Mark T.n_Mark_start rfl, fun Q => fldR_of h T.cl_Mark T.n_Mark_end rfl, fun Q => fldR_of h T.cl_Mark T.n_Mark_gap rfl, fun Q => fldR_of h T.cl_Mark T.n_Mark_words rfl, fun Q => fldR_of h T.cl_Mark T.n_Mark_state rfl, fun Q => fldR_of h T.cl_Mark T.n_Mark_closed_in rfl⟩
def spLies : Sp := fun vs H Q _ => ∃ g i j : Nat, vs = [.int g, .int i, .int j] ∧ Q (.bl (Si42.within g i j)) H
theorem ok_lies {f : Addr} {fd : FuncData} (F : Fun G.K "lies_within" "lies_within" s_lies_within f fd) : FnOk G.P G.w G.K G.mg G.base CX0 1 f fd ["gap", "start", "end"] spLies := by
  refine F.ok sc_lies_within (fun vs H Q E h => ?_) (fun cdv A outer s H vs Q E hr h => ?_)
  · obtain ⟨g, i, j, rfl, _⟩ := h; rfl
  · obtain ⟨g, i, j, rfl, k⟩ := h
    refine ⟨_, (pss_one (ps_ret (pe_and (pe_cmpR op_gt (pv 0) (pv 1) (nomark _)) (pe_one (pe_cmpR op_lt (pv 0) (pv 2) (nomark _)))))), ?_⟩
    walk_at "rd"
    unfold Si42.within at k
    simp only [Int.ofNat_lt]; split <;> simp_all
def spSame (CM : Addr) : Sp := fun vs H Q _ => ∃ a b l l' r r' q q' s s' c c', vs = [.ref a, .ref b] ∧ MarkAt CM H a l r q s c ∧ MarkAt CM H b l' r' q' s' c' ∧ Q (.bl (decide (q = q'))) H
theorem ok_same {f : Addr} {fd : FuncData} (T : Facts G.K G.mg CM CC CP) (F : Fun G.K "ask_the_same" "ask_the_same" s_ask_the_same f fd) : FnOk G.P G.w G.K G.mg G.base CX0 1 f fd ["one", "other"] (spSame CM) := by
  refine F.ok sc_ask_the_same (fun vs H Q E h => ?_) (fun cdv A outer s H vs Q E hr h => ?_)
  · obtain ⟨a, b, l, l', r, r', q, q', s, s', c, c', rfl, _⟩ := h; rfl
  · obtain ⟨a, b, l, l', r, r', q, q', s, s', c, c', rfl, ha, hb, k⟩ := h
    refine ⟨_, (pss_cons (ps_if (PW.pt (pw_or (pt_cmpR op_ne (pe_fld (pv 0) rfl) (pe_fld (pv 1) rfl) (nomark _)) (pw_or1 (pt_cmpR op_ne (pe_fld (pv 0) rfl) (pe_fld (pv 1) rfl) (nomark _))))) (pss_one (ps_ret pe_bl)) pss_nil)
      (pss_one (ps_ret (pe_and (pe_cmpR op_eq (pe_fld (pv 0) rfl) (pe_fld (pv 1) rfl) (nomark _)) (pe_and (pe_cmpR op_eq (pe_fld (pv 0) rfl) (pe_fld (pv 1) rfl) (nomark _)) (pe_one (pe_cmpR (op_eqL hr.units) (pe_fld (pv 0) rfl) (pe_fld (pv 1) rfl) (nomark _)))))))), ?_⟩
    have ra := ha.rd T
    have rb := hb.rd T
    have rl : ∀ Q, eqLR (.ref l) (.ref l') H Q = Q (.bl (decide (wdA q = wdA q'))) H := fun Q => eqLR_nats ha.wd hb.wd
    clear ha hb F T hr
    walk_at "rds"
    clear ra rb rl
    repeat' split
    all_goals refine leaf k ?_
    all_goals rw [Bool.eq_iff_iff]
    all_goals (clear k; cases q <;> cases q' <;> simp_all [kdA, Si42.puts, frA, toA, wdA, Int.ofNat_inj])
    exact ⟨fun h => decide_eq_true h, fun h => of_decide_eq_true h⟩
def tkA (q : Si42.Ask) (i j : Nat) : Bool := decide (max (frA q) i < min (toA q) j)
def spTakes (CM : Addr) : Sp := fun vs H Q _ => ∃ a l r q s c, ∃ i j : Nat, vs = [.ref a, .int i, .int j] ∧ MarkAt CM H a l r q s c ∧ Q (.bl (tkA q i j)) H
theorem ok_takes {f : Addr} {fd : FuncData} (T : Facts G.K G.mg CM CC CP) (F : Fun G.K "takes_of" "takes_of" s_takes_of f fd) : FnOk G.P G.w G.K G.mg G.base CX0 1 f fd ["mark", "start", "end"] (spTakes CM) := by
  refine F.ok sc_takes_of (fun vs H Q E h => ?_) (fun cdv A outer s H vs Q E hr h => ?_)
  · obtain ⟨a, l, r, q, s, c, i, j, rfl, _⟩ := h; rfl
  · obtain ⟨a, l, r, q, s, c, i, j, rfl, ha, k⟩ := h
    refine ⟨_, (pss_one (ps_ret (pe_cmpR op_lt (pe_callB (call_maxN rfl) (by rfl) T.b_max bt_max (pa_cons (pe_fld (pv 0) rfl) (pa_cons (pv 1) pa_nil))) (pe_callB (call_minN rfl) (by rfl) T.b_min bt_min (pa_cons (pe_fld (pv 0) rfl) (pa_cons (pv 2) pa_nil))) (nomark _)))), ?_⟩
    have ra := ha.rd T
    clear ha F T hr
    walk_at "rds"
    refine leaf k ?_
    unfold tkA
    rw [decide_eq_decide]
    omega
def brA (q : Si42.Ask) (i j : Nat) : Bool := tkA q i j || (match Si42.puts q with
  | some g => Si42.within g i j
  | none => false)
def notKeep : Si42.Ask → Prop
  | .keep _ _ => False
  | _ => True
def spBreaks (CM : Addr) : Sp := fun vs H Q _ => ∃ a l r q s c, ∃ i j : Nat, vs = [.ref a, .int i, .int j] ∧ MarkAt CM H a l r q s c ∧ notKeep q ∧ Q (.bl (brA q i j)) H
theorem ok_breaks {f : Addr} {fd : FuncData} (T : Facts G.K G.mg CM CC CP) (F_takes_of : Fn G "takes_of" ["mark", "start", "end"] 1 (spTakes CM)) (F_lies_within : Fn G "lies_within" ["gap", "start", "end"] 1 spLies)
    (F : Fun G.K "breaks_into" "breaks_into" s_breaks_into f fd) : FnOk G.P G.w G.K G.mg G.base CX0 2 f fd ["mark", "start", "end"] (spBreaks CM) := by
  refine F.ok sc_breaks_into (fun vs H Q E h => ?_) (fun cdv A outer s H vs Q E hr h => ?_)
  · obtain ⟨a, l, r, q, s, c, i, j, rfl, _⟩ := h; rfl
  · obtain ⟨a, l, r, q, s, c, i, j, rfl, ha, nk, k⟩ := h
    refine ⟨_, (pss_one (ps_ret (pe_or (pe_fn F_takes_of hr rfl (pa_cons (pv 0) (pa_cons (pv 1) (pa_cons (pv 2) pa_nil)))) (pe_one (pe_fn F_lies_within hr rfl (pa_cons (pe_fld (pv 0) rfl) (pa_cons (pv 1) (pa_cons (pv 2) pa_nil)))))))), ?_⟩
    have ra := ha.rd T
    walk_at "rd"
    refine ⟨a, l, r, q, s, c, i, j, rfl, ha, ?_⟩
    clear hr F F_takes_of F_lies_within T
    walk_at "rds"
    obtain ⟨g, hg⟩ : ∃ g, Si42.puts q = some g := by
      cases q with
      | keep => exact nk.elim
      | change i j w => exact ⟨i, rfl⟩
      | move i j k' => exact ⟨k', rfl⟩
    split
    · refine leaf k ?_
      simp_all [brA]
    · refine ⟨g, i, j, by rw [hg]; rfl, leaf k ?_⟩
      simp_all [brA]
theorem natsV_inj' {l r : List Nat} (h : natsV l = natsV r) : l = r := natsV_inj h
theorem gapV_inj : ∀ {i j : Option Nat}, gapV i = gapV j → i = j
  | none, none, _ => rfl
  | none, some _, h => by cases h
  | some _, none, h => by cases h
  | some i, some j, h => by
    have e : (i : Int) = (j : Int) := V.int.inj h
    rw [Int.ofNat_inj.mp e]
theorem ask_ext : ∀ {q q' : Si42.Ask}, kdA q = kdA q' → frA q = frA q' → toA q = toA q' → Si42.puts q = Si42.puts q' → wdA q = wdA q' → q = q'
  | .change _ _ _, .change _ _ _, _, e1, e2, _, e3 => by simp_all [frA, toA, wdA]
  | .keep _ _, .keep _ _, _, e1, e2, _, e3 => by simp_all [frA, toA, wdA]
  | .move _ _ _, .move _ _ _, _, e1, e2, e4, e3 => by simp_all [frA, toA, wdA, Si42.puts]
  | .change _ _ _, .keep _ _, e, _, _, _, _ => by simp [kdA] at e
  | .change _ _ _, .move _ _ _, e, _, _, _, _ => by simp [kdA] at e
  | .keep _ _, .change _ _ _, e, _, _, _, _ => by simp [kdA] at e
  | .keep _ _, .move _ _ _, e, _, _, _, _ => by simp [kdA] at e
  | .move _ _ _, .change _ _ _, e, _, _, _, _ => by simp [kdA] at e
  | .move _ _ _, .keep _ _, e, _, _, _, _ => by simp [kdA] at e
theorem MarkAt.uniq {a l l' : Addr} {r r' s s' : Nat} {q q' : Si42.Ask} {c c' : V} (h : MarkAt CM H a l r q s c) (h' : MarkAt CM H a l' r' q' s' c') : l = l' ∧ r = r' ∧ q = q' ∧ s = s' ∧ c = c' := by
  obtain ⟨⟨dx, h1⟩, h2⟩ := h
  obtain ⟨⟨dx', h3⟩, h4⟩ := h'
  rw [h1] at h3
  simp only [Option.some.injEq, HO.ins.injEq, mf, List.cons.injEq, Prod.mk.injEq, V.int.injEq, V.ref.injEq, Int.ofNat_inj, true_and, and_true] at h3
  obtain ⟨_, e1, e2, e3, e4, e5, e6, e7, e8⟩ := h3
  subst e6
  rw [h2] at h4
  simp only [Option.some.injEq, HO.lst.injEq] at h4
  exact ⟨rfl, e1, ask_ext e2 e3 e4 (gapV_inj e5) (natsV_inj h4), e7, e8⟩
theorem spBreaks_eq {a l : Addr} {r s : Nat} {q : Si42.Ask} {c : V} {i j : Nat} {R : VK} {E : XK} (h : MarkAt CM H a l r q s c) (n : notKeep q) : spBreaks CM [.ref a, .int i, .int j] H R E = R (.bl (brA q i j)) H := by
  apply propext
  constructor
  · rintro ⟨a', l', r', q', s', c', i', j', e, h', _, k⟩
    simp only [List.cons.injEq, V.ref.injEq, V.int.injEq, Int.ofNat_inj, and_true] at e
    obtain ⟨rfl, rfl, rfl⟩ := e
    obtain ⟨_, _, rfl, _⟩ := h.uniq h'
    exact k
  · intro k
    exact ⟨a, l, r, q, s, c, i, j, rfl, h, n, k⟩
theorem spSame_eq {a b l l' : Addr} {r r' s s' : Nat} {q q' : Si42.Ask} {c c' : V} {R : VK} {E : XK} (h : MarkAt CM H a l r q s c) (h' : MarkAt CM H b l' r' q' s' c') : spSame CM [.ref a, .ref b] H R E = R (.bl (decide (q = q'))) H := by
  apply propext
  constructor
  · rintro ⟨_, _, l1, l2, r1, r2, q1, q2, s1, s2, c1, c2, e, h1, h2, k⟩
    simp only [List.cons.injEq, V.ref.injEq, and_true] at e
    obtain ⟨rfl, rfl⟩ := e
    obtain ⟨_, _, rfl, _⟩ := h.uniq h1
    obtain ⟨_, _, rfl, _⟩ := h'.uniq h2
    exact k
  · intro k
    exact ⟨a, b, l, l', r, r', q, q', s, s', c, c', rfl, h, h', k⟩
def wfA : Si42.Ask → Prop
  | .change i j _ => i ≤ j
  | .keep i j => i < j
  | .move i j _ => i < j
def codeClash (q q' : Si42.Ask) : Bool := if q = q' then false else match q, q' with
  | .keep _ _, .keep _ _ => false
  | .keep i j, b => brA b i j
  | a, .keep i j => brA a i j
  | a, b => decide (Si42.puts a = Si42.puts b) || (brA a (frA b) (toA b) || brA b (frA a) (toA a))
theorem clash_code {q q' : Si42.Ask} (w : wfA q) (w' : wfA q') : Si42.clash q q' = codeClash q q' := by
  unfold Si42.clash codeClash
  split
  · rfl
  · cases q <;> cases q' <;> dsimp only [Si42.breaks, Si42.meets, Si42.within, Si42.taken, Si42.puts, brA, tkA, frA, toA, wfA] at w w' ⊢ <;> rw [Bool.eq_iff_iff] <;>
      simp only [Bool.or_eq_true, Bool.and_eq_true, decide_eq_true_eq, beq_iff_eq, Option.some.injEq, iff_true, true_iff, or_true, Nat.max_lt, Nat.lt_min] <;> omega
def spGain (CM : Addr) : Sp := fun vs H Q _ => ∃ a b l l' r r' q q' s s' c c', vs = [.ref a, .ref b] ∧ MarkAt CM H a l r q s c ∧ MarkAt CM H b l' r' q' s' c' ∧ wfA q ∧ wfA q' ∧ Q (.bl (Si42.clash q q')) H
theorem ok_gain {f : Addr} {fd : FuncData} (T : Facts G.K G.mg CM CC CP) (F_ask_the_same : Fn G "ask_the_same" ["one", "other"] 1 (spSame CM)) (F_breaks_into : Fn G "breaks_into" ["mark", "start", "end"] 2 (spBreaks CM))
    (F : Fun G.K "gainsay" "gainsay" s_gainsay f fd) : FnOk G.P G.w G.K G.mg G.base CX0 3 f fd ["one", "other"] (spGain CM) := by
  refine F.ok sc_gainsay (fun vs H Q E h => ?_) (fun cdv A outer s H vs Q E hr h => ?_)
  · obtain ⟨a, b, l, l', r, r', q, q', s, s', c, c', rfl, _⟩ := h; rfl
  · obtain ⟨a, b, l, l', r, r', q, q', s, s', c, c', rfl, ha, hb, wq, wq', k⟩ := h
    refine ⟨_, (pss_cons (ps_if (pt_tru (pe_fn F_ask_the_same hr rfl (pa_cons (pv 0) (pa_cons (pv 1) pa_nil)))) (pss_one (ps_ret pe_bl)) pss_nil)
      (pss_cons (ps_if (PW.pt (pw_and (pt_cmpR op_eq (pe_fld (pv 0) rfl) (pe_gv T.g_KEEP) (nomark _)) (pw_and1 (pt_cmpR op_eq (pe_fld (pv 1) rfl) (pe_gv T.g_KEEP) (nomark _))))) (pss_one (ps_ret pe_bl)) pss_nil)
      (pss_cons (ps_if (pt_cmpR op_eq (pe_fld (pv 0) rfl) (pe_gv T.g_KEEP) (nomark _)) (pss_one (ps_ret (pe_fn F_breaks_into hr rfl (pa_cons (pv 1) (pa_cons (pe_fld (pv 0) rfl) (pa_cons (pe_fld (pv 0) rfl) pa_nil)))))) pss_nil)
      (pss_cons (ps_if (pt_cmpR op_eq (pe_fld (pv 1) rfl) (pe_gv T.g_KEEP) (nomark _)) (pss_one (ps_ret (pe_fn F_breaks_into hr rfl (pa_cons (pv 0) (pa_cons (pe_fld (pv 1) rfl) (pa_cons (pe_fld (pv 1) rfl) pa_nil)))))) pss_nil)
      (pss_cons (ps_if (pt_cmpR op_eq (pe_fld (pv 0) rfl) (pe_fld (pv 1) rfl) (nomark _)) (pss_one (ps_ret pe_bl)) pss_nil)
      (pss_one (ps_ret (pe_or (pe_fn F_breaks_into hr rfl (pa_cons (pv 0) (pa_cons (pe_fld (pv 1) rfl) (pa_cons (pe_fld (pv 1) rfl) pa_nil)))) (pe_one (pe_fn F_breaks_into hr rfl (pa_cons (pv 1) (pa_cons (pe_fld (pv 0) rfl) (pa_cons (pe_fld (pv 0) rfl) pa_nil))))))))))))), ?_⟩
    have ra := ha.rd T
    have rb := hb.rd T
    have br : notKeep q → ∀ (i j : Nat) (R : VK) (E : XK), spBreaks CM [.ref a, .int i, .int j] H R E = R (.bl (brA q i j)) H := fun n i j R E => spBreaks_eq ha n
    have br' : notKeep q' → ∀ (i j : Nat) (R : VK) (E : XK), spBreaks CM [.ref b, .int i, .int j] H R E = R (.bl (brA q' i j)) H := fun n i j R E => spBreaks_eq hb n
    have sm : ∀ (R : VK) (E : XK), spSame CM [.ref a, .ref b] H R E = R (.bl (decide (q = q'))) H := fun R E => spSame_eq ha hb
    clear hr F F_ask_the_same F_breaks_into T ha hb
    refine (?_ : _)
    cases q <;> cases q' <;> simp only [notKeep, true_implies, false_implies] at br br' <;> walk_at "rds" <;> clear ra rb br br' sm
    all_goals rw [clash_code wq wq'] at k
    all_goals simp [kdA, Si42.puts]
    all_goals repeat' split
    all_goals refine leaf k ?_
    all_goals (clear k wq wq'; simp_all [codeClash, Si42.puts, frA, toA])
    all_goals (rename_i h1 _; exact Classical.not_and_iff_not_or_not.mp (fun z => h1 z.1 z.2))
end
section
variable {G : Env1} {CM CC CP : Addr} {H : Hp}
theorem spGain_eq {a b l l' : Addr} {r r' s s' : Nat} {q q' : Si42.Ask} {c c' : V} {R : VK} {E : XK} (h : MarkAt CM H a l r q s c) (h' : MarkAt CM H b l' r' q' s' c') (w : wfA q) (w' : wfA q') : spGain CM [.ref a, .ref b] H R E = R (.bl (Si42.clash q q')) H := by
  apply propext
  constructor
  · rintro ⟨_, _, l1, l2, r1, r2, q1, q2, s1, s2, c1, c2, e, h1, h2, _, _, k⟩
    simp only [List.cons.injEq, V.ref.injEq, and_true] at e
    obtain ⟨rfl, rfl⟩ := e
    obtain ⟨_, _, rfl, _⟩ := h.uniq h1
    obtain ⟨_, _, rfl, _⟩ := h'.uniq h2
    exact k
  · intro k
    exact ⟨a, b, l, l', r, r', q, q', s, s', c, c', rfl, h, h', w, w', k⟩
theorem MarkAt.same {H H' : Hp} {a l : Addr} {r s : Nat} {q : Si42.Ask} {c : V} (h : MarkAt CM H a l r q s c) (e : Same H H') : MarkAt CM H' a l r q s c := by
  obtain ⟨⟨dx, h1⟩, h2⟩ := h
  exact ⟨⟨dx, e _ _ h1⟩, e _ _ h2⟩
def spInitM (CM : Addr) : Sp := fun vs H Q _ => ∃ (a dx : Addr) (r k i j g w : V), vs = [.ref a, r, k, i, j, g, w] ∧ H a = some (.ins CM dx []) ∧ Q .non (upd H a (.ins CM dx (mf r k i j g w (.int 0) .non)))
theorem ok_initM {f : Addr} {fd : FuncData} (T : Facts G.K G.mg CM CC CP) (F : Fun G.K "__init__" "Mark.__init__" s_Mark___init__ f fd) : FnOk G.P G.w G.K G.mg G.base CX0 1 f fd ["self", "reader", "kind", "start", "end", "gap", "words"] (spInitM CM) := by
  refine F.ok sc_Mark___init__ (fun vs H Q E h => ?_) (fun cdv A outer s H vs Q E hr h => ?_)
  · obtain ⟨a, dx, r, k, i, j, g, w, rfl, _⟩ := h; rfl
  · obtain ⟨a, dx, r, k, i, j, g, w, rfl, ha, q⟩ := h
    refine ⟨_, (pss_cons (ps_fld (pv 0) (pv 1) rfl)
      (pss_cons (ps_fld (pv 0) (pv 2) rfl)
      (pss_cons (ps_fld (pv 0) (pv 3) rfl)
      (pss_cons (ps_fld (pv 0) (pv 4) rfl)
      (pss_cons (ps_fld (pv 0) (pv 5) rfl)
      (pss_cons (ps_fld (pv 0) (pv 6) rfl)
      (pss_cons (ps_fld (pv 0) (pe_gv T.g_STANDS_OPEN) rfl)
      (pss_one (ps_fld (pv 0) pe_non rfl))))))))), ?_⟩
    walk_at "rd"
    refine (setR_of ha T.cl_Mark T.n_Mark_reader (by decide)).mpr ?_
    walk_at "rd"
    refine (setR_of upd_same T.cl_Mark T.n_Mark_kind (by show (1 : Nat) < 1000; decide)).mpr ?_
    walk_at "rd"
    refine (setR_of upd_same T.cl_Mark T.n_Mark_start (by show (2 : Nat) < 1000; decide)).mpr ?_
    walk_at "rd"
    refine (setR_of upd_same T.cl_Mark T.n_Mark_end (by show (3 : Nat) < 1000; decide)).mpr ?_
    walk_at "rd"
    refine (setR_of upd_same T.cl_Mark T.n_Mark_gap (by show (4 : Nat) < 1000; decide)).mpr ?_
    walk_at "rd"
    refine (setR_of upd_same T.cl_Mark T.n_Mark_words (by show (5 : Nat) < 1000; decide)).mpr ?_
    walk_at "rd"
    refine (setR_of upd_same T.cl_Mark T.n_Mark_state (by show (6 : Nat) < 1000; decide)).mpr ?_
    walk_at "rd"
    refine (setR_of upd_same T.cl_Mark T.n_Mark_closed_in (by show (7 : Nat) < 1000; decide)).mpr ?_
    simp only [upd_upd]
    exact q
def spNewM (CM : Addr) (H : Hp) (r : Nat) (q : Si42.Ask) (Q : VK) : Prop := ∀ (H' : Hp) (a l : Addr), Same H H' → H a = none → H l = none → MarkAt CM H' a l r q 0 .non → Q (.ref a) H'
def spChM (CM : Addr) : Sp := fun vs H Q _ => ∃ (r i j : Nat) (lw : Addr) (w : List Nat), vs = [.int r, .int i, .int j, .ref lw] ∧ Ls H lw (natsV w) ∧ spNewM CM H r (.change i j w) Q
def spKeM (CM : Addr) : Sp := fun vs H Q _ => ∃ (r i j : Nat), vs = [.int r, .int i, .int j] ∧ spNewM CM H r (.keep i j) Q
def spMoM (CM : Addr) : Sp := fun vs H Q _ => ∃ (r i j k : Nat), vs = [.int r, .int i, .int j, .int k] ∧ spNewM CM H r (.move i j k) Q
theorem new_mark {H : Hp} {l x dx : Addr} {r : Nat} {q : Si42.Ask} {Q : VK} (hl : H l = none) (hx : upd H l (.lst (natsV (wdA q))) x = none) (hdx : upd H l (.lst (natsV (wdA q))) dx = none) (hne : dx ≠ x) (k : spNewM CM H r q Q)
    {rV kV' iV jV gV : V} (e1 : rV = .int r) (e2 : kV' = .int (kdA q)) (e3 : iV = .int (frA q)) (e4 : jV = .int (toA q)) (e5 : gV = gapV (Si42.puts q)) :
    Q (.ref x) (upd (upd (upd (upd H l (.lst (natsV (wdA q)))) dx (.own x)) x (.ins CM dx [])) x (.ins CM dx (mf rV kV' iV jV gV (.ref l) (.int 0) .non))) := by
  subst e1 e2 e3 e4 e5
  have hlx : l ≠ x := ne_of_none upd_same hx
  have hld : l ≠ dx := ne_of_none upd_same hdx
  have hx0 : H x = none := by rw [upd_ne (Ne.symm hlx)] at hx; exact hx
  have hd0 : H dx = none := by rw [upd_ne (Ne.symm hld)] at hdx; exact hdx
  refine k _ x l ?_ hx0 hl ⟨⟨dx, upd_same⟩, ?_⟩
  · exact same_upd (same_upd (same_upd (same_upd (Same.refl _) hl) hd0) hx0) hx0
  · rw [upd_ne hlx, upd_ne hlx, upd_ne hld, upd_same]
theorem ok_chM {f : Addr} {fd : FuncData} (T : Facts G.K G.mg CM CC CP) (K_Mark : Md G "Mark" CM ["self", "reader", "kind", "start", "end", "gap", "words"] 1 (spInitM CM)) (F : Fun G.K "change_mark" "change_mark" s_change_mark f fd) : FnOk G.P G.w G.K G.mg G.base CX0 4 f fd ["reader", "start", "end", "words"] (spChM CM) := by
  refine F.ok sc_change_mark (fun vs H Q E h => ?_) (fun cdv A outer s H vs Q E hr h => ?_)
  · obtain ⟨r, i, j, lw, w, rfl, _⟩ := h; rfl
  · obtain ⟨r, i, j, lw, w, rfl, hw, k⟩ := h
    refine ⟨_, (pss_one (ps_ret (pe_mk K_Mark hr rfl (pa_cons (pv 0) (pa_cons (pe_gv T.g_CHANGE) (pa_cons (pv 1) (pa_cons (pv 2) (pa_cons (pv 1) (pa_cons (pe_callTy call_lsN (by rfl) T.b_list bt_list (pa_cons (pv 3) pa_nil)) pa_nil))))))))), ?_⟩
    have rw' := hw.rd
    walk_at "rd"
    simp only [rw']
    intro l hl
    walk_at "rd"
    intro x dx hx hdx hne
    refine ⟨x, dx, _, _, _, _, _, _, rfl, upd_same, rfl, ?_⟩
    exact new_mark (q := .change i j w) hl hx hdx hne k rfl rfl rfl rfl rfl
theorem ok_keM {f : Addr} {fd : FuncData} (T : Facts G.K G.mg CM CC CP) (K_Mark : Md G "Mark" CM ["self", "reader", "kind", "start", "end", "gap", "words"] 1 (spInitM CM)) (F : Fun G.K "keep_mark" "keep_mark" s_keep_mark f fd) : FnOk G.P G.w G.K G.mg G.base CX0 4 f fd ["reader", "start", "end"] (spKeM CM) := by
  refine F.ok sc_keep_mark (fun vs H Q E h => ?_) (fun cdv A outer s H vs Q E hr h => ?_)
  · obtain ⟨r, i, j, rfl, _⟩ := h; rfl
  · obtain ⟨r, i, j, rfl, k⟩ := h
    refine ⟨_, (pss_one (ps_ret (pe_mk K_Mark hr rfl (pa_cons (pv 0) (pa_cons (pe_gv T.g_KEEP) (pa_cons (pv 1) (pa_cons (pv 2) (pa_cons pe_non (pa_cons (pe_lst pa_nil) pa_nil))))))))), ?_⟩
    walk_at "rd"
    refine ⟨Nat.zero_le _, fun l hl => ?_⟩
    walk_at "rd"
    intro x dx hx hdx hne
    refine ⟨x, dx, _, _, _, _, _, _, rfl, upd_same, rfl, ?_⟩
    exact new_mark (q := .keep i j) hl hx hdx hne k rfl rfl rfl rfl rfl
theorem ok_moM {f : Addr} {fd : FuncData} (T : Facts G.K G.mg CM CC CP) (K_Mark : Md G "Mark" CM ["self", "reader", "kind", "start", "end", "gap", "words"] 1 (spInitM CM)) (F : Fun G.K "move_mark" "move_mark" s_move_mark f fd) : FnOk G.P G.w G.K G.mg G.base CX0 4 f fd ["reader", "start", "end", "gap"] (spMoM CM) := by
  refine F.ok sc_move_mark (fun vs H Q E h => ?_) (fun cdv A outer s H vs Q E hr h => ?_)
  · obtain ⟨r, i, j, k, rfl, _⟩ := h; rfl
  · obtain ⟨r, i, j, k', rfl, k⟩ := h
    refine ⟨_, (pss_one (ps_ret (pe_mk K_Mark hr rfl (pa_cons (pv 0) (pa_cons (pe_gv T.g_MOVE) (pa_cons (pv 1) (pa_cons (pv 2) (pa_cons (pv 3) (pa_cons (pe_lst pa_nil) pa_nil))))))))), ?_⟩
    walk_at "rd"
    refine ⟨Nat.zero_le _, fun l hl => ?_⟩
    walk_at "rd"
    intro x dx hx hdx hne
    refine ⟨x, dx, _, _, _, _, _, _, rfl, upd_same, rfl, ?_⟩
    exact new_mark (q := .move i j k') hl hx hdx hne k rfl rfl rfl rfl rfl
def MksAt (CM : Addr) (H : Hp) (lm : Addr) (rd : Nat → Nat) (o : List (Nat × Si42.Ask)) : Prop := ∃ as : List Addr, H lm = some (.lst (as.map V.ref)) ∧ ∀ x ∈ o, ∃ a l s c, as[x.1]? = some a ∧ MarkAt CM H a l (rd x.1) x.2 s c
theorem MksAt.same {H H' : Hp} {lm : Addr} {rd : Nat → Nat} {o : List (Nat × Si42.Ask)} (h : MksAt CM H lm rd o) (e : Same H H') : MksAt CM H' lm rd o := by
  obtain ⟨as, h1, h2⟩ := h
  refine ⟨as, e _ _ h1, fun x hx => ?_⟩
  obtain ⟨a, l, s, c, h3, h4⟩ := h2 x hx
  exact ⟨a, l, s, c, h3, h4.same e⟩
theorem MksAt.at {H : Hp} {lm : Addr} {rd : Nat → Nat} {o : List (Nat × Si42.Ask)} (h : MksAt CM H lm rd o) {x : Nat × Si42.Ask} (hx : x ∈ o) : ∃ a l s c, MarkAt CM H a l (rd x.1) x.2 s c ∧ ∀ Q, ixR (.ref lm) (.int x.1) H Q = Q (.ref a) H := by
  obtain ⟨as, h1, h2⟩ := h
  obtain ⟨a, l, s, c, h3, h4⟩ := h2 x hx
  refine ⟨a, l, s, c, h4, fun Q => ?_⟩
  rw [ixR_of (Ls.of h1), ixV_nat (v := .ref a) (by rw [List.getElem?_map, h3]; rfl)]
theorem MksAt.sub {H : Hp} {lm : Addr} {rd : Nat → Nat} {o o' : List (Nat × Si42.Ask)} (h : MksAt CM H lm rd o) (s : ∀ x ∈ o', x ∈ o) : MksAt CM H lm rd o' := by
  obtain ⟨as, h1, h2⟩ := h
  exact ⟨as, h1, fun x hx => h2 x (s x hx)⟩
abbrev numsV (o : List (Nat × Si42.Ask)) : List V := o.map fun x => V.int (x.1 : Nat)
def inPairs (o : List (Nat × Si42.Ask)) (x : Nat × Si42.Ask) (r : List (Nat × Si42.Ask)) : List (Nat × Nat) := (r.filter fun y => decide (x.1 < y.1) && Si42.clash x.2 y.2).map fun y => (x.1, y.1)
def spPairs (CM : Addr) : Sp := fun vs H Q _ => ∃ (lm ln : Addr) (rd : Nat → Nat) (o : List (Nat × Si42.Ask)), vs = [.ref lm, .ref ln] ∧ MksAt CM H lm rd o ∧ Ls H ln (numsV o) ∧ (∀ x ∈ o, wfA x.2) ∧ o.length ≤ 100 ∧
  ∀ (H' : Hp) (l : Addr) (as : List Addr), Same H H' → H l = none → H' l = some (.lst (as.map V.ref)) → Prs H' as (pairsOf o) → Q (.ref l) H'
theorem take_snoc {α : Type} {l : List α} {i : Nat} {x : α} (h : l[i]? = some x) : l.take (i + 1) = l.take i ++ [x] := by
  rw [List.take_add_one, h]
  rfl
theorem ok_pairs {f : Addr} {fd : FuncData} (T : Facts G.K G.mg CM CC CP) (F_gainsay : Fn G "gainsay" ["one", "other"] 3 (spGain CM)) (F : Fun G.K "clashing_pairs" "clashing_pairs" s_clashing_pairs f fd) : FnOk G.P G.w G.K G.mg G.base CX0 4 f fd ["marks", "numbers"] (spPairs CM) := by
  refine F.ok sc_clashing_pairs (fun vs H Q E h => ?_) (fun cdv A outer s H vs Q E hr h => ?_)
  · obtain ⟨lm, ln, rd, o, rfl, _⟩ := h; rfl
  · obtain ⟨lm, ln, rd, o, rfl, hm, hn, hw, hlen, k⟩ := h
    have nd := sc_clashing_pairs.nd
    refine ⟨_, (pss_cons (ps_set (i := 2) nd rfl (Or.inl rfl) (pe_lst pa_nil))
      (pss_cons (ps_for PassesOwn.never rfl (pi_list (pv 1)) (pg_name (i := 3) nd rfl (Or.inl rfl))
      (pss_one (ps_for PassesOwn.never rfl (pi_list (pv 1)) (pg_name (i := 4) nd rfl (Or.inl rfl))
      (pss_one (ps_if (PW.pt (pw_and (pt_cmpR op_lt (pv 3) (pv 4) (nomark _)) (pw_and1 (pt_tru (pe_fn F_gainsay hr rfl (pa_cons (pe_ix ix_lst (pv 0) (pv 3) (fun _ _ => rfl)) (pa_cons (pe_ix ix_lst (pv 0) (pv 4) (fun _ _ => rfl)) pa_nil))))))) (pss_one (ps_expr (pe_bm PySem.F.plainAttrs_list PySem.F.slot_list_append PySem.F.type_list_append mt_append (pv 2) (pa_cons (pe_tup (pa_cons (pv 3) (pa_cons (pv 4) pa_nil))) pa_nil)))) pss_nil)))))
      (pss_one (ps_ret (pv 2))))), ?_⟩
    walk_at "rd"
    refine ⟨Nat.zero_le _, fun g hg => ?_⟩
    have hsz : (1000000 : Nat) ≤ sizeLine := by decide
    let I1 : Nat → L2.St → Hp → Prop := fun i σ H' => ∃ (as : List Addr) (v3 v4 : Option V), σ = [some (.ref lm), some (.ref ln), some (.ref g), v3, v4] ∧ Same H H' ∧ H' g = some (.lst (as.map V.ref)) ∧ Prs H' as ((o.take i).flatMap fun x => inPairs o x o) ∧ as.length ≤ i * o.length
    refine ⟨_, rfl, ln, rfl, ⟨_, (same_ls (same_new hg) hn).sq⟩, for_mapL (xs := o) (f := fun x => V.int (x.1 : Nat)) I1 ⟨[], none, none, rfl, same_new hg, upd_same, .nil, Nat.zero_le _⟩ ?_ ?_ ?_⟩
    · rintro i σ1 H1 _ ⟨as, v3, v4, _, s1, _⟩
      exact (same_ls s1 hn).sq
    · rintro i x σ1 H1 hx ⟨as, v3, v4, rfl, s1, h1, h2, h3⟩
      walk_at "rd"
      let I2 : Nat → L2.St → Hp → Prop := fun j σ H' => ∃ (as : List Addr) (v4 : Option V), σ = [some (.ref lm), some (.ref ln), some (.ref g), some (.int (x.1 : Nat)), v4] ∧ Same H H' ∧ H' g = some (.lst (as.map V.ref)) ∧ Prs H' as (((o.take i).flatMap fun x => inPairs o x o) ++ inPairs o x (o.take j)) ∧ as.length ≤ i * o.length + j
      refine ⟨_, rfl, ln, rfl, ⟨_, (same_ls s1 hn).sq⟩, for_mapL (xs := o) (f := fun x => V.int (x.1 : Nat)) I2 ⟨as, v4, rfl, s1, h1, by rw [List.take_zero]; simpa [inPairs] using h2, h3⟩ ?_ ?_ ?_⟩
      · rintro j σ2 H2 _ ⟨as, v4, _, s1, _⟩
        exact (same_ls s1 hn).sq
      · rintro j y σ2 H2 hy ⟨as, v4, rfl, s2, h4, h5, h6⟩
        have hmx := (hm.same s2).at (List.mem_of_getElem? hx)
        have hmy := (hm.same s2).at (List.mem_of_getElem? hy)
        obtain ⟨a, l, s', c, ma, ra⟩ := hmx
        obtain ⟨b, l', s'', c', mb, rb⟩ := hmy
        have hg' := fun (R : VK) (E : XK) => spGain_eq (R := R) (E := E) ma mb (hw _ (List.mem_of_getElem? hx)) (hw _ (List.mem_of_getElem? hy))
        have lg := lw_rd h4
        walk_at "rd"
        simp only [ra, rb, hg']
        walk_at "rd"
        have hil : i < o.length := (List.getElem?_eq_some_iff.mp hx).1
        have hjl : j < o.length := (List.getElem?_eq_some_iff.mp hy).1
        have hbig : i * o.length + j < 1000000 := by
          have : i * o.length ≤ 100 * 100 := Nat.mul_le_mul (by omega) hlen
          omega
        have nope : ¬ (x.1 < y.1 ∧ Si42.clash x.2 y.2 = true) → I2 (j + 1) [some (.ref lm), some (.ref ln), some (.ref g), some (.int (x.1 : Nat)), some (.int (y.1 : Nat))] H2 := fun hno => by
          refine ⟨as, _, rfl, s2, h4, ?_, by omega⟩
          have e : inPairs o x (o.take (j + 1)) = inPairs o x (o.take j) := by
            unfold inPairs
            rw [take_snoc hy, List.filter_append]
            have : ([y].filter fun y => decide (x.1 < y.1) && Si42.clash x.2 y.2) = [] := by
              rw [List.filter_cons, if_neg (by simpa using hno)]
              rfl
            rw [this, List.append_nil]
          rw [e]
          exact h5
        split
        · rename_i hlt
          have hlt : x.1 < y.1 := by omega
          split
          · rename_i hc
            refine ⟨?_, ?_⟩
            · simp only [lg]
            refine ⟨by decide, fun t ht => ?_⟩
            have hgt : g ≠ t := ne_of_none h4 ht
            have h4' : upd H2 t (.tup [.int (x.1 : Nat), .int (y.1 : Nat)]) g = some (.lst (as.map V.ref)) := by rw [upd_ne hgt]; exact h4
            have lg' := lw_rd h4'
            simp only [lg']
            refine ⟨by rw [List.length_map]; omega, as ++ [t], _, rfl, same_upd (s2.trans (same_new ht)) hg, ?_, ?_, ?_⟩
            · rw [upd_same, List.map_append]
              rfl
            · have e : inPairs o x (o.take (j + 1)) = inPairs o x (o.take j) ++ [(x.1, y.1)] := by
                unfold inPairs
                rw [take_snoc hy, List.filter_append, List.map_append]
                have : ([y].filter fun y => decide (x.1 < y.1) && Si42.clash x.2 y.2) = [y] := by
                  rw [List.filter_cons, if_pos (by simpa using ⟨hlt, hc⟩)]
                  rfl
                rw [this]
                rfl
              rw [e, ← List.append_assoc]
              refine pr_app (pr_on h5 fun b hb z ez => ?_) (.cons ?_ .nil)
              · rw [upd_ne (ne_of ez h4 (by intro z; cases z)), upd_ne (ne_of_none ez ht)]
                exact ez
              · rw [upd_ne (Ne.symm hgt), upd_same]
            · rw [List.length_append]
              simp
              omega
          · rename_i hc
            exact nope fun z => hc z.2
        · rename_i hlt
          exact nope fun z => hlt (by have := z.1; omega)
      · rintro σ2 H2 ⟨as, v4, rfl, s2, h4, h5, h6⟩
        refine ⟨as, _, _, rfl, s2, h4, ?_, ?_⟩
        · rw [take_snoc hx, List.flatMap_append]
          rw [List.take_length] at h5
          simpa using h5
        · rw [Nat.succ_mul]
          exact h6
    · rintro σ1 H1 ⟨as, v3, v4, rfl, s1, h1, h2, h3⟩
      walk_at "rd"
      rw [List.take_length] at h2
      exact k H1 g as s1 hg h1 h2
def spAsked (CM : Addr) : Sp := fun vs H Q _ => ∃ (a l : Addr) (r : Nat) (q : Si42.Ask) (s : Nat) (c : V), vs = [.ref a] ∧ MarkAt CM H a l r q s c ∧ (wdA q).length ≤ 100 ∧ ∀ (H' : Hp) (l : Addr), Same H H' → H l = none → H' l = some (.lst (natsV (Si42.askOut q))) → Q (.ref l) H'
theorem ok_asked {f : Addr} {fd : FuncData} (T : Facts G.K G.mg CM CC CP) (F : Fun G.K "asked_by" "asked_by" s_asked_by f fd) : FnOk G.P G.w G.K G.mg G.base CX0 1 f fd ["mark"] (spAsked CM) := by
  refine F.ok sc_asked_by (fun vs H Q E h => ?_) (fun cdv A outer s H vs Q E hr h => ?_)
  · obtain ⟨a, l, r, q, s, c, rfl, _⟩ := h; rfl
  · obtain ⟨a, l, r, q, s', c, rfl, hm, hl, k⟩ := h
    have nd := sc_asked_by.nd
    refine ⟨_, (pss_cons (ps_set (i := 1) nd rfl (Or.inl rfl) (pe_lst (pa_cons (pe_fld (pv 0) rfl) (pa_cons (pe_fld (pv 0) rfl) (pa_cons (pe_fld (pv 0) rfl) pa_nil)))))
      (pss_cons (ps_if (pt_cmpR op_eq (pe_fld (pv 0) rfl) (pe_gv T.g_CHANGE) (nomark _)) (pss_one (ps_ret (pe_op op_cat (pe_op op_cat (pv 1) (pe_lst (pa_cons (pe_callB call_lenN (by rfl) T.b_len bt_len (pa_cons (pe_fld (pv 0) rfl) pa_nil)) pa_nil))) (pe_fld (pv 0) rfl)))) pss_nil)
      (pss_cons (ps_if (pt_cmpR op_eq (pe_fld (pv 0) rfl) (pe_gv T.g_MOVE) (nomark _)) (pss_one (ps_ret (pe_op op_cat (pv 1) (pe_lst (pa_cons (pe_fld (pv 0) rfl) pa_nil))))) pss_nil)
      (pss_one (ps_ret (pv 1)))))), ?_⟩
    have rm := hm.rd T
    walk_at "rd"
    simp only [rm]
    walk_at "rd"
    refine ⟨by decide, fun l1 h1 => ?_⟩
    have s1 : Same H (upd H l1 (.lst [.int (kdA q : Nat), .int (frA q : Nat), .int (toA q : Nat)])) := same_new h1
    have rm1 := (hm.same s1).rd T
    have hwd := hm.wd
    have hwd1 := s1 _ _ hwd
    have rw1 := (Ls.of hwd1).rd
    simp only [rm1, rw1]
    walk_at "rd"
    have hsz : (1000 : Nat) ≤ sizeLine := by decide
    have hl1 : ∀ H', Same (upd H l1 (.lst [.int (kdA q : Nat), .int (frA q : Nat), .int (toA q : Nat)])) H' → H' l1 = some (.lst [.int (kdA q : Nat), .int (frA q : Nat), .int (toA q : Nat)]) := fun H' s' => s' _ _ upd_same
    cases q with
    | change i j w =>
      rw [if_pos (show ((kdA (.change i j w) : Nat) : Int) = 0 from rfl)]
      simp only [rm1, rw1]
      refine ⟨by decide, fun l2 h2 => ?_⟩
      have s2 := same_new (o := .lst [V.int ((natsV (wdA (.change i j w))).length : Nat)]) h2
      have c2 := lw_rd (hl1 _ s2)
      simp only [c2]
      refine ⟨_, upd_same, by show (4 : Nat) ≤ sizeLine; decide, fun l3 h3 => ?_⟩
      have s3 := same_new (o := .lst ([V.int (kdA (.change i j w) : Nat), .int (frA (.change i j w) : Nat), .int (toA (.change i j w) : Nat)] ++ [V.int ((natsV (wdA (.change i j w))).length : Nat)])) h3
      have rm3 := (((hm.same s1).same s2).same s3).rd T
      have c3 := lw_rd (H := upd (upd (upd H l1 (.lst [.int (kdA (.change i j w) : Nat), .int (frA (.change i j w) : Nat), .int (toA (.change i j w) : Nat)])) l2 (.lst [V.int ((natsV (wdA (.change i j w))).length : Nat)])) l3 (.lst ([V.int (kdA (.change i j w) : Nat), .int (frA (.change i j w) : Nat), .int (toA (.change i j w) : Nat)] ++ [V.int ((natsV (wdA (.change i j w))).length : Nat)]))) (p := l3) upd_same
      simp only [rm3, c3]
      refine ⟨_, s3 _ _ (s2 _ _ hwd1), ?_, fun l4 h4 => ?_⟩
      · rw [natsV_length]
        simp only [List.length_append, List.length_cons, List.length_nil, wdA] at hl ⊢
        omega
      · refine k _ l4 (((s1.trans s2).trans s3).trans (same_new h4)) (fresh_none ((s1.trans s2).trans s3) h4) ?_
        rw [upd_same, natsV_length]
        rfl
    | keep i j =>
      rw [if_neg (show ¬ ((kdA (.keep i j) : Nat) : Int) = 0 from (by decide : ¬ ((1 : Nat) : Int) = 0))]
      simp only [rm1]
      walk_at "rd"
      rw [if_neg (show ¬ ((kdA (.keep i j) : Nat) : Int) = 2 from (by decide : ¬ ((1 : Nat) : Int) = 2))]
      exact k _ l1 s1 h1 upd_same
    | move i j k' =>
      rw [if_neg (show ¬ ((kdA (.move i j k') : Nat) : Int) = 0 from (by decide : ¬ ((2 : Nat) : Int) = 0))]
      simp only [rm1]
      walk_at "rd"
      rw [if_pos (show ((kdA (.move i j k') : Nat) : Int) = 2 from rfl)]
      simp only [rm1]
      refine ⟨by decide, fun l2 h2 => ?_⟩
      have s2 := same_new (o := .lst [gapV (Si42.puts (.move i j k'))]) h2
      have c2 := lw_rd (hl1 _ s2)
      simp only [c2]
      refine ⟨_, upd_same, by show (4 : Nat) ≤ sizeLine; decide, fun l3 h3 => ?_⟩
      exact k _ l3 ((s1.trans s2).trans (same_new h3)) (fresh_none (s1.trans s2) h3) upd_same
end
section
variable {G : Env1} {CM CC CP : Addr}
def isWord (z : Int) : Bool := decide (1 ≤ z) && decide (z ≤ 99999)
def spWords : Sp := fun vs H Q _ => ∃ (a : Addr) (ns : List Int), vs = [.ref a] ∧ Ls H a (intsV ns) ∧ ns.length ≤ sizeLine ∧ ∀ H', Same H H' → Q (.bl (ns.all isWord)) H'
theorem ok_words {f : Addr} {fd : FuncData} (T : Facts G.K G.mg CM CC CP) (F : Fun G.K "are_words" "are_words" s_are_words f fd) : FnOk G.P G.w G.K G.mg G.base CX0 1 f fd ["numbers"] spWords := by
  refine F.ok sc_are_words (fun vs H Q E h => ?_) (fun cdv A outer s H vs Q E hr h => ?_)
  · obtain ⟨a, ns, rfl, _⟩ := h; rfl
  · obtain ⟨a, ns, rfl, ha, hl, k⟩ := h
    have nd := sc_are_words.nd
    refine ⟨_, (pss_one (ps_ret (pe_callB (call_allN rfl) (by rfl) T.b_all bt_all (pa_cons (pe_lc rfl nd (pi_list (pv 0)) (blk_mk (own := [("number", 1)]) (N := ["numbers", "number"]) (sc := defScope s_are_words) rfl rfl (by decide +kernel)) (fun _ _ _ _ _ => (pg_name (i := 1) nd rfl (Or.inl rfl))) (fun _ _ _ _ _ => pts_nil) (fun _ _ _ _ _ => (pe_and (pe_cmpR op_ge (pv 1) pe_int (nomark _)) (pe_one (pe_cmpR op_le (pv 1) (pe_gv T.g_GREATEST_WORD) (nomark _)))))) pa_nil)))), ?_⟩
    walk_at "rd"
    refine lc_pureL (a := a) (xs := ns) (g := V.int) (fun _ => true) (fun z => .bl (isWord z)) (fun B h => ⟨_, rfl, h⟩) ha hl (fun x => rfl) (fun j x H' B _ _ h => h) (fun j x H' B _ _ _ h => ?_) (fun D hD => ?_)
    · walk_at "rd"
      simp only [wipe, List.set_cons_zero, List.set_cons_succ]
      walk_at "rd"
      split
      · refine leaf h ?_
        unfold isWord
        rename_i h1
        rw [decide_eq_true h1]
        rfl
      · refine leaf h ?_
        unfold isWord
        rename_i h1
        rw [decide_eq_false h1]
        rfl
    · refine ⟨D, ns.map isWord, rfl, Ls.of ?_, ?_⟩
      · rw [upd_same, List.filter_eq_self.mpr (fun _ _ => rfl), List.map_map]
        rfl
      · refine leaf (k _ (same_new hD)) ?_
        rw [List.all_map]
        rfl
end
section
variable {G : Env1} {CM CC CP : Addr} {H : Hp}
def spAgree (CM : Addr) : Sp := fun vs H Q _ => ∃ (lm lc : Addr) (rd : Nat → Nat) (x : Nat × Si42.Ask) (c : List (Nat × Si42.Ask)), vs = [.ref lm, .int (x.1 : Nat), .ref lc] ∧ MksAt CM H lm rd (x :: c) ∧ Ls H lc (numsV c) ∧ (∀ y ∈ x :: c, wfA y.2) ∧ c.length ≤ 100 ∧ ∀ H', Same H H' → Q (.bl (Si42.apart x.2 c)) H'
theorem ok_agree {f : Addr} {fd : FuncData} (T : Facts G.K G.mg CM CC CP) (F_gainsay : Fn G "gainsay" ["one", "other"] 3 (spGain CM)) (F : Fun G.K "agrees_with_all" "agrees_with_all" s_agrees_with_all f fd) : FnOk G.P G.w G.K G.mg G.base CX0 4 f fd ["marks", "number", "chosen"] (spAgree CM) := by
  refine F.ok sc_agrees_with_all (fun vs H Q E h => ?_) (fun cdv A outer s H vs Q E hr h => ?_)
  · obtain ⟨lm, lc, rd, x, c, rfl, _⟩ := h; rfl
  · obtain ⟨lm, lc, rd, x, c, rfl, hm, hc, hw, hl, k⟩ := h
    have nd := sc_agrees_with_all.nd
    refine ⟨_, (pss_one (ps_ret (pe_callB (call_allN rfl) (by rfl) T.b_all bt_all (pa_cons (pe_lc rfl nd (pi_list (pv 2)) (blk_mk (own := [("other", 3)]) (N := ["marks", "number", "chosen", "other"]) (sc := defScope s_agrees_with_all) rfl rfl (by decide +kernel)) (fun _ _ _ _ _ => (pg_name (i := 3) nd rfl (Or.inl rfl))) (fun _ _ _ _ _ => pts_nil) (fun _ _ _ _ _ => (pe_not (pe_fn F_gainsay hr rfl (pa_cons (pe_ix ix_lst (pv 0) (pv 1) (fun _ _ => rfl)) (pa_cons (pe_ix ix_lst (pv 0) (pv 3) (fun _ _ => rfl)) pa_nil)))))) pa_nil)))), ?_⟩
    walk_at "rd"
    refine lc_pureL (a := lc) (xs := c) (g := fun y => V.int (y.1 : Nat)) (fun _ => true) (fun y => .bl (!Si42.clash x.2 y.2)) (fun B h => ⟨_, rfl, h⟩) hc (Nat.le_trans hl (by decide)) (fun x => rfl) (fun j x H' B _ _ h => h) (fun j y H' B hy _ sm h => ?_) (fun D hD => ?_)
    · obtain ⟨a, l, s', c', ma, ra⟩ := (hm.same sm).at (x := x) List.mem_cons_self
      obtain ⟨b, l', s'', c'', mb, rb⟩ := (hm.same sm).at (x := y) (List.mem_cons_of_mem _ (List.mem_of_getElem? hy))
      have hg' := fun (R : VK) (E : XK) => spGain_eq (R := R) (E := E) ma mb (hw _ List.mem_cons_self) (hw _ (List.mem_cons_of_mem _ (List.mem_of_getElem? hy)))
      walk_at "rd"
      simp only [wipe, List.set_cons_zero, List.set_cons_succ]
      walk_at "rd"
      simp only [ra, rb, hg']
      walk_at "rd"
      exact h
    · refine ⟨D, c.map fun y => !Si42.clash x.2 y.2, rfl, Ls.of ?_, ?_⟩
      · rw [upd_same, List.filter_eq_self.mpr (fun _ _ => rfl), List.map_map]
        rfl
      · refine leaf (k _ (same_new hD)) ?_
        rw [List.all_map]
        rfl
def wOf (ws : List Nat) (rd : Nat → Nat) (o : List (Nat × Si42.Ask)) : Nat := (o.map fun x => ws.getD (rd x.1) 0).foldr (fun a b => a + b) 0
def spWeight (CM : Addr) : Sp := fun vs H Q _ => ∃ (lm lw ln : Addr) (rd : Nat → Nat) (ws : List Nat) (o : List (Nat × Si42.Ask)), vs = [.ref lm, .ref lw, .ref ln] ∧ MksAt CM H lm rd o ∧ Ls H lw (natsV ws) ∧ Ls H ln (numsV o) ∧ (∀ x ∈ o, rd x.1 < ws.length) ∧ o.length ≤ 100 ∧ ∀ H', Same H H' → Q (.int (wOf ws rd o : Nat)) H'
theorem sum_nats : ∀ l : List Nat, (l.map fun (n : Nat) => (n : Int)).sum = ((l.foldr (fun a b => a + b) 0 : Nat) : Int)
  | [] => rfl
  | n :: l => by
    rw [List.map_cons, List.sum_cons, sum_nats l, List.foldr_cons]
    omega
theorem ok_weight {f : Addr} {fd : FuncData} (T : Facts G.K G.mg CM CC CP) (F : Fun G.K "weight_of" "weight_of" s_weight_of f fd) : FnOk G.P G.w G.K G.mg G.base CX0 1 f fd ["marks", "weights", "numbers"] (spWeight CM) := by
  refine F.ok sc_weight_of (fun vs H Q E h => ?_) (fun cdv A outer s H vs Q E hr h => ?_)
  · obtain ⟨lm, lw, ln, rd, ws, o, rfl, _⟩ := h; rfl
  · obtain ⟨lm, lw, ln, rd, ws, o, rfl, hm, hw, hn, hrd, hl, k⟩ := h
    have nd := sc_weight_of.nd
    refine ⟨_, (pss_one (ps_ret (pe_callB (call_sumN rfl) (by rfl) T.b_sum bt_sum (pa_cons (pe_lc rfl nd (pi_list (pv 2)) (blk_mk (own := [("number", 3)]) (N := ["marks", "weights", "numbers", "number"]) (sc := defScope s_weight_of) rfl rfl (by decide +kernel)) (fun _ _ _ _ _ => (pg_name (i := 3) nd rfl (Or.inl rfl))) (fun _ _ _ _ _ => pts_nil) (fun _ _ _ _ _ => (pe_ix ix_lst (pv 1) (pe_fldK (K := G.K) (by rfl) (pe_ix ix_lst (pv 0) (pv 3) (fun _ _ => rfl)) (by rfl)) (fun _ _ => rfl)))) pa_nil)))), ?_⟩
    walk_at "rd"
    refine lc_pureL (a := ln) (xs := o) (g := fun y => V.int (y.1 : Nat)) (fun _ => true) (fun y => .int ((ws.getD (rd y.1) 0 : Nat) : Int)) (fun B h => ⟨_, rfl, h⟩) hn (Nat.le_trans hl (by decide)) (fun x => rfl) (fun j x H' B _ _ h => h) (fun j y H' B hy _ sm h => ?_) (fun D hD => ?_)
    · obtain ⟨a, l, s', c', ma, ra⟩ := (hm.same sm).at (x := y) (List.mem_of_getElem? hy)
      have rm := ma.rd T
      have rw' := (same_ls sm hw).rd
      have hlt := hrd y (List.mem_of_getElem? hy)
      have hat : (natsV ws)[rd y.1]? = some (V.int ((ws.getD (rd y.1) 0 : Nat) : Int)) := by
        unfold natsV
        rw [List.getElem?_map, List.getElem?_eq_getElem hlt]
        simp [List.getD_eq_getElem?_getD, List.getElem?_eq_getElem hlt]
      walk_at "rd"
      simp only [wipe, List.set_cons_zero, List.set_cons_succ]
      walk_at "rd"
      simp only [ra, rm, rw', ixV_nat hat]
      exact h
    · refine ⟨D, o.map fun y => ((ws.getD (rd y.1) 0 : Nat) : Int), rfl, Ls.of ?_, ?_⟩
      · rw [upd_same, List.filter_eq_self.mpr (fun _ _ => rfl), intsV, List.map_map]
        rfl
      · have e : (o.map fun y => ((ws.getD (rd y.1) 0 : Nat) : Int)).sum = ((wOf ws rd o : Nat) : Int) := by
          unfold wOf
          rw [← sum_nats, List.map_map]
          rfl
        rw [e]
        exact k _ (same_new hD)
abbrev Lsts (H : Hp) : List Addr → List (List (Nat × Si42.Ask)) → Prop := Paired fun a c => H a = some (.lst (numsV c))
def spSets (CM : Addr) : Sp := fun vs H Q _ => ∃ (lm ln : Addr) (rd : Nat → Nat) (o : List (Nat × Si42.Ask)), vs = [.ref lm, .ref ln] ∧ MksAt CM H lm rd o ∧ Ls H ln (numsV o) ∧ (∀ x ∈ o, wfA x.2) ∧ o.length ≤ 10 ∧
  ∀ (H' : Hp) (l : Addr) (as : List Addr), Same H H' → H l = none → H' l = some (.lst (as.map V.ref)) → Lsts H' as (Si42.sets o) → (∀ a ∈ as, H a = none) → Q (.ref l) H'
theorem grow_take {L : List (List (Nat × Si42.Ask))} {j : Nat} {c : List (Nat × Si42.Ask)} {x : Nat × Si42.Ask} (h : L[j]? = some c) : grow (L.take (j + 1)) x = grow (L.take j) x ++ ((if Si42.apart x.2 c = true then [c ++ [x]] else []) ++ [c]) := by
  unfold grow
  rw [take_snoc h, List.flatMap_append]
  simp
theorem grow_len (L : List (List (Nat × Si42.Ask))) (x : Nat × Si42.Ask) : (grow L x).length ≤ 2 * L.length := by
  induction L with
  | nil => simp [grow]
  | cons c L ih =>
    unfold grow at ih ⊢
    rw [List.flatMap_cons, List.length_append, List.length_cons, List.length_append]
    have : ((if Si42.apart x.2 c = true then [c ++ [x]] else []) : List (List (Nat × Si42.Ask))).length ≤ 1 := by split <;> simp
    simp only [List.length_singleton]
    omega
theorem ok_sets {f : Addr} {fd : FuncData} (T : Facts G.K G.mg CM CC CP) (F_agrees_with_all : Fn G "agrees_with_all" ["marks", "number", "chosen"] 4 (spAgree CM)) (F : Fun G.K "agreeing_sets" "agreeing_sets" s_agreeing_sets f fd) : FnOk G.P G.w G.K G.mg G.base CX0 5 f fd ["marks", "numbers"] (spSets CM) := by
  refine F.ok sc_agreeing_sets (fun vs H Q E h => ?_) (fun cdv A outer s H vs Q E hr h => ?_)
  · obtain ⟨lm, ln, rd, o, rfl, _⟩ := h; rfl
  · obtain ⟨lm, ln, rd, o, rfl, hm, hn, hw, hlen, k⟩ := h
    have nd := sc_agreeing_sets.nd
    have hsz : (1000000 : Nat) ≤ sizeLine := by decide
    refine ⟨_, (pss_cons (ps_set (i := 2) nd rfl (Or.inl rfl) (pe_lst (pa_cons (pe_lst pa_nil) pa_nil)))
      (pss_cons (ps_for PassesOwn.never rfl (pi_list (pv 1)) (pg_name (i := 3) nd rfl (Or.inl rfl))
      (pss_cons (ps_set (i := 4) nd rfl (Or.inl rfl) (pe_lst pa_nil))
      (pss_cons (ps_for PassesOwn.never rfl (pi_list (pv 2)) (pg_name (i := 5) nd rfl (Or.inl rfl))
      (pss_cons (ps_if (pt_tru (pe_fn F_agrees_with_all hr rfl (pa_cons (pv 0) (pa_cons (pv 3) (pa_cons (pv 5) pa_nil))))) (pss_one (ps_expr (pe_bm PySem.F.plainAttrs_list PySem.F.slot_list_append PySem.F.type_list_append mt_append (pv 4) (pa_cons (pe_op op_cat (pv 5) (pe_lst (pa_cons (pv 3) pa_nil))) pa_nil)))) pss_nil)
      (pss_one (ps_expr (pe_bm PySem.F.plainAttrs_list PySem.F.slot_list_append PySem.F.type_list_append mt_append (pv 4) (pa_cons (pv 5) pa_nil))))))
      (pss_one (ps_set (i := 2) nd rfl (Or.inl rfl) (pv 4))))))
      (pss_one (ps_ret (pv 2))))), ?_⟩
    walk_at "rd"
    refine ⟨Nat.zero_le _, fun e he => ⟨by decide, fun l0 hl0 => ?_⟩⟩
    have he0 : H l0 = none := fresh_none (same_new he) hl0
    have hel : e ≠ l0 := ne_of_none upd_same hl0
    let I1 : Nat → L2.St → Hp → Prop := fun i σ H' => ∃ (ls : Addr) (as : List Addr) (v3 v4 v5 : Option V), σ = [some (.ref lm), some (.ref ln), some (.ref ls), v3, v4, v5] ∧ Same H H' ∧ H ls = none ∧ H' ls = some (.lst (as.map V.ref)) ∧ Lsts H' as (Si42.sets (o.take i)) ∧ (∀ a ∈ as, H a = none)
    refine ⟨_, rfl, ln, rfl, ⟨_, (same_ls ((same_new he).trans (same_new hl0)) hn).sq⟩, for_mapL (xs := o) (f := fun x => V.int (x.1 : Nat)) I1 ⟨l0, [e], none, none, none, rfl, (same_new he).trans (same_new hl0), he0, upd_same, ?_, ?_⟩ ?_ ?_ ?_⟩
    · rw [List.take_zero]
      exact .cons (by rw [upd_ne hel, upd_same]; rfl) .nil
    · intro a ha
      rw [List.mem_singleton.mp ha]
      exact he
    · rintro i σ1 H1 _ ⟨ls, as, v3, v4, v5, _, s1, _⟩
      exact (same_ls s1 hn).sq
    · rintro i x σ1 H1 hx ⟨ls, as, v3, v4, v5, rfl, s1, h0, h1, h2, h3⟩
      walk_at "rd"
      refine ⟨Nat.zero_le _, fun g hg => ?_⟩
      have hg0 : H g = none := fresh_none s1 hg
      have hlg : ls ≠ g := ne_of_none h1 hg
      have hxo : x ∈ o := List.mem_of_getElem? hx
      have hil : i < o.length := (List.getElem?_eq_some_iff.mp hx).1
      have hset : ∀ c ∈ Si42.sets (o.take i), (∀ y ∈ c, y ∈ o) ∧ c.length ≤ 10 := fun c hc => by
        have hs := sets_sub hc
        refine ⟨fun y hy => List.mem_of_mem_take (hs.subset hy), ?_⟩
        have := hs.length_le
        rw [List.length_take] at this
        omega
      have hsl : (Si42.sets (o.take i)).length ≤ 1024 := by
        refine Nat.le_trans (sets_length _) ?_
        rw [List.length_take]
        exact Nat.pow_le_pow_right (by decide) (show min i o.length ≤ 10 by omega)
      let I2 : Nat → L2.St → Hp → Prop := fun j σ H' => ∃ (bs : List Addr) (v5 : Option V), σ = [some (.ref lm), some (.ref ln), some (.ref ls), some (.int (x.1 : Nat)), some (.ref g), v5] ∧ Same H H' ∧ H' ls = some (.lst (as.map V.ref)) ∧ Lsts H' as (Si42.sets (o.take i)) ∧ H' g = some (.lst (bs.map V.ref)) ∧ Lsts H' bs (grow ((Si42.sets (o.take i)).take j) x) ∧ (∀ b ∈ bs, H b = none ∧ b ≠ g)
      have has : ∀ a ∈ as, a ≠ g := fun a ha => by
        obtain ⟨c, _, e⟩ := pr_mem h2 ha
        exact ne_of_none e hg
      refine ⟨_, rfl, ls, rfl, ⟨as.map V.ref, (Ls.of (by rw [upd_ne hlg]; exact h1)).sq⟩, for_mapL (xs := as) (f := V.ref) I2 ⟨[], v5, rfl, s1.trans (same_new hg), by rw [upd_ne hlg]; exact h1, pr_on h2 fun a ha c e => by rw [upd_ne (has a ha)]; exact e, upd_same, by rw [List.take_zero]; exact .nil, fun b hb => absurd hb List.not_mem_nil⟩ ?_ ?_ ?_⟩
      · rintro j σ2 H2 _ ⟨bs, v5, _, _, h4, _⟩
        exact (Ls.of h4).sq
      · rintro j a σ2 H2 ha ⟨bs, v5, rfl, s2, h4, h5, h6, h7, h8⟩
        have hjl : j < as.length := (List.getElem?_eq_some_iff.mp ha).1
        have hal := Paired.length h5
        obtain ⟨c, hc⟩ : ∃ c, (Si42.sets (o.take i))[j]? = some c := ⟨_, List.getElem?_eq_getElem (by omega)⟩
        obtain ⟨a', ha', hac⟩ := pr_get h5 hc
        rw [ha] at ha'
        cases ha'
        obtain ⟨hc1, hc2⟩ := hset c (List.mem_of_getElem? hc)
        have hbl : bs.length ≤ 4096 := by
          rw [Paired.length h7]
          refine Nat.le_trans (grow_len _ _) ?_
          have := List.length_take_le j (Si42.sets (o.take i))
          omega
        walk_at "rd"
        refine ⟨lm, a, rd, x, c, rfl, (hm.same s2).sub ?_, Ls.of hac, ?_, by omega, fun H3 s3 => ?_⟩
        · intro y hy
          rcases List.mem_cons.mp hy with rfl | hy
          · exact hxo
          · exact hc1 y hy
        · intro y hy
          rcases List.mem_cons.mp hy with rfl | hy
          · exact hw _ hxo
          · exact hw _ (hc1 y hy)
        walk_at "rd"
        have hag : a ≠ g := has a (List.mem_of_getElem? ha)
        have h0a : H a = none := h3 a (List.mem_of_getElem? ha)
        have fin : ∀ (H4 : Hp) (bs' : List Addr), Same H3 H4 ∨ True → Same H H4 → H4 ls = some (.lst (as.map V.ref)) → Lsts H4 as (Si42.sets (o.take i)) → H4 g = some (.lst (bs'.map V.ref)) → Lsts H4 bs' (grow ((Si42.sets (o.take i)).take j) x ++ (if Si42.apart x.2 c = true then [c ++ [x]] else [])) → (∀ b ∈ bs', H b = none ∧ b ≠ g) → bs'.length ≤ 4097 →
            tyV G.K "list" (.ref g) H4 ∧ rAppend (.ref g) [.ref a] H4 fun _ H5 => I2 (j + 1) [some (.ref lm), some (.ref ln), some (.ref ls), some (.int (x.1 : Nat)), some (.ref g), some (.ref a)] H5 := by
          intro H4 bs' _ t1 t2 t3 t4 t5 t6 t7
          have lg := lw_rd t4
          simp only [lg, true_and]
          refine ⟨by rw [List.length_map]; omega, bs' ++ [a], _, rfl, same_upd t1 hg0, by rw [upd_ne hlg]; exact t2, pr_on t3 fun b hb z ez => by rw [upd_ne (has b hb)]; exact ez, by rw [upd_same, List.map_append]; rfl, ?_, ?_⟩
          · rw [grow_take hc, ← List.append_assoc]
            refine pr_app (pr_on t5 fun b hb z ez => by rw [upd_ne (t6 b hb).2]; exact ez) (.cons ?_ .nil)
            obtain ⟨a', ha', hac'⟩ := pr_get t3 hc
            rw [ha] at ha'
            cases ha'
            rw [upd_ne hag]
            exact hac'
          · intro b hb
            rcases List.mem_append.mp hb with hb | hb
            · exact t6 b hb
            · rw [List.mem_singleton.mp hb]
              exact ⟨h0a, hag⟩
        split
        · rename_i hap
          have h6' := s3 _ _ h6
          have lg := lw_rd h6'
          have lc := lw_rd (s3 _ _ hac)
          simp only [lg, true_and]
          refine ⟨by decide, fun q hq => ?_⟩
          have hgq : g ≠ q := ne_of_none h6' hq
          have haq : a ≠ q := ne_of_none (s3 _ _ hac) hq
          have lc := lw_rd (show upd H3 q (.lst [.int (x.1 : Nat)]) a = _ by rw [upd_ne haq]; exact s3 _ _ hac)
          simp only [lc]
          refine ⟨[.int (x.1 : Nat)], upd_same, ?_, fun c2 hc2' => ?_⟩
          · rw [List.length_map]
            simp
            omega
          have s4 : Same H3 (upd (upd H3 q (.lst [.int (x.1 : Nat)])) c2 (.lst (numsV c ++ [.int (x.1 : Nat)]))) := (same_new hq).trans (same_new hc2')
          have h6'' := s4 _ _ h6'
          have lg := lw_rd h6''
          have hgc : g ≠ c2 := fresh_ne (same_new hq) h6' hc2'
          simp only [lg]
          refine ⟨by rw [List.length_map]; omega, ?_⟩
          refine fin _ (bs ++ [c2]) (.inr trivial) (same_upd (s2.trans (s3.trans s4)) hg0) (by rw [upd_ne hlg]; exact s4 _ _ (s3 _ _ h4)) (pr_on h5 fun b hb z ez => by rw [upd_ne (has b hb)]; exact s4 _ _ (s3 _ _ ez)) (by rw [upd_same, List.map_append]; rfl) ?_ ?_ (by rw [List.length_append]; simp; omega)
          · rw [if_pos hap]
            refine pr_app (pr_on h7 fun b hb z ez => by rw [upd_ne (h8 b hb).2]; exact s4 _ _ (s3 _ _ ez)) (.cons ?_ .nil)
            rw [upd_ne (Ne.symm hgc), upd_same]
            simp [numsV]
          · intro b hb
            rcases List.mem_append.mp hb with hb | hb
            · exact h8 b hb
            · rw [List.mem_singleton.mp hb]
              exact ⟨fresh_none (s2.trans (s3.trans (same_new hq))) hc2', Ne.symm hgc⟩
        · rename_i hap
          refine fin H3 bs (.inr trivial) (s2.trans s3) (s3 _ _ h4) (pr_on h5 fun b hb z ez => s3 _ _ ez) (s3 _ _ h6) ?_ h8 (by omega)
          rw [if_neg hap, List.append_nil]
          exact pr_on h7 fun b hb z ez => s3 _ _ ez
      · rintro σ2 H2 ⟨bs, v5, rfl, s2, h4, h5, h6, h7, h8⟩
        walk_at "rd"
        have hal := Paired.length h5
        rw [hal, List.take_length] at h7
        refine ⟨g, bs, _, _, _, rfl, s2, hg0, h6, ?_, fun b hb => (h8 b hb).1⟩
        rw [take_snoc hx, ← grow_sets, grow_snoc, grow_sets]
        exact h7
    · rintro σ1 H1 ⟨ls, as, v3, v4, v5, rfl, s1, h0, h1, h2, h3⟩
      walk_at "rd"
      rw [List.take_length] at h2
      exact k H1 ls as s1 h0 h1 h2 h3
def spBest (CM : Addr) : Sp := fun vs H Q _ => ∃ (lm lw ln : Addr) (rd : Nat → Nat) (ws : List Nat) (o : List (Nat × Si42.Ask)), vs = [.ref lm, .ref lw, .ref ln] ∧ MksAt CM H lm rd o ∧ Ls H lw (natsV ws) ∧ Ls H ln (numsV o) ∧ (∀ x ∈ o, wfA x.2) ∧ (∀ x ∈ o, rd x.1 < ws.length) ∧ o.length ≤ 10 ∧
  ∀ (H' : Hp) (l : Addr), Same H H' → H l = none → H' l = some (.lst (numsV (pick (wOf ws rd) (Si42.sets o) []))) → Q (.ref l) H'
theorem pick_snoc (w : List (Nat × Si42.Ask) → Nat) (L : List (List (Nat × Si42.Ask))) (s b : List (Nat × Si42.Ask)) : pick w (L ++ [s]) b = if w (pick w L b) < w s then s else pick w L b := by
  unfold pick
  rw [List.foldl_append]
  rfl
theorem pick_mem (w : List (Nat × Si42.Ask) → Nat) : ∀ (L : List (List (Nat × Si42.Ask))) (b : List (Nat × Si42.Ask)), pick w L b = b ∨ pick w L b ∈ L
  | [], b => .inl rfl
  | s :: L, b => by
    show pick w L (if w b < w s then s else b) = b ∨ pick w L (if w b < w s then s else b) ∈ s :: L
    rcases pick_mem w L (if w b < w s then s else b) with h | h
    · rw [h]
      split
      · exact .inr List.mem_cons_self
      · exact .inl rfl
    · exact .inr (List.mem_cons_of_mem _ h)
theorem ok_best {f : Addr} {fd : FuncData} (T : Facts G.K G.mg CM CC CP) (F_agreeing_sets : Fn G "agreeing_sets" ["marks", "numbers"] 5 (spSets CM)) (F_weight_of : Fn G "weight_of" ["marks", "weights", "numbers"] 1 (spWeight CM)) (F : Fun G.K "weightiest" "weightiest" s_weightiest f fd) : FnOk G.P G.w G.K G.mg G.base CX0 6 f fd ["marks", "weights", "numbers"] (spBest CM) := by
  refine F.ok sc_weightiest (fun vs H Q E h => ?_) (fun cdv A outer s H vs Q E hr h => ?_)
  · obtain ⟨lm, lw, ln, rd, ws, o, rfl, _⟩ := h; rfl
  · obtain ⟨lm, lw, ln, rd, ws, o, rfl, hm, hws, hn, hw, hrd, hlen, k⟩ := h
    have nd := sc_weightiest.nd
    refine ⟨_, (pss_cons (ps_set (i := 3) nd rfl (Or.inl rfl) (pe_lst pa_nil))
      (pss_cons (ps_for PassesOwn.never rfl (pi_list (pe_fn F_agreeing_sets hr rfl (pa_cons (pv 0) (pa_cons (pv 2) pa_nil)))) (pg_name (i := 4) nd rfl (Or.inl rfl))
      (pss_one (ps_if (pt_cmpR op_gt (pe_fn F_weight_of hr rfl (pa_cons (pv 0) (pa_cons (pv 1) (pa_cons (pv 4) pa_nil)))) (pe_fn F_weight_of hr rfl (pa_cons (pv 0) (pa_cons (pv 1) (pa_cons (pv 3) pa_nil)))) (nomark _)) (pss_one (ps_set (i := 3) nd rfl (Or.inl rfl) (pv 4))) pss_nil)))
      (pss_one (ps_ret (pv 3))))), ?_⟩
    walk_at "rd"
    refine ⟨Nat.zero_le _, fun b0 hb0 => ?_⟩
    have s0 : Same H (upd H b0 (.lst [])) := same_new hb0
    refine ⟨_, rfl, _, rfl, lm, ln, rd, o, rfl, hm.same s0, same_ls s0 hn, hw, hlen, fun H1 ls as s1 h0 h1 h2 h3' => ⟨ls, rfl, ⟨_, (Ls.of h1).sq⟩, ?_⟩⟩
    have h3 : ∀ a ∈ as, H a = none := fun a ha => fresh_none s0 (h3' a ha)
    have hset : ∀ c, c = [] ∨ c ∈ Si42.sets o → (∀ y ∈ c, y ∈ o) ∧ c.length ≤ 10 := fun c hc => by
      rcases hc with rfl | hc
      · exact ⟨fun y hy => absurd hy List.not_mem_nil, by simp⟩
      · have hs := sets_sub hc
        exact ⟨fun y hy => hs.subset hy, Nat.le_trans hs.length_le hlen⟩
    let I1 : Nat → L2.St → Hp → Prop := fun i σ H' => ∃ (b : Addr) (v4 : Option V), σ = [some (.ref lm), some (.ref lw), some (.ref ln), some (.ref b), v4] ∧ Same H1 H' ∧ H b = none ∧ H' b = some (.lst (numsV (pick (wOf ws rd) ((Si42.sets o).take i) [])))
    refine for_mapL (xs := as) (f := V.ref) I1 ⟨b0, none, rfl, Same.refl _, hb0, s1 _ _ upd_same⟩ ?_ ?_ ?_
    · rintro i σ1 H2 _ ⟨b, v4, _, s2, _⟩
      exact (same_ls s2 (Ls.of h1)).sq
    · rintro i a σ1 H2 ha ⟨b, v4, rfl, s2, hb, h4⟩
      have hjl : i < as.length := (List.getElem?_eq_some_iff.mp ha).1
      have hal := Paired.length h2
      obtain ⟨c, hc⟩ : ∃ c, (Si42.sets o)[i]? = some c := ⟨_, List.getElem?_eq_getElem (by omega)⟩
      obtain ⟨a', ha', hac⟩ := pr_get h2 hc
      rw [ha] at ha'
      cases ha'
      have sH := s0.trans (s1.trans s2)
      obtain ⟨hc1, hc2⟩ := hset c (.inr (List.mem_of_getElem? hc))
      have hpk : pick (wOf ws rd) ((Si42.sets o).take i) [] = [] ∨ pick (wOf ws rd) ((Si42.sets o).take i) [] ∈ Si42.sets o := (pick_mem _ _ _).imp id List.mem_of_mem_take
      obtain ⟨hp1, hp2⟩ := hset _ hpk
      walk_at "rd"
      refine ⟨lm, lw, a, rd, ws, c, rfl, (hm.same sH).sub hc1, same_ls sH hws, Ls.of (s2 _ _ hac), fun y hy => hrd y (hc1 y hy), by omega, fun H3 s3 => ?_⟩
      walk_at "rd"
      have sH3 := sH.trans s3
      refine ⟨lm, lw, b, rd, ws, _, rfl, (hm.same sH3).sub hp1, same_ls sH3 hws, Ls.of (s3 _ _ h4), fun y hy => hrd y (hp1 y hy), by omega, fun H4 s4 => ?_⟩
      walk_at "rd"
      have s24 : Same H1 H4 := s2.trans (s3.trans s4)
      split
      · rename_i hlt
        refine ⟨a, _, rfl, s24, h3 a (List.mem_of_getElem? ha), ?_⟩
        rw [take_snoc hc, pick_snoc, if_pos (by omega)]
        exact s24 _ _ hac
      · rename_i hlt
        refine ⟨b, _, rfl, s24, hb, ?_⟩
        rw [take_snoc hc, pick_snoc, if_neg (by omega)]
        exact s4 _ _ (s3 _ _ h4)
    · rintro σ1 H2 ⟨b, v4, rfl, s2, hb, h4⟩
      walk_at "rd"
      have hal := Paired.length h2
      rw [hal, List.take_length] at h4
      exact k H2 b (s0.trans (s1.trans s2)) hb h4
end
section
variable {G : Env1} {CM CC CP : Addr} {H : Hp}
def bringI (m : Int) (w : List Nat) : List Tri := w.zipIdx.map fun x => ((x.1 : Int), m, (x.2 : Int))
theorem bring_is (m : Nat) (w : List Nat) : bring m w = bringI m w := rfl
def spBrought : Sp := fun vs H Q _ => ∃ (m : Int) (lw : Addr) (w : List Nat), vs = [.int m, .ref lw] ∧ Ls H lw (natsV w) ∧ w.length ≤ 1000 ∧
  ∀ (H' : Hp) (l : Addr) (as : List Addr), Same H H' → H l = none → TxtAt H' l as (bringI m w) → (∀ a ∈ as, H a = none) → Q (.ref l) H'
theorem pr_map {α β γ : Type} {F : α → γ → Prop} (f : β → γ) : ∀ {as : List α} {xs : List β}, Paired (fun a x => F a (f x)) as xs → Paired F as (xs.map f)
  | _, _, .nil => .nil
  | _, _, .cons r t => .cons r (pr_map f t)
theorem ok_brought {f : Addr} {fd : FuncData} (T : Facts G.K G.mg CM CC CP) (F : Fun G.K "brought_by" "brought_by" s_brought_by f fd) : FnOk G.P G.w G.K G.mg G.base CX0 1 f fd ["bringer", "words"] spBrought := by
  refine F.ok sc_brought_by (fun vs H Q E h => ?_) (fun cdv A outer s H vs Q E hr h => ?_)
  · obtain ⟨m, lw, w, rfl, _⟩ := h; rfl
  · obtain ⟨m, lw, w, rfl, hw, hl, k⟩ := h
    have nd := sc_brought_by.nd
    refine ⟨_, (pss_one (ps_ret (pe_lc rfl nd (pi_enum rfl T.b_enumerate (pa_cons (pv 1) pa_nil)) (blk_mk (own := [("origin", 2), ("word", 3)]) (N := ["bringer", "words", "origin", "word"]) (sc := defScope s_brought_by) rfl rfl (by decide +kernel)) (fun _ _ _ _ _ => (pg_tupK (n := 2) (K := G.K) (by rfl) (by rfl) (pgs_cons (pg_name (i := 2) nd rfl (Or.inl rfl)) (pgs_cons (pg_name (i := 3) nd rfl (Or.inl rfl)) pgs_nil)))) (fun _ _ _ _ _ => pts_nil) (fun _ _ _ _ _ => (pe_tup (pa_cons (pv 3) (pa_cons (pv 0) (pa_cons (pv 2) pa_nil)))))))), ?_⟩
    walk_at "rd"
    refine lc_enumT (a := lw) (xs := w) (f := fun n : Nat => V.int n) (fun i n => triV ((n : Int), m, (i : Int))) (fun B h => ⟨_, rfl, h⟩) hw (Nat.le_trans hl (by decide)) (fun j n H' T' D Nx hn hT q => ?_) (fun H' l as s1 h1 h2 h3 h4 => ?_)
    · refine ⟨T', _, rfl, SqT.of upd_same, rfl, ?_⟩
      refine ⟨_, _, rfl, _, _, rfl, rfl, rfl, ?_⟩
      walk_at "rd"
      simp only [wipe, List.set_cons_zero, List.set_cons_succ]
      walk_at "rd"
      refine ⟨by decide, fun t ht => ?_⟩
      refine q _ t (same_new ht) upd_same ?_ fun b hb => upd_ne hb
      exact fresh_none (same_new hT) ht
    · refine k H' l as s1 h1 ⟨h2, ?_⟩ h3
      have := pr_map (F := fun a x => H' a = some (.tup (triV x))) (fun x : Nat × Nat => ((x.2 : Int), m, (x.1 : Int))) h4
      rw [List.map_map] at this
      exact this
def spBare : Sp := fun vs H Q _ => ∃ (lt : Addr) (as : List Addr) (P : List Tri), vs = [.ref lt] ∧ TxtAt H lt as P ∧ P.length ≤ 100000 ∧ ∀ (H' : Hp) (l : Addr), Same H H' → H l = none → H' l = some (.lst (intsV (P.map fun x => x.1))) → Q (.ref l) H'
theorem ok_bare {f : Addr} {fd : FuncData} (T : Facts G.K G.mg CM CC CP) (F : Fun G.K "bare_words" "bare_words" s_bare_words f fd) : FnOk G.P G.w G.K G.mg G.base CX0 1 f fd ["text"] spBare := by
  refine F.ok sc_bare_words (fun vs H Q E h => ?_) (fun cdv A outer s H vs Q E hr h => ?_)
  · obtain ⟨lt, as, P, rfl, _⟩ := h; rfl
  · obtain ⟨lt, as, P, rfl, ht, hl, k⟩ := h
    have nd := sc_bare_words.nd
    refine ⟨_, (pss_one (ps_ret (pe_lc rfl nd (pi_list (pv 0)) (blk_mk (own := [("entry", 1)]) (N := ["text", "entry"]) (sc := defScope s_bare_words) rfl rfl (by decide +kernel)) (fun _ _ _ _ _ => (pg_name (i := 1) nd rfl (Or.inl rfl))) (fun _ _ _ _ _ => pts_nil) (fun _ _ _ _ _ => (pe_ix ix_tp (pv 1) pe_int (fun _ _ => rfl)))))), ?_⟩
    walk_at "rd"
    have hz : as.length = P.length := Tups.length ht.2
    have hzz : (as.zip P).map (fun x => V.ref x.1) = as.map V.ref := by
      show (as.zip P).map (V.ref ∘ Prod.fst) = _
      rw [← List.map_map, List.map_fst_zip (by omega)]
    refine lc_pureL (a := lt) (xs := as.zip P) (g := fun x => V.ref x.1) (fun _ => true) (fun x => .int x.2.1) (fun B h => ⟨_, rfl, h⟩) (by rw [hzz]; exact Ls.of ht.1) (by rw [List.length_zip]; exact Nat.le_trans (Nat.min_le_right _ _) (Nat.le_trans hl (by decide))) (fun x => rfl) (fun j x H' B _ _ h => h) (fun j x H' B hx _ sm h => ?_) (fun D hD => ?_)
    · have hx2 : as[j]? = some x.1 ∧ P[j]? = some x.2 := by
        rw [List.getElem?_zip_eq_some] at hx
        exact hx
      obtain ⟨a, ha, hax⟩ := pr_get ht.2 hx2.2
      rw [hx2.1] at ha
      cases ha
      walk_at "rd"
      simp only [wipe, List.set_cons_zero, List.set_cons_succ]
      walk_at "rd"
      rw [ixT_of (sm _ _ hax)]
      unfold triV
      walk_at "rd"
      exact h
    · refine k _ D (same_new hD) hD ?_
      rw [upd_same, List.filter_eq_self.mpr (fun _ _ => rfl), intsV, List.map_map]
      congr 2
      have : P = (as.zip P).map Prod.snd := by rw [List.map_snd_zip (by omega)]
      rw [show (as.zip P).map (fun x => V.int x.2.1) = ((as.zip P).map Prod.snd).map fun x => V.int x.1 by rw [List.map_map]; rfl, ← this]
      rfl
def PutsAt (H0 H : Hp) (as : List Addr) (P : List Tri) (kvs : List (Key × V)) (o : List (Nat × Si42.Ask)) : Prop := ∀ g : Nat, match Si42.putAt o g with
  | none => valV kvs (Sum.inl (g : Int)) = none
  | some x => ∃ l bs, valV kvs (Sum.inl (g : Int)) = some (.ref l) ∧ TxtAt H l bs (pPut P (some x)) ∧ ∀ b ∈ bs, b ∈ as ∨ H0 b = none
theorem PutsAt.same {H0 H H' : Hp} {as : List Addr} {P : List Tri} {kvs : List (Key × V)} {o : List (Nat × Si42.Ask)} (h : PutsAt H0 H as P kvs o) (s : Same H H') : PutsAt H0 H' as P kvs o := fun g => by
  have h := h g
  cases e : Si42.putAt o g with
  | none => rw [e] at h; exact h
  | some x =>
    rw [e] at h
    obtain ⟨l, bs, h1, h2, h3⟩ := h
    exact ⟨l, bs, h1, h2.same s, h3⟩
theorem putAt_snoc {o : List (Nat × Si42.Ask)} {i g : Nat} {x : Nat × Si42.Ask} (h : o[i]? = some x) : Si42.putAt (o.take (i + 1)) g = (Si42.putAt (o.take i) g).or (if Si42.puts x.2 == some g then some x else none) := by
  unfold Si42.putAt
  rw [take_snoc h, List.find?_append]
  congr 1
  rw [List.find?_cons]
  cases (Si42.puts x.2 == some g) <;> rfl
theorem putAt_skip {o : List (Nat × Si42.Ask)} {i g : Nat} {x : Nat × Si42.Ask} (h : o[i]? = some x) (hp : Si42.puts x.2 ≠ some g) : Si42.putAt (o.take (i + 1)) g = Si42.putAt (o.take i) g := by
  rw [putAt_snoc h]
  have : (Si42.puts x.2 == some g) = false := by simpa using hp
  rw [this]
  simp
theorem PutsAt.old {H0 H : Hp} {as : List Addr} {P : List Tri} {kvs : List (Key × V)} {o : List (Nat × Si42.Ask)} {i k : Nat} {x : Nat × Si42.Ask} {v : V} (h : PutsAt H0 H as P kvs (o.take i)) (hx : o[i]? = some x) (hp : Si42.puts x.2 = some k) (hv : valV kvs (Sum.inl (k : Int)) = some v) : PutsAt H0 H as P kvs (o.take (i + 1)) := fun g => by
  have hg := h g
  by_cases e : k = g
  · subst e
    rw [putAt_snoc hx]
    cases e2 : Si42.putAt (o.take i) k with
    | none => rw [e2] at hg; rw [hg] at hv; cases hv
    | some y => rw [e2] at hg; exact hg
  · rw [putAt_skip hx (by rw [hp]; intro z; exact e (Option.some.inj z))]
    exact hg
theorem PutsAt.new {H0 H : Hp} {as : List Addr} {P : List Tri} {kvs : List (Key × V)} {o : List (Nat × Si42.Ask)} {i k : Nat} {x : Nat × Si42.Ask} {l d : Addr} {bs : List Addr} (h : PutsAt H0 H as P kvs (o.take i)) (hx : o[i]? = some x) (hp : Si42.puts x.2 = some k) (hv : valV kvs (Sum.inl (k : Int)) = none)
    (h1 : TxtAt H l bs (pPut P (some x))) (h2 : ∀ b ∈ bs, b ∈ as ∨ H0 b = none) (hd : H d = some (.dK kvs)) : PutsAt H0 (upd H d (.dK (putK kvs (Sum.inl (k : Int)) (.ref l)))) as P (putK kvs (Sum.inl (k : Int)) (.ref l)) (o.take (i + 1)) := fun g => by
  have hg := h g
  have tx : ∀ {l : Addr} {bs : List Addr} {R : List Tri}, TxtAt H l bs R → TxtAt (upd H d (.dK (putK kvs (Sum.inl (k : Int)) (.ref l)))) l bs R := fun t => by
    refine ⟨by rw [upd_ne (ne_of t.1 hd (by intro z; cases z))]; exact t.1, pr_on t.2 fun a ha x e => by rw [upd_ne (ne_of e hd (by intro z; cases z))]; exact e⟩
  have tx' : ∀ {l' : Addr} {bs : List Addr} {R : List Tri}, TxtAt H l' bs R → TxtAt (upd H d (.dK (putK kvs (Sum.inl (k : Int)) (.ref l)))) l' bs R := fun t => by
    refine ⟨by rw [upd_ne (ne_of t.1 hd (by intro z; cases z))]; exact t.1, pr_on t.2 fun a ha x e => by rw [upd_ne (ne_of e hd (by intro z; cases z))]; exact e⟩
  rw [valV_put]
  by_cases e : k = g
  · subst e
    rw [if_pos rfl, putAt_snoc hx, hp]
    cases e2 : Si42.putAt (o.take i) k with
    | some y =>
      rw [e2] at hg
      obtain ⟨l', bs', h3, _⟩ := hg
      rw [hv] at h3
      cases h3
    | none =>
      simp only [beq_self_eq_true, if_true, Option.none_or]
      exact ⟨l, bs, rfl, tx' h1, h2⟩
  · have e' : ¬ (Sum.inl (g : Int) : Key) = Sum.inl (k : Int) := fun z => e (Int.ofNat_inj.mp (Sum.inl.inj z)).symm
    rw [if_neg e', putAt_skip hx (by rw [hp]; intro z; exact e (Option.some.inj z))]
    cases e2 : Si42.putAt (o.take i) g with
    | none => rw [e2] at hg; exact hg
    | some y =>
      rw [e2] at hg
      obtain ⟨l', bs', h3, h4, h5⟩ := hg
      exact ⟨l', bs', h3, tx' h4, h5⟩
theorem PutsAt.keep {H0 H : Hp} {as : List Addr} {P : List Tri} {kvs : List (Key × V)} {o : List (Nat × Si42.Ask)} {i : Nat} {x : Nat × Si42.Ask} (h : PutsAt H0 H as P kvs (o.take i)) (hx : o[i]? = some x) (hp : Si42.puts x.2 = none) : PutsAt H0 H as P kvs (o.take (i + 1)) := fun g => by
  rw [putAt_skip hx (by rw [hp]; intro z; cases z)]
  exact h g
def spPuts (CM : Addr) : Sp := fun vs H Q _ => ∃ (lt lm ln : Addr) (as : List Addr) (P : List Tri) (rd : Nat → Nat) (o : List (Nat × Si42.Ask)), vs = [.ref lt, .ref lm, .ref ln] ∧ TxtAt H lt as P ∧ MksAt CM H lm rd o ∧ Ls H ln (numsV o) ∧ (∀ x ∈ o, askIn P.length x.2) ∧ o.length ≤ 100 ∧
  ∀ (H' : Hp) (d : Addr) (kvs : List (Key × V)), Same H H' → H d = none → H' d = some (.dK kvs) → PutsAt H H' as P kvs o → Q (.ref d) H'
theorem cut_ref (as : List Addr) (i j : Nat) (hij : i ≤ j) (hj : j ≤ as.length) : cutV (as.map V.ref) (some (i : Int)) (some (j : Int)) = ((as.drop i).take (j - i)).map V.ref := by
  rw [cut_at i (j - i) rfl (by omega) (by rw [List.length_map]; omega), List.map_take, List.map_drop]
theorem ok_puts {f : Addr} {fd : FuncData} (T : Facts G.K G.mg CM CC CP) (F_brought_by : Fn G "brought_by" ["bringer", "words"] 1 spBrought) (F : Fun G.K "puts_of" "puts_of" s_puts_of f fd) : FnOk G.P G.w G.K G.mg G.base CX0 2 f fd ["text", "marks", "numbers"] (spPuts CM) := by
  refine F.ok sc_puts_of (fun vs H Q E h => ?_) (fun cdv A outer s H vs Q E hr h => ?_)
  · obtain ⟨lt, lm, ln, as, P, rd, o, rfl, _⟩ := h; rfl
  · obtain ⟨lt, lm, ln, as, P, rd, o, rfl, ht, hm, hn, hin, hlen, k⟩ := h
    have nd := sc_puts_of.nd
    have hsz : (1000000 : Nat) ≤ sizeLine := by decide
    refine ⟨_, (pss_cons (ps_set (i := 3) nd rfl (Or.inl rfl) pe_dnewK)
      (pss_cons (ps_for PassesOwn.never rfl (pi_list (pv 2)) (pg_name (i := 4) nd rfl (Or.inl rfl))
      (pss_cons (ps_set (i := 5) nd rfl (Or.inl rfl) (pe_ix ix_lst (pv 1) (pv 4) (fun _ _ => rfl)))
      (pss_cons (ps_if (pt_cmpR op_eq (pe_fld (pv 5) rfl) (pe_gv T.g_CHANGE) (nomark _)) (pss_one (ps_expr (pe_dsetd (pv 3) (pe_fld (pv 5) rfl) (pe_fn F_brought_by hr rfl (pa_cons (pv 4) (pa_cons (pe_fld (pv 5) rfl) pa_nil))) ⟨rfl, rfl, rfl, rfl⟩))) pss_nil)
      (pss_one (ps_if (pt_cmpR op_eq (pe_fld (pv 5) rfl) (pe_gv T.g_MOVE) (nomark _)) (pss_one (ps_expr (pe_dsetd (pv 3) (pe_fld (pv 5) rfl) (pe_slice sl_lst (pv 0) (po_some (pe_fld (pv 5) rfl)) (po_some (pe_fld (pv 5) rfl))) ⟨rfl, rfl, rfl, rfl⟩))) pss_nil)))))
      (pss_one (ps_ret (pv 3))))), ?_⟩
    walk_at "rd"
    intro d hd
    have hal : as.length = P.length := Tups.length ht.2
    let I1 : Nat → L2.St → Hp → Prop := fun i σ H' => ∃ (kvs : List (Key × V)) (v4 v5 : Option V), σ = [some (.ref lt), some (.ref lm), some (.ref ln), some (.ref d), v4, v5] ∧ Same H H' ∧ H' d = some (.dK kvs) ∧ kvs.length ≤ i ∧ PutsAt H H' as P kvs (o.take i)
    walk_at "rd"
    refine ⟨_, rfl, ln, rfl, ⟨_, (same_ls (same_new hd) hn).sq⟩, for_mapL (xs := o) (f := fun x => V.int (x.1 : Nat)) I1 ⟨[], none, none, rfl, same_new hd, upd_same, Nat.zero_le _, ?_⟩ ?_ ?_ ?_⟩
    · intro g
      rw [List.take_zero]
      rfl
    · rintro i σ1 H1 _ ⟨kvs, v4, v5, _, s1, _⟩
      exact (same_ls s1 hn).sq
    · rintro i x σ1 H1 hx ⟨kvs, v4, v5, rfl, s1, h1, h2, h3⟩
      have hxo := List.mem_of_getElem? hx
      have hil : i < o.length := (List.getElem?_eq_some_iff.mp hx).1
      have hax := hin x hxo
      obtain ⟨a, l, s', c', ma, ra⟩ := (hm.same s1).at hxo
      have rm := ma.rd T
      walk_at "rd"
      simp only [ra, rm]
      walk_at "rd"
      have hwd := ma.wd
      obtain ⟨n, q⟩ := x
      cases q with
      | change i' j' w =>
        rw [if_pos (show ((kdA (.change i' j' w) : Nat) : Int) = 0 from rfl)]
        simp only [rm]
        walk_at "rd"
        refine ⟨.inl ⟨kvs, .inl h1⟩, ?_⟩
        refine ⟨(n : Int), l, w, rfl, Ls.of hwd, Nat.le_trans hax.2.2.1 (by decide), fun H2 l2 bs s2 hl2 ht2 hb2 => ?_⟩
        refine ⟨kvs, Sum.inl (i' : Int), s2 _ _ h1, rfl, by omega, fun v hv => ?_, fun hv => ?_⟩
        · walk_at "rd"
          simp only [(ma.same s2).rd T]
          walk_at "rd"
          rw [if_neg (show ¬ ((kdA (.change i' j' w) : Nat) : Int) = 2 from (by decide : ¬ ((0 : Nat) : Int) = 2))]
          exact ⟨kvs, _, _, rfl, s1.trans s2, s2 _ _ h1, by omega, (h3.same s2).old hx rfl hv⟩
        · walk_at "rd"
          have hld : ∀ {b : Addr} {ob : HO}, H2 b = some ob → (∀ kv, ob ≠ .dK kv) → b ≠ d := fun hb hk => ne_of hb (s2 _ _ h1) (hk _)
          have ma2 := ma.same s2
          have ma3 : MarkAt CM (upd H2 d (.dK (putK kvs (Sum.inl (i' : Int)) (.ref l2)))) a l (rd n) (.change i' j' w) s' c' := by
            obtain ⟨⟨dx, e1⟩, e2⟩ := ma2
            exact ⟨⟨dx, by rw [upd_ne (hld e1 (by intro kv z; cases z))]; exact e1⟩, by rw [upd_ne (hld e2 (by intro kv z; cases z))]; exact e2⟩
          simp only [ma3.rd T]
          walk_at "rd"
          rw [if_neg (show ¬ ((kdA (.change i' j' w) : Nat) : Int) = 2 from (by decide : ¬ ((0 : Nat) : Int) = 2))]
          refine ⟨_, _, _, rfl, same_upd (s1.trans s2) hd, upd_same, ?_, (h3.same s2).new hx rfl hv ht2 (fun b hb => .inr ?_) (s2 _ _ h1)⟩
          · have := length_putK kvs (Sum.inl (i' : Int)) (.ref l2)
            omega
          · exact fresh_none s1 (hb2 b hb)
      | keep i' j' =>
        rw [if_neg (show ¬ ((kdA (.keep i' j') : Nat) : Int) = 0 from (by decide : ¬ ((1 : Nat) : Int) = 0))]
        simp only [rm]
        walk_at "rd"
        rw [if_neg (show ¬ ((kdA (.keep i' j') : Nat) : Int) = 2 from (by decide : ¬ ((1 : Nat) : Int) = 2))]
        exact ⟨kvs, _, _, rfl, s1, h1, by omega, h3.keep hx rfl⟩
      | move i' j' k' =>
        rw [if_neg (show ¬ ((kdA (.move i' j' k') : Nat) : Int) = 0 from (by decide : ¬ ((2 : Nat) : Int) = 0))]
        simp only [rm]
        walk_at "rd"
        rw [if_pos (show ((kdA (.move i' j' k') : Nat) : Int) = 2 from rfl)]
        simp only [rm]
        walk_at "rd"
        refine ⟨.inl ⟨kvs, .inl h1⟩, ?_⟩
        have rt := (Ls.of (s1 _ _ ht.1)).rd
        simp only [rm, rt]
        walk_at "rd"
        simp only [rm, rt]
        walk_at "rd"
        intro l2 hl2
        have s2 : Same H1 (upd H1 l2 (.lst (cutV (as.map V.ref) (some (i' : Int)) (some (j' : Int))))) := same_new hl2
        have hcut : cutV (as.map V.ref) (some ((frA (.move i' j' k') : Nat) : Int)) (some ((toA (.move i' j' k') : Nat) : Int)) = ((as.drop i').take (j' - i')).map V.ref := cut_ref as i' j' (Nat.le_of_lt hax.1) (by rw [hal]; exact hax.2.1)
        rw [cut_ref as i' j' (Nat.le_of_lt hax.1) (by rw [hal]; exact hax.2.1)] at s2
        rw [hcut]
        have ht2 : TxtAt (upd H1 l2 (.lst (((as.drop i').take (j' - i')).map V.ref))) l2 ((as.drop i').take (j' - i')) (pPut P (some (n, .move i' j' k'))) := ⟨upd_same, pr_take _ (pr_drop _ ((ht.same s1).same s2).2)⟩
        refine ⟨kvs, Sum.inl (k' : Int), s2 _ _ h1, rfl, by omega, fun v hv => ?_, fun hv => ?_⟩
        · exact ⟨kvs, _, _, rfl, s1.trans s2, s2 _ _ h1, by omega, (h3.same s2).old hx rfl hv⟩
        · refine ⟨_, _, _, rfl, same_upd (s1.trans s2) hd, upd_same, ?_, (h3.same s2).new hx rfl hv ht2 (fun b hb => .inl (List.mem_of_mem_drop (List.mem_of_mem_take hb))) (s2 _ _ h1)⟩
          have := length_putK kvs (Sum.inl (k' : Int)) (.ref l2)
          omega
    · rintro σ1 H1 ⟨kvs, v4, v5, rfl, s1, h1, h2, h3⟩
      walk_at "rd"
      rw [List.take_length] at h3
      exact k H1 d kvs s1 hd h1 h3
end
section
variable {G : Env1} {CM CC CP : Addr} {H : Hp}
def numV (x : Option (Nat × Si42.Ask)) : Option V := x.map fun y => V.int (y.1 : Nat)
def TakesAt (kvs : List (Key × V)) (f : Nat → Option (Nat × Si42.Ask)) : Prop := ∀ p : Nat, valV kvs (Sum.inl (p : Int)) = numV (f p)
def spTakers (CM : Addr) : Sp := fun vs H Q _ => ∃ (lm ln : Addr) (rd : Nat → Nat) (o : List (Nat × Si42.Ask)), vs = [.ref lm, .ref ln] ∧ MksAt CM H lm rd o ∧ Ls H ln (numsV o) ∧ (∀ x ∈ o, wfA x.2 ∧ toA x.2 ≤ 1000) ∧ o.length ≤ 100 ∧
  ∀ (H' : Hp) (d : Addr) (kvs : List (Key × V)), Same H H' → H d = none → H' d = some (.dK kvs) → TakesAt kvs (takeAt o) → Q (.ref d) H'
theorem takes_ask {q : Si42.Ask} (h : notKeep q) (p : Nat) : takes q p = true ↔ frA q ≤ p ∧ p < toA q := by
  cases q with
  | change i j w =>
    show (decide (i ≤ p) && decide (p < j)) = true ↔ i ≤ p ∧ p < j
    rw [Bool.and_eq_true, decide_eq_true_eq, decide_eq_true_eq]
  | keep i j => exact h.elim
  | move i j k =>
    show (decide (i ≤ p) && decide (p < j)) = true ↔ i ≤ p ∧ p < j
    rw [Bool.and_eq_true, decide_eq_true_eq, decide_eq_true_eq]
theorem takes_keep (i j p : Nat) : takes (.keep i j) p = false := by
  show (decide (i ≤ p) && decide (p < i)) = false
  rw [Bool.eq_false_iff]
  intro h
  rw [Bool.and_eq_true, decide_eq_true_eq, decide_eq_true_eq] at h
  omega
theorem takeAt_snoc {o : List (Nat × Si42.Ask)} {i : Nat} {x : Nat × Si42.Ask} (h : o[i]? = some x) (p : Nat) : takeAt (o.take (i + 1)) p = (takeAt (o.take i) p).or (if takes x.2 p = true then some x else none) := by
  unfold takeAt
  rw [take_snoc h, List.find?_append]
  congr 1
  rw [List.find?_cons]
  cases takes x.2 p <;> rfl
theorem ok_takers {f : Addr} {fd : FuncData} (T : Facts G.K G.mg CM CC CP) (F : Fun G.K "takers_of" "takers_of" s_takers_of f fd) : FnOk G.P G.w G.K G.mg G.base CX0 1 f fd ["marks", "numbers"] (spTakers CM) := by
  refine F.ok sc_takers_of (fun vs H Q E h => ?_) (fun cdv A outer s H vs Q E hr h => ?_)
  · obtain ⟨lm, ln, rd, o, rfl, _⟩ := h; rfl
  · obtain ⟨lm, ln, rd, o, rfl, hm, hn, hin, hlen, k⟩ := h
    have nd := sc_takers_of.nd
    have hsz : (1000000 : Nat) ≤ sizeLine := by decide
    refine ⟨_, (pss_cons (ps_set (i := 2) nd rfl (Or.inl rfl) pe_dnewK)
      (pss_cons (ps_for PassesOwn.never rfl (pi_list (pv 1)) (pg_name (i := 3) nd rfl (Or.inl rfl))
      (pss_cons (ps_set (i := 4) nd rfl (Or.inl rfl) (pe_ix ix_lst (pv 0) (pv 3) (fun _ _ => rfl)))
      (pss_one (ps_if (pt_cmpR op_ne (pe_fld (pv 4) rfl) (pe_gv T.g_KEEP) (nomark _)) (pss_one (ps_for PassesOwn.never rfl (pi_range2 rfl T.b_range (pa_cons (pe_fld (pv 4) rfl) (pa_cons (pe_fld (pv 4) rfl) pa_nil))) (pg_name (i := 5) nd rfl (Or.inl rfl))
      (pss_one (ps_expr (pe_dsetd (pv 2) (pv 5) (pv 3) ⟨rfl, rfl, rfl, rfl⟩))))) pss_nil))))
      (pss_one (ps_ret (pv 2))))), ?_⟩
    walk_at "rd"
    intro d hd
    let I1 : Nat → L2.St → Hp → Prop := fun i σ H' => ∃ (kvs : List (Key × V)) (v3 v4 v5 : Option V), σ = [some (.ref lm), some (.ref ln), some (.ref d), v3, v4, v5] ∧ Same H H' ∧ H' d = some (.dK kvs) ∧ kvs.length ≤ i * 1000 ∧ TakesAt kvs (takeAt (o.take i))
    refine ⟨_, rfl, ln, rfl, ⟨_, (same_ls (same_new hd) hn).sq⟩, for_mapL (xs := o) (f := fun x => V.int (x.1 : Nat)) I1 ⟨[], none, none, none, rfl, same_new hd, upd_same, Nat.zero_le _, fun p => by rw [List.take_zero]; rfl⟩ ?_ ?_ ?_⟩
    · rintro i σ1 H1 _ ⟨kvs, v3, v4, v5, _, s1, _⟩
      exact (same_ls s1 hn).sq
    · rintro i x σ1 H1 hx ⟨kvs, v3, v4, v5, rfl, s1, h1, h2, h3⟩
      have hxo := List.mem_of_getElem? hx
      have hil : i < o.length := (List.getElem?_eq_some_iff.mp hx).1
      obtain ⟨hwf, hto⟩ := hin x hxo
      obtain ⟨a, l, s', c', ma, ra⟩ := (hm.same s1).at hxo
      have rm := ma.rd T
      walk_at "rd"
      simp only [ra, rm]
      walk_at "rd"
      by_cases hk : notKeep x.2
      · have hkd : ¬ ((kdA x.2 : Nat) : Int) = 1 := by
          cases hq : x.2 with
          | change => rw [kdA]; decide
          | move => rw [kdA]; decide
          | keep => rw [hq] at hk; exact hk.elim
        simp only [hkd, not_false_eq_true, if_true]
        have hft : frA x.2 ≤ toA x.2 := by
          cases hq : x.2 with
          | change => rw [hq] at hwf; exact hwf
          | move => rw [hq] at hwf; exact Nat.le_of_lt hwf
          | keep => rw [hq] at hwf; exact Nat.le_of_lt hwf
        let I2 : Nat → L2.St → Hp → Prop := fun j σ H' => ∃ (kvs : List (Key × V)) (v5 : Option V), σ = [some (.ref lm), some (.ref ln), some (.ref d), some (.int (x.1 : Nat)), some (.ref a), v5] ∧ Same H H' ∧ H' d = some (.dK kvs) ∧ kvs.length ≤ i * 1000 + j ∧ TakesAt kvs fun p => (takeAt (o.take i) p).or (if frA x.2 ≤ p ∧ p < frA x.2 + j then some x else none)
        walk_at "rf"
        simp only [rm]
        walk_at "rf"
        refine ⟨_, _, ⟨rfl, rfl⟩, ⟨by omega, by omega, by omega, by omega⟩, for_rng (lo := frA x.2) (n := toA x.2 - frA x.2) rfl (by omega) I2 ⟨kvs, v5, rfl, s1, h1, h2, fun p => ?_⟩ ?_ ?_⟩
        · dsimp only
          rw [if_neg (by omega), Option.or_none]
          exact h3 p
        · rintro j σ2 H2 hj ⟨kvs, v5, rfl, s2, h4, h5, h6⟩
          have h6 : ∀ p : Nat, valV kvs (Sum.inl (p : Int)) = numV ((takeAt (o.take i) p).or (if frA x.2 ≤ p ∧ p < frA x.2 + j then some x else none)) := h6
          walk_at "rd"
          have hb : i * 1000 + j < 1000000 := by omega
          refine ⟨.inl ⟨kvs, .inl h4⟩, kvs, Sum.inl ((frA x.2 + j : Nat) : Int), h4, rfl, by omega, fun v hv => ?_, fun hv => ?_⟩
          · refine ⟨kvs, _, rfl, s2, h4, by omega, fun p => ?_⟩
            dsimp only
            rw [h6 p]
            by_cases hp : p = frA x.2 + j
            · subst hp
              have h7 := h6 (frA x.2 + j)
              rw [hv, if_neg (by omega), Option.or_none] at h7
              cases ht : takeAt (o.take i) (frA x.2 + j) with
              | none => rw [ht] at h7; cases h7
              | some y => rfl
            · congr 2
              have : (frA x.2 ≤ p ∧ p < frA x.2 + j) ↔ (frA x.2 ≤ p ∧ p < frA x.2 + (j + 1)) := by omega
              simp only [this]
          · refine ⟨_, _, rfl, same_upd s2 hd, upd_same, ?_, fun p => ?_⟩
            · have := length_putK kvs (Sum.inl ((frA x.2 + j : Nat) : Int)) (.int (x.1 : Nat))
              omega
            · dsimp only
              rw [valV_put]
              by_cases hp : p = frA x.2 + j
              · subst hp
                have h7 := h6 (frA x.2 + j)
                rw [hv, if_neg (by omega), Option.or_none] at h7
                rw [if_pos rfl]
                cases ht : takeAt (o.take i) (frA x.2 + j) with
                | none =>
                  rw [if_pos (by omega)]
                  rfl
                | some y => rw [ht] at h7; cases h7
              · rw [if_neg (fun z => hp (Int.ofNat_inj.mp (Sum.inl.inj z))), h6 p]
                congr 2
                have : (frA x.2 ≤ p ∧ p < frA x.2 + j) ↔ (frA x.2 ≤ p ∧ p < frA x.2 + (j + 1)) := by omega
                simp only [this]
        · rintro σ2 H2 ⟨kvs, v5, rfl, s2, h4, h5, h6⟩
          refine ⟨kvs, _, _, _, rfl, s2, h4, by omega, fun p => ?_⟩
          rw [h6 p, takeAt_snoc hx]
          congr 2
          have : (frA x.2 ≤ p ∧ p < frA x.2 + (toA x.2 - frA x.2)) ↔ takes x.2 p = true := by
            rw [takes_ask hk]
            omega
          simp only [this]
      · obtain ⟨n, q⟩ := x
        cases q with
        | change => exact absurd trivial hk
        | move => exact absurd trivial hk
        | keep i' j' =>
          dsimp only [kdA]
          simp only [Int.ofNat_eq_natCast, Int.cast_ofNat_Int, not_true_eq_false, if_false]
          refine ⟨kvs, _, _, _, rfl, s1, h1, by omega, fun p => ?_⟩
          rw [takeAt_snoc hx, h3 p, takes_keep]
          simp
    · rintro σ1 H1 ⟨kvs, v3, v4, v5, rfl, s1, h1, h2, h3⟩
      walk_at "rd"
      rw [List.take_length] at h3
      exact k H1 d kvs s1 hd h1 h3
def spInitC (CC : Addr) : Sp := fun vs H Q _ => ∃ (a dx : Addr) (t g : V), vs = [.ref a, t, g] ∧ H a = some (.ins CC dx []) ∧ Q .non (upd H a (.ins CC dx [("text", t), ("gaps", g)]))
theorem ok_initC {f : Addr} {fd : FuncData} (T : Facts G.K G.mg CM CC CP) (F : Fun G.K "__init__" "Carried.__init__" s_Carried___init__ f fd) : FnOk G.P G.w G.K G.mg G.base CX0 1 f fd ["self", "text", "gaps"] (spInitC CC) := by
  refine F.ok sc_Carried___init__ (fun vs H Q E h => ?_) (fun cdv A outer s H vs Q E hr h => ?_)
  · obtain ⟨a, dx, t, g, rfl, _⟩ := h; rfl
  · obtain ⟨a, dx, t, g, rfl, ha, q⟩ := h
    refine ⟨_, (pss_cons (ps_fld (pv 0) (pv 1) rfl)
      (pss_one (ps_fld (pv 0) (pv 2) rfl))), ?_⟩
    walk_at "rd"
    refine (setR_of ha T.cl_Carried T.n_Carried_text (by decide)).mpr ?_
    walk_at "rd"
    refine (setR_of upd_same T.cl_Carried T.n_Carried_gaps (by show (1 : Nat) < 1000; decide)).mpr ?_
    simp only [upd_upd]
    exact q
structure CarAt (CC : Addr) (H : Hp) (c lt lg : Addr) (bs : List Addr) (U : List Tri) (gs : List Nat) : Prop where
  ob : ∃ dx, H c = some (.ins CC dx [("text", .ref lt), ("gaps", .ref lg)])
  tx : TxtAt H lt bs U
  ga : H lg = some (.lst (natsV gs))
theorem CarAt.same {H H' : Hp} {c lt lg : Addr} {bs : List Addr} {U : List Tri} {gs : List Nat} (h : CarAt CC H c lt lg bs U gs) (s : Same H H') : CarAt CC H' c lt lg bs U gs := by
  obtain ⟨⟨dx, h1⟩, h2, h3⟩ := h
  exact ⟨⟨dx, s _ _ h1⟩, h2.same s, s _ _ h3⟩
theorem CarAt.rd {H : Hp} {c lt lg : Addr} {bs : List Addr} {U : List Tri} {gs : List Nat} (h : CarAt CC H c lt lg bs U gs) {K : PySem.W.Frag} {mg : Str → Option Value} (T : Facts K mg CM CC CP) :
    (∀ Q, fldR K "text" (.ref c) H Q = Q (.ref lt) H) ∧ (∀ Q, fldR K "gaps" (.ref c) H Q = Q (.ref lg) H) := by
  obtain ⟨⟨dx, h1⟩, _, _⟩ := h
  exact ⟨fun Q => fldR_of h1 T.cl_Carried T.n_Carried_text rfl, fun Q => fldR_of h1 T.cl_Carried T.n_Carried_gaps rfl⟩
def gapsOf (P : List Tri) (o : List (Nat × Si42.Ask)) : List Nat := (List.range (P.length + 1)).map (pGap P o)
def spCarry (CM CC : Addr) : Sp := fun vs H Q _ => ∃ (lt lm ln : Addr) (as : List Addr) (P : List Tri) (rd : Nat → Nat) (o : List (Nat × Si42.Ask)), vs = [.ref lt, .ref lm, .ref ln] ∧ TxtAt H lt as P ∧ MksAt CM H lm rd o ∧ Ls H ln (numsV o) ∧ (∀ x ∈ o, askIn P.length x.2) ∧ o.length ≤ 100 ∧ P.length ≤ 100 ∧
  ∀ (H' : Hp) (c lt' lg : Addr) (bs : List Addr), Same H H' → H c = none → H lt' = none → H lg = none → CarAt CC H' c lt' lg bs (pDone P o) (gapsOf P o) → (∀ b ∈ bs, b ∈ as ∨ H b = none) → Q (.ref c) H'
theorem pPut_len {P : List Tri} {o : List (Nat × Si42.Ask)} (hin : ∀ x ∈ o, askIn P.length x.2) (hl : P.length ≤ 100) (g : Nat) : (pPut P (Si42.putAt o g)).length ≤ 100 := by
  cases e : Si42.putAt o g with
  | none => simp [pPut]
  | some x =>
    have hx := hin x (put_mem e).1
    obtain ⟨n, q⟩ := x
    cases q with
    | change i j w =>
      have : (pPut P (some (n, .change i j w))).length = w.length := by
        show (bring n w).length = _
        unfold bring
        simp
      rw [this]
      exact Nat.le_trans hx.2.2.1 (by decide)
    | keep i j => simp [pPut]
    | move i j k' =>
      show ((P.drop i).take (j - i)).length ≤ 100
      rw [List.length_take, List.length_drop]
      omega
theorem pOut_len {P : List Tri} {o : List (Nat × Si42.Ask)} (hin : ∀ x ∈ o, askIn P.length x.2) (hl : P.length ≤ 100) : ∀ g, (pOut P o g).length ≤ 101 * g
  | 0 => by simp [pOut]
  | g + 1 => by
    have h1 := pOut_len hin hl g
    have h2 := pPut_len hin hl g
    show (pOut P o g ++ (pPut P (Si42.putAt o g) ++ (if (takeAt o g).isSome = true then [] else (P.drop g).take 1))).length ≤ _
    rw [List.length_append, List.length_append]
    have : ((if (takeAt o g).isSome = true then [] else (P.drop g).take 1) : List Tri).length ≤ 1 := by
      split
      · simp
      · exact List.length_take_le _ _
    omega
theorem askIn_wf {n : Nat} {q : Si42.Ask} (h : askIn n q) : wfA q ∧ toA q ≤ n := by
  cases q with
  | change i j w => exact ⟨h.1, h.2.1⟩
  | keep i j => exact ⟨h.1, h.2⟩
  | move i j k => exact ⟨h.1, h.2.1⟩
theorem ok_carry {f : Addr} {fd : FuncData} (T : Facts G.K G.mg CM CC CP) (F_puts_of : Fn G "puts_of" ["text", "marks", "numbers"] 2 (spPuts CM)) (F_takers_of : Fn G "takers_of" ["marks", "numbers"] 1 (spTakers CM)) (K_Carried : Md G "Carried" CC ["self", "text", "gaps"] 1 (spInitC CC))
    (F : Fun G.K "carry_out" "carry_out" s_carry_out f fd) : FnOk G.P G.w G.K G.mg G.base CX0 4 f fd ["text", "marks", "numbers"] (spCarry CM CC) := by
  refine F.ok sc_carry_out (fun vs H Q E h => ?_) (fun cdv A outer s H vs Q E hr h => ?_)
  · obtain ⟨lt, lm, ln, as, P, rd, o, rfl, _⟩ := h; rfl
  · obtain ⟨lt, lm, ln, as, P, rd, o, rfl, ht, hm, hn, hin, hlen, hpl, k⟩ := h
    have nd := sc_carry_out.nd
    have hsz : (1000000 : Nat) ≤ sizeLine := by decide
    have hal : as.length = P.length := Tups.length ht.2
    refine ⟨_, (pss_cons (ps_set (i := 3) nd rfl (Or.inl rfl) (pe_fn F_puts_of hr rfl (pa_cons (pv 0) (pa_cons (pv 1) (pa_cons (pv 2) pa_nil)))))
      (pss_cons (ps_set (i := 4) nd rfl (Or.inl rfl) (pe_fn F_takers_of hr rfl (pa_cons (pv 1) (pa_cons (pv 2) pa_nil))))
      (pss_cons (ps_set (i := 5) nd rfl (Or.inl rfl) (pe_lst pa_nil))
      (pss_cons (ps_set (i := 6) nd rfl (Or.inl rfl) (pe_lst pa_nil))
      (pss_cons (ps_for PassesOwn.never rfl (pi_range1 rfl T.b_range (pa_cons (pe_op op_add (pe_callB call_lenN (by rfl) T.b_len bt_len (pa_cons (pv 0) pa_nil)) pe_int) pa_nil)) (pg_name (i := 7) nd rfl (Or.inl rfl))
      (pss_cons (ps_expr (pe_bm PySem.F.plainAttrs_list PySem.F.slot_list_extend PySem.F.type_list_extend mt_extend (pv 5) (pa_cons (pe_dget2 (hu_of hr) (pv 3) (pv 7) (pe_lst pa_nil) ⟨rfl, rfl, rfl, rfl⟩) pa_nil)))
      (pss_cons (ps_expr (pe_bm PySem.F.plainAttrs_list PySem.F.slot_list_append PySem.F.type_list_append mt_append (pv 6) (pa_cons (pe_callB call_lenN (by rfl) T.b_len bt_len (pa_cons (pv 5) pa_nil)) pa_nil)))
      (pss_one (ps_if (PW.pt (pw_and (pt_cmpR op_lt (pv 7) (pe_callB call_lenN (by rfl) T.b_len bt_len (pa_cons (pv 0) pa_nil)) (nomark _)) (pw_and1 (pt_cmp (pc_dnotin (hu_of hr) (pv 7) (pv 4)))))) (pss_one (ps_expr (pe_bm PySem.F.plainAttrs_list PySem.F.slot_list_append PySem.F.type_list_append mt_append (pv 5) (pa_cons (pe_ix ix_lst (pv 0) (pv 7) (fun _ _ => rfl)) pa_nil)))) pss_nil)))))
      (pss_one (ps_ret (pe_mk K_Carried hr rfl (pa_cons (pv 5) (pa_cons (pv 6) pa_nil)))))))))), ?_⟩
    walk_at "rd"
    refine ⟨lt, lm, ln, as, P, rd, o, rfl, ht, hm, hn, hin, hlen, fun H1 d kvs s1 hd h1 hp => ?_⟩
    walk_at "rd"
    refine ⟨lm, ln, rd, o, rfl, hm.same s1, same_ls s1 hn, fun x hx => ⟨(askIn_wf (hin x hx)).1, Nat.le_trans (askIn_wf (hin x hx)).2 (by omega)⟩, hlen, fun H2 d2 kvs2 s2 hd2 h2 ht2 => ?_⟩
    walk_at "rd"
    refine ⟨Nat.zero_le _, fun lt' hlt' => ⟨Nat.zero_le _, fun lg hlg => ?_⟩⟩
    have s12 : Same H H2 := s1.trans s2
    have s3 : Same H2 (upd H2 lt' (.lst [])) := same_new hlt'
    have s4 : Same H2 (upd (upd H2 lt' (.lst [])) lg (.lst [])) := s3.trans (same_new hlg)
    have hltg : lt' ≠ lg := ne_of_none upd_same hlg
    have e1 : H2 lt' = none := hlt'
    have e2 : H2 lg = none := fresh_none s3 hlg
    have rt : ∀ H', Same H2 H' → _ := fun H' s' => (Ls.of ((s12.trans s') _ _ ht.1)).rd
    walk_at "rf"
    simp only [rt _ s4]
    walk_at "rf"
    let I1 : Nat → L2.St → Hp → Prop := fun i σ H' => ∃ (bs : List Addr) (v7 : Option V), σ = [some (.ref lt), some (.ref lm), some (.ref ln), some (.ref d), some (.ref d2), some (.ref lt'), some (.ref lg), v7] ∧ Same H2 H' ∧ TxtAt H' lt' bs (pOut P o i) ∧ H' lg = some (.lst (natsV ((List.range i).map (pGap P o)))) ∧ (∀ b ∈ bs, b ∈ as ∨ H b = none)
    refine ⟨by rw [List.length_map]; omega, by rw [List.length_map]; omega, for_rng (lo := 0) (n := P.length + 1) rfl (by rw [List.length_map]; omega) I1 ⟨[], none, rfl, s4, ⟨by rw [upd_ne hltg, upd_same]; rfl, .nil⟩, upd_same, fun b hb => absurd hb List.not_mem_nil⟩ ?_ ?_⟩
    · rintro i σ1 H3 hi ⟨bs, v7, rfl, s5, h5, h6, h7⟩
      rw [Nat.zero_add]
      have hb5 : bs.length = (pOut P o i).length := Tups.length h5.2
      have ho := pOut_len hin hpl i
      have hpp := pPut_len hin hpl i
      have l5 := lw_rd h5.1
      walk_at "rd"
      simp only [l5, true_and]
      refine ⟨.inl ⟨kvs, .inl (s5 _ _ (s2 _ _ h1))⟩, Nat.zero_le _, fun e he => ⟨_, DGet.k (k := Sum.inl (i : Int)) (same_new he _ _ (s5 _ _ (s2 _ _ h1))), ?_⟩⟩
      have se : Same H3 (upd H3 e (.lst [])) := same_new he
      have hle : lt' ≠ e := ne_of_none h5.1 he
      have hlge : lg ≠ e := ne_of_none h6 he
      have l5e := lw_rd (se _ _ h5.1)
      obtain ⟨l, cs, hv, hl, hcs⟩ : ∃ l cs, ((valV kvs (Sum.inl (i : Int))).getD (.ref e)) = .ref l ∧ TxtAt (upd H3 e (.lst [])) l cs (pPut P (Si42.putAt o i)) ∧ ∀ b ∈ cs, b ∈ as ∨ H b = none := by
        have hpi := hp i
        cases ep : Si42.putAt o i with
        | none =>
          rw [ep] at hpi
          rw [hpi]
          exact ⟨e, [], rfl, ⟨upd_same, .nil⟩, fun b hb => absurd hb List.not_mem_nil⟩
        | some x =>
          rw [ep] at hpi
          obtain ⟨l, cs, h8, h9, h10⟩ := hpi
          rw [h8]
          exact ⟨l, cs, rfl, h9.same (s2.trans (s5.trans se)), h10⟩
      rw [hv]
      simp only [l5e]
      refine ⟨_, hl.1, by rw [List.length_map, List.length_map, Tups.length hl.2]; omega, ?_⟩
      have h8 : TxtAt (upd (upd H3 e (.lst [])) lt' (.lst (bs.map V.ref ++ cs.map V.ref))) lt' (bs ++ cs) (pOut P o i ++ pPut P (Si42.putAt o i)) := by
        refine ⟨by rw [upd_same, List.map_append], pr_app (pr_on h5.2 fun b hb x ex => ?_) (pr_on hl.2 fun b hb x ex => ?_)⟩
        · rw [upd_ne (Tups.ne_lst h5.2 h5.1 b hb)]
          exact se _ _ ex
        · rw [upd_ne (ne_of ex (se _ _ h5.1) (by intro z; cases z))]
          exact ex
      have s6 : Same H2 (upd (upd H3 e (.lst [])) lt' (.lst (bs.map V.ref ++ cs.map V.ref))) := same_upd (s5.trans se) e1
      have h9 : upd (upd H3 e (.lst [])) lt' (.lst (bs.map V.ref ++ cs.map V.ref)) lg = some (.lst (natsV ((List.range i).map (pGap P o)))) := by
        rw [upd_ne (Ne.symm hltg)]
        exact se _ _ h6
      obtain ⟨H4, e4⟩ : ∃ H4, H4 = upd (upd H3 e (.lst [])) lt' (.lst (bs.map V.ref ++ cs.map V.ref)) := ⟨_, rfl⟩
      rw [← e4] at h8 h9 s6 ⊢
      have l9 := lw_rd h9
      have r8 := (Ls.of h8.1).rd
      walk_at "rd"
      simp only [l9, r8, true_and]
      refine ⟨by rw [natsV_length, List.length_map, List.length_range]; omega, ?_⟩
      have h10 : TxtAt (upd H4 lg (.lst (natsV ((List.range i).map (pGap P o)) ++ [.int ((bs ++ cs).map V.ref).length]))) lt' (bs ++ cs) (pOut P o i ++ pPut P (Si42.putAt o i)) := by
        refine ⟨by rw [upd_ne hltg]; exact h8.1, pr_on h8.2 fun b hb x ex => ?_⟩
        rw [upd_ne (ne_of ex h9 (by intro z; cases z))]
        exact ex
      have h11 : upd H4 lg (.lst (natsV ((List.range i).map (pGap P o)) ++ [.int ((bs ++ cs).map V.ref).length])) lg = some (.lst (natsV ((List.range (i + 1)).map (pGap P o)))) := by
        rw [upd_same, List.range_succ, List.map_append (f := pGap P o)]
        have : (((bs ++ cs).map V.ref).length : Int) = ((pGap P o i : Nat) : Int) := by
          rw [List.length_map, List.length_append, hb5, Tups.length hl.2]
          rfl
        rw [this]
        unfold natsV
        rw [List.map_append]
        rfl
      have s7 : Same H2 (upd H4 lg (.lst (natsV ((List.range i).map (pGap P o)) ++ [.int ((bs ++ cs).map V.ref).length]))) := same_upd s6 e2
      have h12 : ∀ b ∈ bs ++ cs, b ∈ as ∨ H b = none := fun b hb => (List.mem_append.mp hb).elim (h7 b) (hcs b)
      obtain ⟨H5, e5⟩ : ∃ H5, H5 = upd H4 lg (.lst (natsV ((List.range i).map (pGap P o)) ++ [.int ((bs ++ cs).map V.ref).length])) := ⟨_, rfl⟩
      rw [← e5] at h10 h11 s7 ⊢
      have rt5 := (Ls.of ((s12.trans s7) _ _ ht.1)).rd
      walk_at "rd"
      simp only [rt5, List.length_map, hal]
      walk_at "rd"
      have nope : (P.length ≤ i ∨ (takeAt o i).isSome = true) → I1 (i + 1) [some (.ref lt), some (.ref lm), some (.ref ln), some (.ref d), some (.ref d2), some (.ref lt'), some (.ref lg), some (.int (i : Nat))] H5 := fun hno => by
        refine ⟨bs ++ cs, _, rfl, s7, ?_, h11, h12⟩
        have : pOut P o (i + 1) = pOut P o i ++ pPut P (Si42.putAt o i) := by
          show pOut P o i ++ (pPut P (Si42.putAt o i) ++ (if (takeAt o i).isSome = true then [] else (P.drop i).take 1)) = _
          rw [show ((if (takeAt o i).isSome = true then [] else (P.drop i).take 1) : List Tri) = [] from ?_, List.append_nil]
          split
          · rfl
          · rename_i hh
            rcases hno with hno | hno
            · rw [List.drop_eq_nil_of_le hno]
              rfl
            · exact absurd hno hh
        rw [this]
        exact h10
      split
      · rename_i hlt
        have hlt : i < P.length := by omega
        refine ⟨_, rfl, _, rfl, d2, _, rfl, DGet.k (k := Sum.inl (i : Int)) (s7 _ _ h2), _, rfl, ?_⟩
        rw [ht2 i]
        walk_at "rd"
        split
        · rename_i hnt
          have hnt : (takeAt o i).isSome = false := by
            unfold numV at hnt
            rw [Option.isSome_map] at hnt
            simpa using hnt
          have l10 := lw_rd h10.1
          obtain ⟨x, hx⟩ : ∃ x, P[i]? = some x := ⟨_, List.getElem?_eq_getElem hlt⟩
          obtain ⟨a, ha, hax⟩ := pr_get ht.2 hx
          simp only [l10, rt5, true_and, ixV_nat (show (as.map V.ref)[i]? = some (V.ref a) by rw [List.getElem?_map, ha]; rfl)]
          refine ⟨by rw [List.length_map, List.length_append, hb5, Tups.length hl.2]; omega, (bs ++ cs) ++ [a], _, rfl, same_upd s7 e1, ⟨by rw [upd_same, List.map_append (l₂ := [a])]; rfl, ?_⟩, by rw [upd_ne (Ne.symm hltg)]; exact h11, ?_⟩
          · have : pOut P o (i + 1) = (pOut P o i ++ pPut P (Si42.putAt o i)) ++ [x] := by
              show pOut P o i ++ (pPut P (Si42.putAt o i) ++ (if (takeAt o i).isSome = true then [] else (P.drop i).take 1)) = _
              rw [hnt, if_neg (by decide), ← List.append_assoc]
              congr 1
              rw [List.drop_eq_getElem_cons hlt]
              rw [List.getElem?_eq_getElem hlt] at hx
              cases hx
              rfl
            rw [this]
            refine pr_app (pr_on h10.2 fun b hb y ey => ?_) (.cons ?_ .nil)
            · rw [upd_ne (ne_of ey h10.1 (by intro z; cases z))]
              exact ey
            · have hax5 := (s12.trans s7) _ _ hax
              rw [upd_ne (ne_of hax5 h10.1 (by intro z; cases z))]
              exact hax5
          · intro b hb
            rcases List.mem_append.mp hb with hb | hb
            · exact h12 b hb
            · rw [List.mem_singleton.mp hb]
              exact .inl (List.mem_of_getElem? ha)
        · rename_i hnt
          refine nope (.inr ?_)
          cases et : takeAt o i with
          | some y => rfl
          | none =>
            rw [et] at hnt
            exact absurd rfl hnt
      · rename_i hlt
        exact nope (.inl (by omega))
    · rintro σ1 H3 ⟨bs, v7, rfl, s5, h5, h6, h7⟩
      walk_at "rd"
      intro x dx hx hdx hne
      refine ⟨x, dx, _, _, rfl, upd_same, rfl, ?_⟩
      have hx2 : H3 x = none := hx
      have hdx2 : H3 dx = none := hdx
      have s6 : Same H3 (upd (upd (upd H3 dx (.own x)) x (.ins CC dx [])) x (.ins CC dx [("text", .ref lt'), ("gaps", .ref lg)])) := same_upd (same_upd (same_new hdx2) hx2) hx2
      have hlast : pOut P o (P.length + 1) = pDone P o := by
        show pOut P o P.length ++ (pPut P (Si42.putAt o P.length) ++ (if (takeAt o P.length).isSome = true then [] else (P.drop P.length).take 1)) = pOut P o P.length ++ pPut P (Si42.putAt o P.length)
        rw [List.drop_length]
        simp
      rw [hlast] at h5
      exact k _ x lt' lg bs (s12.trans (s5.trans s6)) (fresh_none (s12.trans s5) hx2) (fresh_none s12 e1) (fresh_none s12 e2) ⟨⟨dx, upd_same⟩, h5.same s6, s6 _ _ h6⟩ h7
def spGone (CM : Addr) : Sp := fun vs H Q _ => ∃ (lt lm ln : Addr) (as : List Addr) (T : List GT) (rd : Nat → Nat) (o : List (Nat × Si42.Ask)), vs = [.ref lt, .ref lm, .ref ln] ∧ TxtAt H lt as (T.map trip) ∧ MksAt CM H lm rd o ∧ Ls H ln (numsV o) ∧ (∀ x ∈ o, askIn T.length x.2) ∧ o.length ≤ 100 ∧ T.length ≤ 100 ∧
  ∀ (H' : Hp) (l : Addr) (bs : List Addr), Same H H' → H l = none → H' l = some (.lst (bs.map V.ref)) → Prs H' bs (pGone T o) → (∀ b ∈ bs, H b = none) → Q (.ref l) H'
def goneAt (o : List (Nat × Si42.Ask)) (x : GT × Nat) : Option (Nat × Nat) := match takeAt o x.2 with
  | some y => if isCh y.2 = true ∧ x.1.1.by_ = none then some (x.1.2, y.1) else none
  | none => none
theorem fm_take {α β : Type} {f : α → Option β} {l : List α} {i : Nat} {x : α} (h : l[i]? = some x) : (l.take (i + 1)).filterMap f = (l.take i).filterMap f ++ (f x).toList := by
  rw [take_snoc h, List.filterMap_append]
  have : [x].filterMap f = (f x).toList := by
    rw [List.filterMap_cons]
    cases f x <;> rfl
  rw [this]
theorem ok_gone {f : Addr} {fd : FuncData} (T : Facts G.K G.mg CM CC CP) (F_takers_of : Fn G "takers_of" ["marks", "numbers"] 1 (spTakers CM)) (F : Fun G.K "gone_words" "gone_words" s_gone_words f fd) : FnOk G.P G.w G.K G.mg G.base CX0 2 f fd ["text", "marks", "numbers"] (spGone CM) := by
  refine F.ok sc_gone_words (fun vs H Q E h => ?_) (fun cdv A outer s H vs Q E hr h => ?_)
  · obtain ⟨lt, lm, ln, as, T', rd, o, rfl, _⟩ := h; rfl
  · obtain ⟨lt, lm, ln, as, W, rd, o, rfl, ht, hm, hn, hin, hlen, hpl, k⟩ := h
    have nd := sc_gone_words.nd
    have hsz : (1000000 : Nat) ≤ sizeLine := by decide
    have hal : as.length = W.length := by rw [Tups.length ht.2, List.length_map]
    refine ⟨_, (pss_cons (ps_set (i := 3) nd rfl (Or.inl rfl) (pe_fn F_takers_of hr rfl (pa_cons (pv 1) (pa_cons (pv 2) pa_nil))))
      (pss_cons (ps_set (i := 4) nd rfl (Or.inl rfl) (pe_lst pa_nil))
      (pss_cons (ps_for PassesOwn.never rfl (pi_enum rfl T.b_enumerate (pa_cons (pv 0) pa_nil)) (pg_tup (n := 2) (by rfl) (pgs_cons (pg_name (i := 5) nd rfl (Or.inl rfl)) (pgs_cons (pg_name (i := 6) nd rfl (Or.inl rfl)) pgs_nil)))
      (pss_one (ps_if (PW.pt (pw_and (pt_cmp (pc_din (hu_of hr) (pv 5) (pv 3))) (pw_and (pt_cmpR op_eq (pe_fld (pe_ix ix_lst (pv 1) (pe_dget (hu_of hr) (pv 3) (pv 5) (fun _ _ => rfl)) (fun _ _ => rfl)) (by rfl)) (pe_gv T.g_CHANGE) (nomark _)) (pw_and1 (pt_cmpR op_eq (pe_ix ix_tp (pv 6) pe_int (fun _ _ => rfl)) (pe_gv T.g_NOBODY) (nomark _)))))) (pss_one (ps_expr (pe_bm PySem.F.plainAttrs_list PySem.F.slot_list_append PySem.F.type_list_append mt_append (pv 4) (pa_cons (pe_tup (pa_cons (pe_ix ix_tp (pv 6) pe_int (fun _ _ => rfl)) (pa_cons (pe_dget (hu_of hr) (pv 3) (pv 5) (fun _ _ => rfl)) pa_nil))) pa_nil)))) pss_nil)))
      (pss_one (ps_ret (pv 4)))))), ?_⟩
    walk_at "rd"
    refine ⟨lm, ln, rd, o, rfl, hm, hn, fun x hx => ⟨(askIn_wf (hin x hx)).1, Nat.le_trans (askIn_wf (hin x hx)).2 (by omega)⟩, hlen, fun H1 d kvs s1 hd h1 ht1 => ?_⟩
    walk_at "rd"
    refine ⟨Nat.zero_le _, fun g hg => ?_⟩
    have hg0 : H g = none := fresh_none s1 hg
    have hzl : W.zipIdx.length = W.length := List.length_zipIdx
    have hpg : pGone W o = W.zipIdx.filterMap (goneAt o) := rfl
    let I1 : Nat → L2.St → Hp → Prop := fun i σ H' => ∃ (bs : List Addr) (v5 v6 : Option V), σ = [some (.ref lt), some (.ref lm), some (.ref ln), some (.ref d), some (.ref g), v5, v6] ∧ Same H1 H' ∧ H' g = some (.lst (bs.map V.ref)) ∧ Prs H' bs ((W.zipIdx.take i).filterMap (goneAt o)) ∧ (∀ b ∈ bs, H b = none) ∧ bs.length ≤ i
    refine ⟨_, rfl, lt, as.map V.ref, rfl, (Ls.of (same_new hg _ _ (s1 _ _ ht.1))).sq, for_enum (xs := as.map V.ref) I1 ⟨[], none, none, rfl, same_new hg, upd_same, by rw [List.take_zero]; exact .nil, fun b hb => absurd hb List.not_mem_nil, Nat.zero_le _⟩ ?_ ?_ ?_⟩
    · rintro i σ1 H2 _ ⟨bs, v5, v6, _, s2, _⟩
      exact (Ls.of (s2 _ _ (s1 _ _ ht.1))).sq
    · rintro i x σ1 H2 T2 hx hT2 ⟨bs, v5, v6, rfl, s2, h2, h3, h4, h5⟩
      have hlt : i < as.length := by
        have := (List.getElem?_eq_some_iff.mp hx).1
        rw [List.length_map] at this
        exact this
      obtain ⟨y, hy⟩ : ∃ y, W[i]? = some y := ⟨_, List.getElem?_eq_getElem (by omega)⟩
      obtain ⟨a, ha, hay⟩ := pr_get ht.2 (show (W.map trip)[i]? = some (trip y) by rw [List.getElem?_map, hy]; rfl)
      have hxa : x = .ref a := by
        rw [List.getElem?_map, ha] at hx
        exact (Option.some.inj hx).symm
      subst hxa
      have hzy : W.zipIdx[i]? = some (y, i) := by
        rw [List.getElem?_zipIdx, hy]
        simp
      have s3 : Same H2 (upd H2 T2 (.tup [.int (i : Nat), .ref a])) := same_new hT2
      have s13 : Same H1 (upd H2 T2 (.tup [.int (i : Nat), .ref a])) := s2.trans s3
      obtain ⟨H3, e3⟩ : ∃ H3, H3 = upd H2 T2 (.tup [.int (i : Nat), .ref a]) := ⟨_, rfl⟩
      refine ⟨T2, _, rfl, SqT.of upd_same, rfl, _, _, rfl, _, _, rfl, rfl, ?_⟩
      rw [← e3] at s3 s13 ⊢
      have h23 := s3 _ _ h2
      have l2 := lw_rd h23
      have ray := fun (Q : VK) (j : Int) => ixT_of (Q := Q) (i := j) (s13 _ _ (s1 _ _ hay))
      walk_at "rd"
      have nope : goneAt o (y, i) = none → I1 (i + 1) [some (.ref lt), some (.ref lm), some (.ref ln), some (.ref d), some (.ref g), some (.int (i : Nat)), some (.ref a)] H3 := fun hno => by
        refine ⟨bs, _, _, rfl, s13, h23, ?_, h4, by omega⟩
        rw [fm_take hzy, hno]
        simp only [Option.toList_none, List.append_nil]
        exact Prs.same h3 s3
      refine ⟨_, rfl, _, rfl, d, _, rfl, DGet.k (k := Sum.inl (i : Int)) (s13 _ _ h1), _, rfl, ?_⟩
      rw [ht1 i]
      cases et : takeAt o i with
      | none =>
        refine nope ?_
        unfold goneAt
        dsimp only
        rw [et]
      | some z =>
        have hzo : z ∈ o := List.mem_of_find?_eq_some et
        obtain ⟨b, l, s', c', mb, rb⟩ := ((hm.same s1).same s13).at hzo
        have rm := mb.rd T
        have hv : valV kvs (Sum.inl (i : Int)) = some (.int (z.1 : Nat)) := by rw [ht1 i, et]; rfl
        rw [show (numV (some z)).isSome = true from rfl, if_pos rfl]
        walk_at "rd"
        have hdg : DGet H3 d (.int (i : Int)) (some (.int (z.1 : Nat))) := by
          rw [← hv]
          exact DGet.k (k := Sum.inl (i : Int)) (s13 _ _ h1)
        refine ⟨d, .int (z.1 : Nat), rfl, hdg, ?_⟩
        simp only [rb, rm]
        walk_at "rd"
        by_cases hc : isCh z.2 = true
        · have hk : ((kdA z.2 : Nat) : Int) = 0 := by
            cases hq : z.2 with
            | change => rfl
            | keep => rw [hq] at hc; cases hc
            | move => rw [hq] at hc; cases hc
          rw [if_pos hk]
          simp only [ray, triV, trip]
          walk_at "rd"
          by_cases hb : y.1.by_ = none
          · rw [if_pos (show byI y.1.by_ = -1 by rw [hb]; rfl)]
            simp only [l2, ray, triV, trip, true_and]
            walk_at "rd"
            refine ⟨d, .int (z.1 : Nat), rfl, hdg, by decide, fun t ht' => ?_⟩
            have hgt : g ≠ t := ne_of_none h23 ht'
            have l3 := lw_rd (show upd H3 t (.tup [.int (y.2 : Nat), .int (z.1 : Nat)]) g = _ by rw [upd_ne hgt]; exact h23)
            simp only [l3]
            refine ⟨by rw [List.length_map]; omega, bs ++ [t], _, _, rfl, same_upd (s13.trans (same_new ht')) hg, by rw [upd_same, List.map_append]; rfl, ?_, ?_, by rw [List.length_append]; simp; omega⟩
            · rw [fm_take hzy]
              have e : goneAt o (y, i) = some (y.2, z.1) := by
                unfold goneAt
                dsimp only
                rw [et]
                dsimp only
                rw [if_pos ⟨hc, hb⟩]
              rw [e]
              refine pr_app (pr_on (Prs.same h3 s3) fun b' hb' x' ex => ?_) (.cons ?_ .nil)
              · rw [upd_ne (ne_of ex h23 (by intro z; cases z)), upd_ne (ne_of_none ex ht')]
                exact ex
              · rw [upd_ne (Ne.symm hgt), upd_same]
            · intro b' hb'
              rcases List.mem_append.mp hb' with hb' | hb'
              · exact h4 b' hb'
              · rw [List.mem_singleton.mp hb']
                exact fresh_none (s1.trans s13) ht'
          · rw [if_neg (show ¬ byI y.1.by_ = -1 from fun e => hb (byI_inj (b := none) e))]
            refine nope ?_
            unfold goneAt
            dsimp only
            rw [et]
            dsimp only
            rw [if_neg fun z => hb z.2]
        · have hk : ¬ ((kdA z.2 : Nat) : Int) = 0 := by
            cases hq : z.2 with
            | change => rw [hq] at hc; exact absurd rfl hc
            | keep => rw [kdA]; decide
            | move => rw [kdA]; decide
          rw [if_neg hk]
          refine nope ?_
          unfold goneAt
          dsimp only
          rw [et]
          dsimp only
          rw [if_neg fun z => hc z.1]
    · rintro σ1 H2 ⟨bs, v5, v6, rfl, s2, h2, h3, h4, h5⟩
      walk_at "rd"
      rw [List.length_map, hal, ← hzl, List.take_length] at h3
      exact k H2 g bs (s1.trans s2) hg0 h2 (hpg ▸ h3) h4
theorem cut_any (xs : List V) (k n : Nat) (h : k ≤ xs.length) : cutV xs (some (k : Int)) (some ((k + n : Nat) : Int)) = (xs.drop k).take n := by
  unfold cutV
  rw [HT.sIx_nat, HT.sIx_nat, Nat.min_eq_left h]
  by_cases hl : k + n ≤ xs.length
  · rw [Nat.min_eq_left hl]
    congr 1
    omega
  · rw [Nat.min_eq_right (by omega), List.take_of_length_le (by rw [List.length_drop]; omega), List.take_of_length_le (by rw [List.length_drop]; omega)]
def optV : Option Nat → V
  | none => .non
  | some p => .int (p : Nat)
def spStart : Sp := fun vs H Q _ => ∃ (lw lt : Addr) (bs as : List Addr) (W P : List Tri), vs = [.ref lw, .ref lt] ∧ TxtAt H lw bs W ∧ TxtAt H lt as P ∧ W.length ≤ 1000 ∧ P.length ≤ 100000 ∧ ∀ H', Same H H' → Q (optV (startAt P W)) H'
theorem find_range {n : Nat} {p : Nat → Bool} {i : Nat} (h : (List.range i).find? p = none) (hi : i < n) (hp : p i = true) : (List.range n).find? p = some i := by
  have : List.range n = List.range i ++ (i :: (List.range' (i + 1) (n - i - 1))) := by
    rw [List.range_eq_range', List.range_eq_range', show (i :: List.range' (i + 1) (n - i - 1)) = List.range' i (n - i) by
      rw [show n - i = (n - i - 1) + 1 by omega, List.range'_succ]
      simp]
    have := List.range'_append_1 (s := 0) (m := i) (n := n - i)
    rw [Nat.zero_add, show i + (n - i) = n by omega] at this
    exact this.symm
  rw [this, List.find?_append, h, List.find?_cons, hp]
  rfl
theorem ok_start {f : Addr} {fd : FuncData} (T : Facts G.K G.mg CM CC CP) (F : Fun G.K "start_of" "start_of" s_start_of f fd) : FnOk G.P G.w G.K G.mg G.base CX0 1 f fd ["words", "text"] spStart := by
  refine F.ok sc_start_of (fun vs H Q E h => ?_) (fun cdv A outer s H vs Q E hr h => ?_)
  · obtain ⟨lw, lt, bs, as, W, P, rfl, _⟩ := h; rfl
  · obtain ⟨lw, lt, bs, as, W, P, rfl, hw, ht, hwl, hpl, k⟩ := h
    have nd := sc_start_of.nd
    have hal : as.length = P.length := Tups.length ht.2
    have hbl : bs.length = W.length := Tups.length hw.2
    refine ⟨_, (pss_cons (ps_for PassesOwn.never rfl (pi_range1 rfl T.b_range (pa_cons (pe_callB call_lenN (by rfl) T.b_len bt_len (pa_cons (pv 1) pa_nil)) pa_nil)) (pg_name (i := 2) nd rfl (Or.inl rfl))
      (pss_one (ps_if (pt_cmpR (op_eqT hr.units) (pe_slice sl_lst (pv 1) (po_some (pv 2)) (po_some (pe_op op_add (pv 2) (pe_callB call_lenN (by rfl) T.b_len bt_len (pa_cons (pv 0) pa_nil))))) (pv 0) (nomark _)) (pss_one (ps_ret (pv 2))) pss_nil)))
      (pss_one (ps_ret pe_non))), ?_⟩
    have r0 := (Ls.of ht.1).rd
    walk_at "rf"
    simp only [r0]
    walk_at "rf"
    let I1 : Nat → L2.St → Hp → Prop := fun i σ H' => ∃ (v2 : Option V), σ = [some (.ref lw), some (.ref lt), v2] ∧ Same H H' ∧ (List.range i).find? (fun p => decide ((P.drop p).take W.length = W)) = none
    refine ⟨by rw [List.length_map]; omega, by rw [List.length_map]; omega, for_rng (lo := 0) (n := P.length) rfl (by rw [List.length_map]; omega) I1 ⟨none, rfl, Same.refl _, rfl⟩ ?_ ?_⟩
    · rintro i σ1 H1 hi ⟨v2, rfl, s1, h1⟩
      rw [Nat.zero_add]
      have r1 := (Ls.of (s1 _ _ ht.1)).rd
      have r2 := (Ls.of (s1 _ _ hw.1)).rd
      walk_at "rd"
      simp only [r1, r2]
      walk_at "rd"
      simp only [r1]
      intro b hb
      have s2 : Same H1 (upd H1 b (.lst (cutV (as.map V.ref) (some (i : Int)) (some ((i : Int) + ((bs.map V.ref).length : Int)))))) := same_new hb
      have hcut : cutV (as.map V.ref) (some (i : Int)) (some ((i : Int) + ((bs.map V.ref).length : Int))) = ((as.drop i).take W.length).map V.ref := by
        have e : (i : Int) + ((bs.map V.ref).length : Int) = ((i + W.length : Nat) : Int) := by
          rw [List.length_map, hbl]
          omega
        rw [e, cut_any _ i W.length (by rw [List.length_map]; omega), List.map_take, List.map_drop]
      rw [hcut] at s2 ⊢
      refine ⟨b, lw, _, bs, _, W, rfl, rfl, Ls.of upd_same, Ls.of ((s1.trans s2) _ _ hw.1), pr_take W.length (pr_drop i ((ht.same s1).same s2).2), ((hw.same s1).same s2).2, ?_⟩
      walk_at "rd"
      split
      · rename_i he
        have := find_range (n := P.length) (p := fun p => decide ((P.drop p).take W.length = W)) h1 hi (decide_eq_true he)
        have e : startAt P W = some i := this
        have := k _ (s1.trans s2)
        rw [e] at this
        exact this
      · rename_i he
        refine ⟨_, rfl, s1.trans s2, ?_⟩
        rw [List.range_succ, List.find?_append, h1, List.find?_cons, decide_eq_false he]
        rfl
    · rintro σ1 H1 ⟨v2, rfl, s1, h1⟩
      walk_at "rd"
      have e : startAt P W = none := h1
      have := k H1 s1
      rw [e] at this
      exact this
end
section
variable {G : Env1} {CM CC CP : Addr} {H : Hp}
def pFollow (P U : List Tri) (gs : List Nat) : Si42.Ask → Option Si42.Ask
  | .change i j w => if i = j then some (.change (gs.getD i 0) (gs.getD i 0) w) else (startAt U ((P.drop i).take (j - i))).map fun p => .change p (p + (j - i)) w
  | .keep i j => (startAt U ((P.drop i).take (j - i))).map fun p => .keep p (p + (j - i))
  | .move i j k => (startAt U ((P.drop i).take (j - i))).map fun p => .move p (p + (j - i)) (gs.getD k 0)
theorem follow_is {T : List GT} {n : Nat} {l : List (Nat × Si42.Ask)} (G : GInv T) (hu : ∀ x ∈ l, ∀ y ∈ l, x.1 = y.1 → x = y) (hn : ∀ x ∈ T, ∀ m, x.1.by_ = some m → ∀ y ∈ l, y.1 ≠ m)
    (hnd : ((T.map Prod.fst).map fun x => x.id).Nodup) (hlt : ∀ x ∈ T, x.1.id < n) (F : Free (Si42.once l)) (I : Inside T.length (Si42.once l)) {q : Si42.Ask} (hq : askIn T.length q) :
    Si42.askThen (T.map Prod.fst) (Si42.done (T.map Prod.fst) n l) l q = pFollow (T.map trip) (pDone (T.map trip) l) (gapsOf (T.map trip) l) q := by
  have hgap : ∀ g, g ≤ T.length → (gapsOf (T.map trip) l).getD g 0 = Si42.gapThen (T.map Prod.fst) l g := fun g hg => by
    rw [pGap_is T l hg]
    unfold gapsOf
    rw [List.length_map, List.getD_eq_getElem?_getD, List.getElem?_map, List.getElem?_range (by omega)]
    rfl
  cases q with
  | change i j w =>
    unfold Si42.askThen pFollow
    dsimp only
    by_cases e : i = j
    · rw [if_pos e, if_pos e, hgap i (by have := hq.1; have := hq.2.1; omega)]
    · rw [if_neg e, if_neg e, range_is G hu hn hnd hlt F I (Nat.lt_of_le_of_ne hq.1 e) hq.2.1, Option.map_map]
      rfl
  | keep i j =>
    unfold Si42.askThen pFollow
    dsimp only
    rw [range_is G hu hn hnd hlt F I hq.1 hq.2, Option.map_map]
    rfl
  | move i j k =>
    unfold Si42.askThen pFollow
    dsimp only
    rw [range_is G hu hn hnd hlt F I hq.1 hq.2.1, Option.map_map, hgap k hq.2.2]
    rfl
def spFoll (CM CC : Addr) : Sp := fun vs H Q _ => ∃ (am wl lt c lt' lg : Addr) (r s : Nat) (q : Si42.Ask) (c0 : V) (as bs : List Addr) (P U : List Tri) (gs : List Nat), vs = [.ref am, .ref lt, .ref c] ∧ MarkAt CM H am wl r q s c0 ∧ TxtAt H lt as P ∧ CarAt CC H c lt' lg bs U gs ∧ askIn P.length q ∧ gs.length = P.length + 1 ∧ U.length ≤ 100000 ∧ P.length ≤ 1000 ∧
  (pFollow P U gs q = none → ∀ H', Same H H' → Q .non H') ∧ ∀ q', pFollow P U gs q = some q' → spNewM CM H r q' Q
theorem newM_same {H H' : Hp} {r : Nat} {q : Si42.Ask} {Q : VK} (k : spNewM CM H r q Q) (s : Same H H') : spNewM CM H' r q Q := fun H2 a l s2 ha hl m => k H2 a l (s.trans s2) (fresh_none s ha) (fresh_none s hl) m
theorem ok_foll {f : Addr} {fd : FuncData} (T : Facts G.K G.mg CM CC CP) (F_change_mark : Fn G "change_mark" ["reader", "start", "end", "words"] 4 (spChM CM)) (F_keep_mark : Fn G "keep_mark" ["reader", "start", "end"] 4 (spKeM CM)) (F_move_mark : Fn G "move_mark" ["reader", "start", "end", "gap"] 4 (spMoM CM))
    (F_start_of : Fn G "start_of" ["words", "text"] 1 spStart) (F : Fun G.K "followed" "followed" s_followed f fd) : FnOk G.P G.w G.K G.mg G.base CX0 5 f fd ["mark", "text", "carried"] (spFoll CM CC) := by
  refine F.ok sc_followed (fun vs H Q E h => ?_) (fun cdv A outer s H vs Q E hr h => ?_)
  · obtain ⟨am, wl, lt, c, lt', lg, r, s, q, c0, as, bs, P, U, gs, rfl, _⟩ := h; rfl
  · obtain ⟨am, wl, lt, c, lt', lg, r, s', q, c0, as, bs, P, U, gs, rfl, hm, ht, hc, hq, hgl, hul, hpl, k0, k1⟩ := h
    have nd := sc_followed.nd
    have hal : as.length = P.length := Tups.length ht.2
    refine ⟨_, (pss_cons (ps_if (pt_cmpR op_eq (pe_fld (pv 0) rfl) (pe_fld (pv 0) rfl) (nomark _)) (pss_one (ps_ret (pe_fn F_change_mark hr rfl (pa_cons (pe_fld (pv 0) rfl) (pa_cons (pe_ix ix_lst (pe_fld (pv 2) rfl) (pe_fld (pv 0) rfl) (fun _ _ => rfl)) (pa_cons (pe_ix ix_lst (pe_fld (pv 2) rfl) (pe_fld (pv 0) rfl) (fun _ _ => rfl)) (pa_cons (pe_fld (pv 0) rfl) pa_nil))))))) pss_nil)
      (pss_cons (ps_set (i := 3) nd rfl (Or.inl rfl) (pe_slice sl_lst (pv 1) (po_some (pe_fld (pv 0) rfl)) (po_some (pe_fld (pv 0) rfl))))
      (pss_cons (ps_set (i := 4) nd rfl (Or.inl rfl) (pe_fn F_start_of hr rfl (pa_cons (pv 3) (pa_cons (pe_fld (pv 2) rfl) pa_nil))))
      (pss_cons (ps_if (pt_cmpR op_isN (pv 4) pe_non (nomark _)) (pss_one (ps_ret pe_non)) pss_nil)
      (pss_cons (ps_set (i := 5) nd rfl (Or.inl rfl) (pe_op op_add (pv 4) (pe_callB call_lenN (by rfl) T.b_len bt_len (pa_cons (pv 3) pa_nil))))
      (pss_cons (ps_if (pt_cmpR op_eq (pe_fld (pv 0) rfl) (pe_gv T.g_CHANGE) (nomark _)) (pss_one (ps_ret (pe_fn F_change_mark hr rfl (pa_cons (pe_fld (pv 0) rfl) (pa_cons (pv 4) (pa_cons (pv 5) (pa_cons (pe_fld (pv 0) rfl) pa_nil))))))) pss_nil)
      (pss_cons (ps_if (pt_cmpR op_eq (pe_fld (pv 0) rfl) (pe_gv T.g_KEEP) (nomark _)) (pss_one (ps_ret (pe_fn F_keep_mark hr rfl (pa_cons (pe_fld (pv 0) rfl) (pa_cons (pv 4) (pa_cons (pv 5) pa_nil)))))) pss_nil)
      (pss_one (ps_ret (pe_fn F_move_mark hr rfl (pa_cons (pe_fld (pv 0) rfl) (pa_cons (pv 4) (pa_cons (pv 5) (pa_cons (pe_ix ix_lst (pe_fld (pv 2) rfl) (pe_fld (pv 0) rfl) (fun _ _ => rfl)) pa_nil)))))))))))))), ?_⟩
    have rm := hm.rd T
    have rc := hc.rd T
    have rg := (Ls.of hc.ga).rd
    have rt := (Ls.of ht.1).rd
    have hwd := hm.wd
    have hgat : ∀ g, g ≤ P.length → (natsV gs)[g]? = some (V.int ((gs.getD g 0 : Nat) : Int)) := fun g hg => by
      unfold natsV
      rw [List.getElem?_map, List.getElem?_eq_getElem (by omega)]
      simp [List.getD_eq_getElem?_getD, List.getElem?_eq_getElem (show g < gs.length by omega)]
    walk_at "rd"
    simp only [rm, rt]
    walk_at "rd"
    by_cases hij : frA q = toA q
    · rw [if_pos (show ((frA q : Nat) : Int) = ((toA q : Nat) : Int) by rw [hij])]
      cases q with
      | keep i j => exact absurd hij (Nat.ne_of_lt hq.1)
      | move i j k => exact absurd hij (Nat.ne_of_lt hq.1)
      | change i j w =>
        have hij : i = j := hij
        have hx : ∀ (Q : VK), ixR (.ref lg) (gapV (Si42.puts (.change i j w))) H Q = Q (V.int ((gs.getD i 0 : Nat) : Int)) H := fun Q => by
          show ixR (.ref lg) (.int ((i : Nat) : Int)) H Q = _
          rw [ixR_of (Ls.of hc.ga), ixV_nat (hgat i (by have := hq.1; have := hq.2.1; omega))]
        simp only [rm, rc, hx]
        refine ⟨r, gs.getD i 0, gs.getD i 0, wl, w, rfl, Ls.of hwd, k1 _ ?_⟩
        unfold pFollow
        dsimp only
        rw [if_pos hij]
    · rw [if_neg (show ¬ ((frA q : Nat) : Int) = ((toA q : Nat) : Int) from fun e => hij (Int.ofNat_inj.mp e))]
      have hft : frA q < toA q ∧ toA q ≤ P.length := by
        have h1 := askIn_wf hq
        refine ⟨?_, h1.2⟩
        cases q with
        | keep i j => exact hq.1
        | move i j k => exact hq.1
        | change i j w => exact Nat.lt_of_le_of_ne hq.1 hij
      simp only [rm]
      walk_at "rd"
      simp only [rm]
      walk_at "rd"
      simp only [rt]
      intro b hb
      rw [cut_ref as (frA q) (toA q) (Nat.le_of_lt hft.1) (by omega)]
      have s2 : Same H (upd H b (.lst (((as.drop (frA q)).take (toA q - frA q)).map V.ref))) := same_new hb
      have ht2 : TxtAt (upd H b (.lst (((as.drop (frA q)).take (toA q - frA q)).map V.ref))) b ((as.drop (frA q)).take (toA q - frA q)) ((P.drop (frA q)).take (toA q - frA q)) := ⟨upd_same, pr_take _ (pr_drop _ (ht.same s2).2)⟩
      have hc2 := hc.same s2
      simp only [hc2.rd T]
      have hWl : ((P.drop (frA q)).take (toA q - frA q)).length = toA q - frA q := by
        rw [List.length_take, List.length_drop]
        omega
      refine ⟨b, lt', _, bs, _, U, rfl, ht2, hc2.tx, by omega, hul, fun H2 s3 => ?_⟩
      have s23 := s2.trans s3
      cases es : startAt U ((P.drop (frA q)).take (toA q - frA q)) with
      | none =>
        dsimp only [optV]
        rw [if_pos rfl]
        refine k0 ?_ H2 s23
        cases q with
        | keep i j => show (startAt U ((P.drop i).take (j - i))).map _ = none; rw [show startAt U ((P.drop i).take (j - i)) = none from es]; rfl
        | move i j k => show (startAt U ((P.drop i).take (j - i))).map _ = none; rw [show startAt U ((P.drop i).take (j - i)) = none from es]; rfl
        | change i j w =>
          unfold pFollow
          dsimp only
          rw [if_neg (show ¬ i = j from hij), show startAt U ((P.drop i).take (j - i)) = none from es]
          rfl
      | some p0 =>
        dsimp only [optV]
        rw [if_neg (by intro z; cases z)]
        have r2 := (Ls.of (s3 _ _ ht2.1)).rd
        have hlb : ((((as.drop (frA q)).take (toA q - frA q)).map V.ref).length : Int) = ((toA q - frA q : Nat) : Int) := by
          rw [List.length_map, List.length_take, List.length_drop]
          omega
        simp only [r2, hlb]
        walk_at "rd"
        have hm2 := hm.same s23
        have rm2 := hm2.rd T
        have hwd2 := hm2.wd
        have rc2 := (hc.same s23).rd T
        have hadd : (p0 : Int) + ((toA q - frA q : Nat) : Int) = ((p0 + (toA q - frA q) : Nat) : Int) := by omega
        rw [hadd]
        simp only [rm2]
        walk_at "rd"
        cases q with
        | change i j w =>
          rw [if_pos (show ((kdA (.change i j w) : Nat) : Int) = 0 from rfl)]
          simp only [rm2]
          refine ⟨r, p0, p0 + (j - i), wl, w, rfl, Ls.of hwd2, newM_same (k1 _ ?_) s23⟩
          unfold pFollow
          dsimp only
          rw [if_neg (show ¬ i = j from hij), show startAt U ((P.drop i).take (j - i)) = some p0 from es]
          rfl
        | keep i j =>
          rw [if_neg (show ¬ ((kdA (.keep i j) : Nat) : Int) = 0 from (by decide : ¬ ((1 : Nat) : Int) = 0))]
          simp only [rm2]
          walk_at "rd"
          rw [if_pos (show ((kdA (.keep i j) : Nat) : Int) = 1 from rfl)]
          simp only [rm2]
          refine ⟨r, p0, p0 + (j - i), rfl, newM_same (k1 _ ?_) s23⟩
          show (startAt U ((P.drop i).take (j - i))).map _ = _
          rw [show startAt U ((P.drop i).take (j - i)) = some p0 from es]
          rfl
        | move i j k' =>
          rw [if_neg (show ¬ ((kdA (.move i j k') : Nat) : Int) = 0 from (by decide : ¬ ((2 : Nat) : Int) = 0))]
          simp only [rm2]
          walk_at "rd"
          rw [if_neg (show ¬ ((kdA (.move i j k') : Nat) : Int) = 1 from (by decide : ¬ ((2 : Nat) : Int) = 1))]
          have hx : ∀ (Q : VK), ixR (.ref lg) (gapV (Si42.puts (.move i j k'))) H2 Q = Q (V.int ((gs.getD k' 0 : Nat) : Int)) H2 := fun Q => by
            show ixR (.ref lg) (.int ((k' : Nat) : Int)) H2 Q = _
            rw [ixR_of (Ls.of (s23 _ _ hc.ga)), ixV_nat (hgat k' hq.2.2)]
          simp only [rm2, rc2, hx]
          refine ⟨r, p0, p0 + (j - i), gs.getD k' 0, rfl, newM_same (k1 _ ?_) s23⟩
          show (startAt U ((P.drop i).take (j - i))).map _ = _
          rw [show startAt U ((P.drop i).take (j - i)) = some p0 from es]
          rfl
end
def pf (t w m n l : V) : List (Str × V) := [("text", t), ("weights", w), ("marks", m), ("number", n), ("losses", l)]
def stOk (s : Si42.Stand) (q : Si42.Ask) (n : Nat) (c : V) : Prop := match s with
  | .open_ a => q = a ∧ n = 0 ∧ c = .non
  | .done p => n = 1 ∧ c = .int (p : Nat)
  | .lost p => n = 2 ∧ c = .int (p : Nat)
  | .withdrawn => n = 3
def StandAt (CM : Addr) (H : Hp) (a l : Addr) (m : Si42.Mark) : Prop := ∃ q n c, MarkAt CM H a l m.reader q n c ∧ stOk m.stand q n c
structure Da where
  dx : Addr
  lt : Addr
  lw : Addr
  lm : Addr
  ll : Addr
  ts : List Addr
  T : List GT
  ma : List Addr
  wl : List Addr
  la : List Addr
def Da.own (D : Da) (p : Addr) : List Addr := p :: D.lt :: D.lw :: D.lm :: D.ll :: (D.ts ++ (D.ma ++ (D.wl ++ D.la)))
def lossOf (st : Si42.St) : List (Nat × Nat) := st.gone.filter fun x => decide (x.1 < st.first.length)
structure RepD (CM CP : Addr) (H : Hp) (p : Addr) (st : Si42.St) (D : Da) : Prop where
  ob : H p = some (.ins CP D.dx (pf (.ref D.lt) (.ref D.lw) (.ref D.lm) (.int (st.proof : Nat)) (.ref D.ll)))
  tx : TxtAt H D.lt D.ts (D.T.map trip)
  tT : D.T.map Prod.fst = st.text
  gi : GInv D.T
  wt : H D.lw = some (.lst (natsV st.readers))
  mks : H D.lm = some (.lst (D.ma.map V.ref))
  ml : D.ma.length = st.marks.length
  wn : D.wl.length = st.marks.length
  ms : ∀ (k : Nat) (m : Si42.Mark), st.marks[k]? = some m → ∃ a l, D.ma[k]? = some a ∧ D.wl[k]? = some l ∧ StandAt CM H a l m
  lo : H D.ll = some (.lst (D.la.map V.ref))
  ls : Prs H D.la (lossOf st)
  nd : (p :: D.ma).Nodup
  d1 : D.lw ≠ D.lm ∧ D.lw ≠ D.ll ∧ D.lm ≠ D.ll
  d2 : D.lt ≠ D.lw ∧ D.lt ≠ D.lm ∧ D.lt ≠ D.ll
  d3 : ∀ l ∈ D.wl, l ≠ D.lw ∧ l ≠ D.lm ∧ l ≠ D.ll
def Rp (CM CP : Addr) (H : Hp) (p : Addr) (st : Si42.St) (keep : Addr → Prop) : Prop := ∃ D, RepD CM CP H p st D ∧ ∀ b ∈ D.own p, ¬ keep b
section
variable {G : Env1} {CM CC CP : Addr} {H H' : Hp} {p : Addr} {st : Si42.St} {D : Da}
theorem StandAt.on {a l : Addr} {m : Si42.Mark} (h : StandAt CM H a l m) (ha : ∀ o, H a = some o → H' a = some o) (hl : ∀ o, H l = some o → H' l = some o) : StandAt CM H' a l m := by
  obtain ⟨q, n, c, ⟨⟨dx, h1⟩, h2⟩, h3⟩ := h
  exact ⟨q, n, c, ⟨⟨dx, ha _ h1⟩, hl _ h2⟩, h3⟩
theorem StandAt.kinds {a l : Addr} {m : Si42.Mark} (h : StandAt CM H a l m) : (∃ dx fs, H a = some (.ins CM dx fs)) ∧ ∃ xs, H l = some (.lst xs) := by
  obtain ⟨q, n, c, ⟨⟨dx, h1⟩, h2⟩, h3⟩ := h
  exact ⟨⟨dx, _, h1⟩, _, h2⟩
theorem RepD.frame (R : RepD CM CP H p st D) (h : ∀ b ∈ D.own p, ∀ o, H b = some o → H' b = some o) : RepD CM CP H' p st D := by
  have hi : ∀ b, b = p ∨ b = D.lt ∨ b = D.lw ∨ b = D.lm ∨ b = D.ll ∨ b ∈ D.ts ∨ b ∈ D.ma ∨ b ∈ D.wl ∨ b ∈ D.la → ∀ o, H b = some o → H' b = some o := fun b hb => h b (by
    unfold Da.own
    simp only [List.mem_cons, List.mem_append]
    exact hb)
  exact { ob := hi _ (by simp) _ R.ob, tx := ⟨hi _ (by simp) _ R.tx.1, pr_on R.tx.2 fun a ha x e => hi a (by simp [ha]) _ e⟩, tT := R.tT, gi := R.gi, wt := hi _ (by simp) _ R.wt, mks := hi _ (by simp) _ R.mks, ml := R.ml, wn := R.wn
          ms := fun k m hm => by
            obtain ⟨a, l, h1, h2, h3⟩ := R.ms k m hm
            exact ⟨a, l, h1, h2, h3.on (hi a (by simp [List.mem_of_getElem? h1])) (hi l (by simp [List.mem_of_getElem? h2]))⟩
          lo := hi _ (by simp) _ R.lo, ls := pr_on R.ls fun a ha x e => hi a (by simp [ha]) _ e, nd := R.nd, d1 := R.d1, d2 := R.d2, d3 := R.d3 }
theorem RepD.same (R : RepD CM CP H p st D) (s : Same H H') : RepD CM CP H' p st D := R.frame fun b _ o e => s b o e
theorem Rp.frame {keep : Addr → Prop} (R : Rp CM CP H p st keep) (h : ∀ b o, H b = some o → ¬ keep b → H' b = some o) : Rp CM CP H' p st keep := by
  obtain ⟨D, R, hk⟩ := R
  exact ⟨D, R.frame fun b hb o e => h b o e (hk b hb), hk⟩
theorem Rp.same {keep : Addr → Prop} (R : Rp CM CP H p st keep) (s : Same H H') : Rp CM CP H' p st keep := R.frame fun b o e _ => s b o e
theorem RepD.rd (R : RepD CM CP H p st D) {K : PySem.W.Frag} {mg : Str → Option Value} (T : Facts K mg CM CC CP) :
    (∀ Q, fldR K "text" (.ref p) H Q = Q (.ref D.lt) H) ∧ (∀ Q, fldR K "weights" (.ref p) H Q = Q (.ref D.lw) H) ∧ (∀ Q, fldR K "marks" (.ref p) H Q = Q (.ref D.lm) H) ∧ (∀ Q, fldR K "number" (.ref p) H Q = Q (.int (st.proof : Nat)) H) ∧ (∀ Q, fldR K "losses" (.ref p) H Q = Q (.ref D.ll) H) :=
  ⟨fun Q => fldR_of R.ob T.cl_Proof T.n_Proof_text rfl, fun Q => fldR_of R.ob T.cl_Proof T.n_Proof_weights rfl, fun Q => fldR_of R.ob T.cl_Proof T.n_Proof_marks rfl, fun Q => fldR_of R.ob T.cl_Proof T.n_Proof_number rfl, fun Q => fldR_of R.ob T.cl_Proof T.n_Proof_losses rfl⟩
theorem RepD.meth (R : RepD CM CP H p st D) {m : Str} {q : Prop} (h : (pf (.ref D.lt) (.ref D.lw) (.ref D.lm) (.int (st.proof : Nat)) (.ref D.ll)).lookup m = none := by rfl) : methR CP m (.ref p) H q = q := methR_of R.ob h
theorem RepD.tlen (R : RepD CM CP H p st D) : D.ts.length = st.text.length := by rw [Tups.length R.tx.2, List.length_map, ← R.tT, List.length_map]
theorem RepD.Tlen (R : RepD CM CP H p st D) : D.T.length = st.text.length := by rw [← R.tT, List.length_map]
theorem RepD.ts_ne (R : RepD CM CP H p st D) {x : Addr} (hx : (∃ xs, H x = some (.lst xs)) ∨ ∃ C dx fs, H x = some (.ins C dx fs)) : ∀ a ∈ D.ts, a ≠ x := fun a ha => by
  obtain ⟨y, _, e⟩ := pr_mem R.tx.2 ha
  rcases hx with ⟨xs, hx⟩ | ⟨C, dx, fs, hx⟩
  · exact ne_of e hx (by intro z; cases z)
  · exact ne_of e hx (by intro z; cases z)
theorem RepD.la_ne (R : RepD CM CP H p st D) {x : Addr} (hx : (∃ xs, H x = some (.lst xs)) ∨ ∃ C dx fs, H x = some (.ins C dx fs)) : ∀ a ∈ D.la, a ≠ x := fun a ha => by
  obtain ⟨y, _, e⟩ := pr_mem R.ls ha
  rcases hx with ⟨xs, hx⟩ | ⟨C, dx, fs, hx⟩
  · exact ne_of e hx (by intro z; cases z)
  · exact ne_of e hx (by intro z; cases z)
theorem RepD.ma_is (R : RepD CM CP H p st D) {a : Addr} (ha : a ∈ D.ma) : ∃ C dx fs, H a = some (.ins C dx fs) := by
  obtain ⟨k, hk⟩ := List.getElem?_of_mem ha
  have hl : k < st.marks.length := by rw [← R.ml]; exact (List.getElem?_eq_some_iff.mp hk).1
  obtain ⟨a', l, h1, _, h3⟩ := R.ms k _ (List.getElem?_eq_getElem hl)
  rw [hk] at h1
  cases h1
  obtain ⟨⟨dx, fs, e⟩, _⟩ := h3.kinds
  exact ⟨_, dx, fs, e⟩
theorem RepD.wl_is (R : RepD CM CP H p st D) {l : Addr} (ha : l ∈ D.wl) : ∃ xs, H l = some (.lst xs) := by
  obtain ⟨k, hk⟩ := List.getElem?_of_mem ha
  have hl : k < st.marks.length := by rw [← R.wn]; exact (List.getElem?_eq_some_iff.mp hk).1
  obtain ⟨a', l', _, h1, h3⟩ := R.ms k _ (List.getElem?_eq_getElem hl)
  rw [hk] at h1
  cases h1
  exact h3.kinds.2
theorem ins_ne_lst {a b C dx : Addr} {fs : List (Str × V)} {xs : List V} (h : H a = some (.ins C dx fs)) (h' : H b = some (.lst xs)) : a ≠ b := ne_of h h' (by intro z; cases z)
theorem RepD.setW (R : RepD CM CP H p st D) (w : List Nat) : RepD CM CP (upd H D.lw (.lst (natsV w))) p { st with readers := w } D := by
  have hlw := R.wt
  have hp : p ≠ D.lw := ins_ne_lst R.ob hlw
  exact { ob := by rw [upd_ne hp]; exact R.ob
          tx := ⟨by rw [upd_ne R.d2.1]; exact R.tx.1, pr_on R.tx.2 fun a ha x e => by rw [upd_ne (R.ts_ne (.inl ⟨_, hlw⟩) a ha)]; exact e⟩
          tT := R.tT, gi := R.gi, wt := upd_same
          mks := by rw [upd_ne R.d1.1.symm]; exact R.mks
          ml := R.ml, wn := R.wn
          ms := fun k m hm => by
            obtain ⟨a, l, h1, h2, h3⟩ := R.ms k m hm
            refine ⟨a, l, h1, h2, h3.on (fun o e => ?_) fun o e => ?_⟩
            · obtain ⟨C, dx, fs, e'⟩ := R.ma_is (List.mem_of_getElem? h1)
              rw [upd_ne (ins_ne_lst e' hlw)]
              exact e
            · rw [upd_ne (R.d3 l (List.mem_of_getElem? h2)).1]
              exact e
          lo := by rw [upd_ne R.d1.2.1.symm]; exact R.lo
          ls := pr_on R.ls fun a ha x e => by rw [upd_ne (R.la_ne (.inl ⟨_, hlw⟩) a ha)]; exact e
          nd := R.nd, d1 := R.d1, d2 := R.d2, d3 := R.d3 }
theorem RepD.setL (R : RepD CM CP H p st D) {la : List Addr} {gone : List (Nat × Nat)} (hla : Prs H la (gone.filter fun x => decide (x.1 < st.first.length))) : RepD CM CP (upd H D.ll (.lst (la.map V.ref))) p { st with gone := gone } { D with la := la } := by
  have hll := R.lo
  have hp : p ≠ D.ll := ins_ne_lst R.ob hll
  exact { ob := by rw [upd_ne hp]; exact R.ob
          tx := ⟨by rw [upd_ne R.d2.2.2]; exact R.tx.1, pr_on R.tx.2 fun a ha x e => by rw [upd_ne (R.ts_ne (.inl ⟨_, hll⟩) a ha)]; exact e⟩
          tT := R.tT, gi := R.gi
          wt := by rw [upd_ne R.d1.2.1]; exact R.wt
          mks := by rw [upd_ne R.d1.2.2]; exact R.mks
          ml := R.ml, wn := R.wn
          ms := fun k m hm => by
            obtain ⟨a, l, h1, h2, h3⟩ := R.ms k m hm
            refine ⟨a, l, h1, h2, h3.on (fun o e => ?_) fun o e => ?_⟩
            · obtain ⟨C, dx, fs, e'⟩ := R.ma_is (List.mem_of_getElem? h1)
              rw [upd_ne (ins_ne_lst e' hll)]
              exact e
            · rw [upd_ne (R.d3 l (List.mem_of_getElem? h2)).2.2]
              exact e
          lo := upd_same
          ls := pr_on hla fun a ha x e => by rw [upd_ne (ne_of e hll (by intro z; cases z))]; exact e
          nd := R.nd, d1 := R.d1, d2 := R.d2, d3 := R.d3 }
theorem RepD.setM (R : RepD CM CP H p st D) {ma wl : List Addr} {marks : List Si42.Mark} (h1 : ma.length = marks.length) (h2 : wl.length = marks.length)
    (h3 : ∀ (k : Nat) (m : Si42.Mark), marks[k]? = some m → ∃ a l, ma[k]? = some a ∧ wl[k]? = some l ∧ StandAt CM H a l m) (h4 : (p :: ma).Nodup) (h5 : ∀ l ∈ wl, l ≠ D.lw ∧ l ≠ D.lm ∧ l ≠ D.ll) :
    RepD CM CP (upd H D.lm (.lst (ma.map V.ref))) p { st with marks := marks } { D with ma := ma, wl := wl } := by
  have hlm := R.mks
  have hp : p ≠ D.lm := ins_ne_lst R.ob hlm
  exact { ob := by rw [upd_ne hp]; exact R.ob
          tx := ⟨by rw [upd_ne R.d2.2.1]; exact R.tx.1, pr_on R.tx.2 fun a ha x e => by rw [upd_ne (R.ts_ne (.inl ⟨_, hlm⟩) a ha)]; exact e⟩
          tT := R.tT, gi := R.gi
          wt := by rw [upd_ne R.d1.1]; exact R.wt
          mks := upd_same
          ml := h1, wn := h2
          ms := fun k m hm => by
            obtain ⟨a, l, e1, e2, e3⟩ := h3 k m hm
            refine ⟨a, l, e1, e2, e3.on (fun o e => ?_) fun o e => ?_⟩
            · obtain ⟨⟨dx, fs, e'⟩, _⟩ := e3.kinds
              rw [upd_ne (ins_ne_lst e' hlm)]
              exact e
            · rw [upd_ne (h5 l (List.mem_of_getElem? e2)).2.1]
              exact e
          lo := by rw [upd_ne R.d1.2.2.symm]; exact R.lo
          ls := pr_on R.ls fun a ha x e => by rw [upd_ne (R.la_ne (.inl ⟨_, hlm⟩) a ha)]; exact e
          nd := h4, d1 := R.d1, d2 := R.d2, d3 := h5 }
theorem RepD.setO (R : RepD CM CP H p st D) {k : Nat} {a l dx : Addr} {m : Si42.Mark} {fs : List (Str × V)} (ha : D.ma[k]? = some a) (hl : D.wl[k]? = some l) (hm : StandAt CM (upd H a (.ins CM dx fs)) a l m) :
    RepD CM CP (upd H a (.ins CM dx fs)) p { st with marks := st.marks.set k m } D := by
  have hai := R.ma_is (List.mem_of_getElem? ha)
  obtain ⟨C, dx', fs', hai⟩ := hai
  have hpa : p ≠ a := fun e => (List.nodup_cons.mp R.nd).1 (e ▸ List.mem_of_getElem? ha)
  have hlst : ∀ {b : Addr} {xs : List V}, H b = some (.lst xs) → b ≠ a := fun h e => ins_ne_lst hai h e.symm
  exact { ob := by rw [upd_ne hpa]; exact R.ob
          tx := ⟨by rw [upd_ne (hlst R.tx.1)]; exact R.tx.1, pr_on R.tx.2 fun b hb x e => by rw [upd_ne (R.ts_ne (.inr ⟨_, _, _, hai⟩) b hb)]; exact e⟩
          tT := R.tT, gi := R.gi
          wt := by rw [upd_ne (hlst R.wt)]; exact R.wt
          mks := by rw [upd_ne (hlst R.mks)]; exact R.mks
          ml := by show D.ma.length = (st.marks.set k m).length; rw [List.length_set]; exact R.ml
          wn := by show D.wl.length = (st.marks.set k m).length; rw [List.length_set]; exact R.wn
          ms := fun j m' hj => by
            have hj : (st.marks.set k m)[j]? = some m' := hj
            rw [List.getElem?_set] at hj
            by_cases e : k = j
            · subst e
              rw [if_pos rfl] at hj
              split at hj
              · cases hj
                exact ⟨a, l, ha, hl, hm⟩
              · cases hj
            · rw [if_neg e] at hj
              obtain ⟨b, l', e1, e2, e3⟩ := R.ms j m' hj
              have hba : b ≠ a := fun z => by
                subst z
                have := (List.nodup_cons.mp R.nd).2
                exact e ((List.getElem?_inj (List.getElem?_eq_some_iff.mp ha).1 this).mp (ha.trans e1.symm))
              refine ⟨b, l', e1, e2, e3.on (fun o e => by rw [upd_ne hba]; exact e) fun o e => ?_⟩
              obtain ⟨xs, hx⟩ := R.wl_is (List.mem_of_getElem? e2)
              rw [upd_ne (hlst hx)]
              exact e
          lo := by rw [upd_ne (hlst R.lo)]; exact R.lo
          ls := pr_on R.ls fun b hb x e => by rw [upd_ne (R.la_ne (.inr ⟨_, _, _, hai⟩) b hb)]; exact e
          nd := R.nd, d1 := R.d1, d2 := R.d2, d3 := R.d3 }
theorem RepD.setP (R : RepD CM CP H p st D) {lt : Addr} {ts : List Addr} {T : List GT} {text : Si42.Text} {n next : Nat} {gone : List (Nat × Nat)} {first : List Nat} (h1 : TxtAt H lt ts (T.map trip)) (h2 : T.map Prod.fst = text) (h3 : GInv T) (h4 : lt ≠ D.lw ∧ lt ≠ D.lm ∧ lt ≠ D.ll) (h5 : lossOf { st with first := first, gone := gone } = lossOf st) :
    RepD CM CP (upd H p (.ins CP D.dx (pf (.ref lt) (.ref D.lw) (.ref D.lm) (.int (n : Nat)) (.ref D.ll)))) p { st with text := text, proof := n, next := next, first := first, gone := gone } { D with lt := lt, ts := ts, T := T } := by
  have hlst : ∀ {b : Addr} {xs : List V}, H b = some (.lst xs) → b ≠ p := fun h e => ins_ne_lst R.ob h e.symm
  exact { ob := upd_same
          tx := ⟨by rw [upd_ne (hlst h1.1)]; exact h1.1, pr_on h1.2 fun b hb x e => by rw [upd_ne (ne_of e R.ob (by intro z; cases z))]; exact e⟩
          tT := h2, gi := h3
          wt := by rw [upd_ne (hlst R.wt)]; exact R.wt
          mks := by rw [upd_ne (hlst R.mks)]; exact R.mks
          ml := R.ml, wn := R.wn
          ms := fun j m' hj => by
            obtain ⟨b, l', e1, e2, e3⟩ := R.ms j m' hj
            have hbp : b ≠ p := fun z => (List.nodup_cons.mp R.nd).1 (z ▸ List.mem_of_getElem? e1)
            obtain ⟨xs, hx⟩ := R.wl_is (List.mem_of_getElem? e2)
            exact ⟨b, l', e1, e2, e3.on (fun o e => by rw [upd_ne hbp]; exact e) fun o e => by rw [upd_ne (hlst hx)]; exact e⟩
          lo := by rw [upd_ne (hlst R.lo)]; exact R.lo
          ls := by
            have e : lossOf { st with text := text, proof := n, next := next, first := first, gone := gone } = lossOf st := h5
            rw [e]
            exact pr_on R.ls fun b hb x e => by rw [upd_ne (ne_of e R.ob (by intro z; cases z))]; exact e
          nd := R.nd, d1 := R.d1, d2 := h4, d3 := R.d3 }
theorem RepD.opn (R : RepD CM CP H p st D) {o : List (Nat × Si42.Ask)} (h : ∀ x ∈ o, x ∈ Si42.opens st.marks) : MksAt CM H D.lm (fun k => ((st.marks[k]?).map fun m => m.reader).getD 0) o := by
  refine ⟨D.ma, R.mks, fun x hx => ?_⟩
  obtain ⟨m, h1, h2⟩ := askAt_some.mp (mem_opens2.mp (h x hx))
  obtain ⟨a, l, e1, e2, q, n, c, e3, e4⟩ := R.ms _ _ h1
  rw [h2] at e4
  obtain ⟨rfl, _, _⟩ := e4
  refine ⟨a, l, n, c, e1, ?_⟩
  dsimp only
  rw [h1]
  exact e3
end
section
variable {G : Env1} {CM CC CP : Addr} {H : Hp} {p : Addr} {st : Si42.St} {D : Da} {keep : Addr → Prop}
theorem nums_nats (o : List (Nat × Si42.Ask)) : numsV o = natsV (o.map Prod.fst) := by
  unfold natsV
  rw [List.map_map]
  rfl
def After (CM CP : Addr) (H : Hp) (p : Addr) (keep : Addr → Prop) (st' : Si42.St) (ans : List Int) (Q : VK) : Prop := ∀ (H' : Hp) (l : Addr), H' l = some (.lst (intsV ans)) → ¬ keep l → Rp CM CP H' p st' keep → (∀ b o, keep b → H b = some o → H' b = some o) → Q (.ref l) H'
theorem after_read {ans : List Int} {Q : VK} {H' : Hp} {l : Addr} (k : After CM CP H p keep st ans Q) (R : Rp CM CP H p st keep) (hk : ∀ b, keep b → ∃ o, H b = some o) (s : Same H H') (hl : H l = none) (h : H' l = some (.lst (intsV ans))) : Q (.ref l) H' :=
  k H' l h (fun z => by obtain ⟨o, e⟩ := hk l z; rw [hl] at e; cases e) (R.same s) fun b o _ e => s b o e
theorem After.from {st' : Si42.St} {ans : List Int} {Q : VK} {H H' : Hp} (k : After CM CP H p keep st' ans Q) (s : Same H H') : After CM CP H' p keep st' ans Q := fun H2 l h1 h2 h3 h4 => k H2 l h1 h2 h3 fun b o hb e => h4 b o hb (s b o e)
def spHasR (CM CP : Addr) : Sp := fun vs H Q _ => ∃ (p : Addr) (st : Si42.St) (D : Da) (r : Nat), vs = [.ref p, .int (r : Nat)] ∧ RepD CM CP H p st D ∧ Q (.bl (decide (r < st.readers.length))) H
theorem ok_hasR {f : Addr} {fd : FuncData} (T : Facts G.K G.mg CM CC CP) (F : Fun G.K "has_reader" "Proof.has_reader" s_Proof_has_reader f fd) : FnOk G.P G.w G.K G.mg G.base CX0 1 f fd ["self", "reader"] (spHasR CM CP) := by
  refine F.ok sc_Proof_has_reader (fun vs H Q E h => ?_) (fun cdv A outer s H vs Q E hr h => ?_)
  · obtain ⟨p, st, D, r, rfl, _⟩ := h; rfl
  · obtain ⟨p, st, D, r, rfl, R, k⟩ := h
    refine ⟨_, (pss_one (ps_ret (pe_cmpR op_lt (pv 1) (pe_callB call_lenN (by rfl) T.b_len bt_len (pa_cons (pe_fld (pv 0) rfl) pa_nil)) (nomark _)))), ?_⟩
    have rr := R.rd T
    have rl := (Ls.of R.wt).rd
    walk_at "rd"
    simp only [rr, rl, natsV_length]
    walk_at "rd"
    refine leaf k ?_
    rw [decide_eq_decide]
    omega
def spHasM (CM CP : Addr) : Sp := fun vs H Q _ => ∃ (p : Addr) (st : Si42.St) (D : Da) (r : Nat), vs = [.ref p, .int (r : Nat)] ∧ RepD CM CP H p st D ∧ Q (.bl (decide (r < st.marks.length))) H
theorem ok_hasM {f : Addr} {fd : FuncData} (T : Facts G.K G.mg CM CC CP) (F : Fun G.K "has_mark" "Proof.has_mark" s_Proof_has_mark f fd) : FnOk G.P G.w G.K G.mg G.base CX0 1 f fd ["self", "number"] (spHasM CM CP) := by
  refine F.ok sc_Proof_has_mark (fun vs H Q E h => ?_) (fun cdv A outer s H vs Q E hr h => ?_)
  · obtain ⟨p, st, D, r, rfl, _⟩ := h; rfl
  · obtain ⟨p, st, D, r, rfl, R, k⟩ := h
    refine ⟨_, (pss_one (ps_ret (pe_cmpR op_lt (pv 1) (pe_callB call_lenN (by rfl) T.b_len bt_len (pa_cons (pe_fld (pv 0) rfl) pa_nil)) (nomark _)))), ?_⟩
    have rr := R.rd T
    have rl := (Ls.of R.mks).rd
    walk_at "rd"
    simp only [rr, rl, List.length_map, R.ml]
    walk_at "rd"
    refine leaf k ?_
    rw [decide_eq_decide]
    omega
def spOpen (CM CP : Addr) : Sp := fun vs H Q _ => ∃ (p : Addr) (st : Si42.St) (D : Da) (n : Nat) (m : Si42.Mark), vs = [.ref p, .int (n : Nat)] ∧ RepD CM CP H p st D ∧ st.marks[n]? = some m ∧ Q (.bl (isOpen m)) H
theorem stOk_open {s : Si42.Mark} {q : Si42.Ask} {n : Nat} {c : V} (h : stOk s.stand q n c) : decide ((n : Int) = 0) = isOpen s := by
  unfold isOpen
  unfold stOk at h
  cases hs : s.stand with
  | open_ a => rw [hs] at h; rw [h.2.1]; rfl
  | done p => rw [hs] at h; rw [h.1]; rfl
  | lost p => rw [hs] at h; rw [h.1]; rfl
  | withdrawn => rw [hs] at h; dsimp only at h; rw [h]; rfl
theorem ok_open {f : Addr} {fd : FuncData} (T : Facts G.K G.mg CM CC CP) (F : Fun G.K "stands_open" "Proof.stands_open" s_Proof_stands_open f fd) : FnOk G.P G.w G.K G.mg G.base CX0 1 f fd ["self", "number"] (spOpen CM CP) := by
  refine F.ok sc_Proof_stands_open (fun vs H Q E h => ?_) (fun cdv A outer s H vs Q E hr h => ?_)
  · obtain ⟨p, st, D, n, m, rfl, _⟩ := h; rfl
  · obtain ⟨p, st, D, n, m, rfl, R, hm, k⟩ := h
    refine ⟨_, (pss_one (ps_ret (pe_cmpR op_eq (pe_fld (pe_ix ix_lst (pe_fld (pv 0) rfl) (pv 1) (fun _ _ => rfl)) (by rfl)) (pe_gv T.g_STANDS_OPEN) (nomark _)))), ?_⟩
    have rr := R.rd T
    have rl := (Ls.of R.mks).rd
    obtain ⟨a, l, e1, e2, q, n', c, e3, e4⟩ := R.ms n m hm
    have rm := e3.rd T
    walk_at "rd"
    simp only [rr, rl, ixV_nat (show (D.ma.map V.ref)[n]? = some (V.ref a) by rw [List.getElem?_map, e1]; rfl), rm]
    walk_at "rd"
    exact leaf k (stOk_open e4).symm
def spHasW (CM CP : Addr) : Sp := fun vs H Q _ => ∃ (p : Addr) (st : Si42.St) (D : Da) (i j : Nat), vs = [.ref p, .int (i : Nat), .int (j : Nat)] ∧ RepD CM CP H p st D ∧ Q (.bl (decide (i < j) && decide (j ≤ st.text.length))) H
theorem ok_hasW {f : Addr} {fd : FuncData} (T : Facts G.K G.mg CM CC CP) (F : Fun G.K "has_words" "Proof.has_words" s_Proof_has_words f fd) : FnOk G.P G.w G.K G.mg G.base CX0 1 f fd ["self", "start", "end"] (spHasW CM CP) := by
  refine F.ok sc_Proof_has_words (fun vs H Q E h => ?_) (fun cdv A outer s H vs Q E hr h => ?_)
  · obtain ⟨p, st, D, i, j, rfl, _⟩ := h; rfl
  · obtain ⟨p, st, D, i, j, rfl, R, k⟩ := h
    refine ⟨_, (pss_one (ps_ret (pe_and (pe_cmpR op_lt (pv 1) (pv 2) (nomark _)) (pe_one (pe_cmpR op_le (pv 2) (pe_callB call_lenN (by rfl) T.b_len bt_len (pa_cons (pe_fld (pv 0) rfl) pa_nil)) (nomark _)))))), ?_⟩
    have rr := R.rd T
    have rl := (Ls.of R.tx.1).rd
    walk_at "rd"
    simp only [rr, rl, List.length_map, R.tlen]
    walk_at "rd"
    split
    · refine leaf k ?_
      rename_i h1
      rw [decide_eq_true (show i < j by omega), Bool.true_and, decide_eq_decide]
      omega
    · refine leaf k ?_
      rename_i h1
      rw [decide_eq_false (show ¬ i < j by omega)]
      rfl
theorem spHasW_eq {Q : VK} {E : XK} {i j : Nat} (R : RepD CM CP H p st D) (k : Q (.bl (decide (i < j) && decide (j ≤ st.text.length))) H) : spHasW CM CP [.ref p, .int (i : Nat), .int (j : Nat)] H Q E := ⟨p, st, D, i, j, rfl, R, k⟩
def spChF (CM CP : Addr) : Sp := fun vs H Q _ => ∃ (p : Addr) (st : Si42.St) (D : Da) (i j : Nat) (lw : Addr) (w : List Nat), vs = [.ref p, .int (i : Nat), .int (j : Nat), .ref lw] ∧ RepD CM CP H p st D ∧ Ls H lw (natsV w) ∧ w.length ≤ 1000 ∧ ∀ H', Same H H' → Q (.bl (Si42.askOk st (.change i j w))) H'
theorem words_nats (w : List Nat) : (w.map fun (n : Nat) => (n : Int)).all isWord = Si42.wordsOk w := by
  unfold Si42.wordsOk
  rw [List.all_map]
  congr 1
  funext n
  show (decide ((1 : Int) ≤ (n : Int)) && decide ((n : Int) ≤ 99999)) = _
  congr 1 <;> rw [decide_eq_decide] <;> omega
theorem ok_chF {f : Addr} {fd : FuncData} (T : Facts G.K G.mg CM CC CP) (F_are_words : Fn G "are_words" ["numbers"] 1 spWords) (F : Fun G.K "change_fits" "Proof.change_fits" s_Proof_change_fits f fd) : FnOk G.P G.w G.K G.mg G.base CX0 2 f fd ["self", "start", "end", "words"] (spChF CM CP) := by
  refine F.ok sc_Proof_change_fits (fun vs H Q E h => ?_) (fun cdv A outer s H vs Q E hr h => ?_)
  · obtain ⟨p, st, D, i, j, lw, w, rfl, _⟩ := h; rfl
  · obtain ⟨p, st, D, i, j, lw, w, rfl, R, hw, hwl, k⟩ := h
    refine ⟨_, (pss_cons (ps_if (PW.pt (pw_or (pt_cmpR op_gt (pv 1) (pv 2) (nomark _)) (pw_or1 (pt_cmpR op_gt (pv 2) (pe_callB call_lenN (by rfl) T.b_len bt_len (pa_cons (pe_fld (pv 0) rfl) pa_nil)) (nomark _))))) (pss_one (ps_ret pe_bl)) pss_nil)
      (pss_cons (ps_if (PW.pt (pw_and (pt_cmpR op_eq (pv 1) (pv 2) (nomark _)) (pw_and1 (pt_cmpR op_eq (pe_callB call_lenN (by rfl) T.b_len bt_len (pa_cons (pv 3) pa_nil)) pe_int (nomark _))))) (pss_one (ps_ret pe_bl)) pss_nil)
      (pss_one (ps_ret (pe_and (pe_cmpR op_le (pe_callB call_lenN (by rfl) T.b_len bt_len (pa_cons (pv 3) pa_nil)) (pe_gv T.g_MOST_CHANGE_WORDS) (nomark _)) (pe_one (pe_fn F_are_words hr rfl (pa_cons (pv 3) pa_nil)))))))), ?_⟩
    have rr := R.rd T
    have rl := (Ls.of R.tx.1).rd
    have rw' := hw.rd
    walk_at "rd"
    simp only [rr, rl, rw', List.length_map, R.tlen, natsV_length]
    walk_at "rd"
    have k0 := k H (Same.refl _)
    have go : ∀ b : Bool, Si42.askOk st (.change i j w) = b → Q (.bl b) H := fun b e => by rw [← e]; exact k0
    unfold Si42.askOk at k go
    dsimp only at k go
    split
    · rename_i h1
      refine go _ ?_
      rw [decide_eq_false (show ¬ i ≤ j by omega)]
      rfl
    · rename_i h1
      split
      · rename_i h2
        refine go _ ?_
        rw [decide_eq_false (show ¬ j ≤ st.text.length by omega)]
        simp
      · rename_i h2
        have fin : ¬ (i = j ∧ w.length = 0) → (if ((w.length : Nat) : Int) ≤ 20 then spWords [.ref lw] H Q E0 else Q (.bl false) H) := fun hne => by
          split
          · rename_i h3
            refine ⟨lw, w.map fun (n : Nat) => (n : Int), rfl, by rw [← natsV_ints]; exact hw, by rw [List.length_map]; exact Nat.le_trans hwl (by decide), fun H' s' => ?_⟩
            rw [words_nats]
            refine leaf (k H' s') ?_
            rw [decide_eq_true (show i ≤ j by omega), decide_eq_true (show j ≤ st.text.length by omega), decide_eq_true (show w.length ≤ 20 by omega)]
            have : (decide (i < j) || decide (0 < w.length)) = true := by
              rw [Bool.or_eq_true, decide_eq_true_eq, decide_eq_true_eq]
              omega
            rw [this]
            simp
          · rename_i h3
            refine go _ ?_
            rw [decide_eq_false (show ¬ w.length ≤ 20 by omega)]
            simp
        split
        · rename_i h3
          simp only [rw', natsV_length]
          walk_at "rd"
          split
          · rename_i h4
            refine go _ ?_
            have : (decide (i < j) || decide (0 < w.length)) = false := by
              rw [decide_eq_false (by omega), decide_eq_false (by omega)]
              rfl
            rw [this]
            simp
          · rename_i h4
            simp only [rw', natsV_length]
            walk_at "rd"
            exact fin (by omega)
        · rename_i h3
          simp only [rw', natsV_length]
          walk_at "rd"
          exact fin (by omega)
def spMoF (CM CP : Addr) : Sp := fun vs H Q _ => ∃ (p : Addr) (st : Si42.St) (D : Da) (i j k : Nat), vs = [.ref p, .int (i : Nat), .int (j : Nat), .int (k : Nat)] ∧ RepD CM CP H p st D ∧ Q (.bl (Si42.askOk st (.move i j k))) H
theorem ok_moF {f : Addr} {fd : FuncData} (T : Facts G.K G.mg CM CC CP) (M_Proof_has_words : Mt G CP "has_words" ["self", "start", "end"] 1 (spHasW CM CP)) (F : Fun G.K "move_fits" "Proof.move_fits" s_Proof_move_fits f fd) : FnOk G.P G.w G.K G.mg G.base CX0 2 f fd ["self", "start", "end", "gap"] (spMoF CM CP) := by
  refine F.ok sc_Proof_move_fits (fun vs H Q E h => ?_) (fun cdv A outer s H vs Q E hr h => ?_)
  · obtain ⟨p, st, D, i, j, k, rfl, _⟩ := h; rfl
  · obtain ⟨p, st, D, i, j, k', rfl, R, k⟩ := h
    refine ⟨_, (pss_cons (ps_if (PW.pt (pw_or (pt_not (pt_tru (pe_mt M_Proof_has_words hr (pv 0) (pa_cons (pv 1) (pa_cons (pv 2) pa_nil))))) (pw_or1 (pt_cmpR op_gt (pv 3) (pe_callB call_lenN (by rfl) T.b_len bt_len (pa_cons (pe_fld (pv 0) rfl) pa_nil)) (nomark _))))) (pss_one (ps_ret pe_bl)) pss_nil)
      (pss_one (ps_ret (pe_or (pe_cmpR op_lt (pv 3) (pv 1) (nomark _)) (pe_one (pe_cmpR op_gt (pv 3) (pv 2) (nomark _))))))), ?_⟩
    have rr := R.rd T
    have rl := (Ls.of R.tx.1).rd
    walk_at "rd"
    rw [R.meth]
    refine spHasW_eq R ?_
    walk_at "rd"
    simp only [rr, rl, List.length_map, R.tlen]
    walk_at "rd"
    unfold Si42.askOk at k
    dsimp only at k
    repeat' split
    all_goals refine leaf k ?_
    all_goals rw [Bool.eq_iff_iff]
    all_goals simp only [Bool.and_eq_true, Bool.or_eq_true, decide_eq_true_eq, Bool.false_eq_true, iff_false, iff_true, Bool.and_eq_false_iff, decide_eq_false_iff_not] at *
    all_goals omega
def spOpens (CM CP : Addr) : Sp := fun vs H Q _ => ∃ (p : Addr) (st : Si42.St) (D : Da), vs = [.ref p] ∧ RepD CM CP H p st D ∧ st.marks.length ≤ 1000 ∧ ∀ (H' : Hp) (l : Addr), Same H H' → H l = none → H' l = some (.lst (numsV (Si42.opens st.marks))) → Q (.ref l) H'
theorem ok_opens {f : Addr} {fd : FuncData} (T : Facts G.K G.mg CM CC CP) (M_Proof_stands_open : Mt G CP "stands_open" ["self", "number"] 1 (spOpen CM CP)) (F : Fun G.K "open_marks" "Proof.open_marks" s_Proof_open_marks f fd) : FnOk G.P G.w G.K G.mg G.base CX0 2 f fd ["self"] (spOpens CM CP) := by
  refine F.ok sc_Proof_open_marks (fun vs H Q E h => ?_) (fun cdv A outer s H vs Q E hr h => ?_)
  · obtain ⟨p, st, D, rfl, _⟩ := h; rfl
  · obtain ⟨p, st, D, rfl, R, hl, k⟩ := h
    have nd := sc_Proof_open_marks.nd
    refine ⟨_, (pss_one (ps_ret (pe_lc rfl nd (pi_range1 rfl T.b_range (pa_cons (pe_callB call_lenN (by rfl) T.b_len bt_len (pa_cons (pe_fld (pv 0) rfl) pa_nil)) pa_nil)) (blk_mk (own := [("number", 1)]) (N := ["self", "number"]) (sc := defScope s_Proof_open_marks) rfl rfl (by decide +kernel)) (fun _ _ _ _ _ => (pg_name (i := 1) nd rfl (Or.inl rfl))) (fun _ _ _ _ _ => (pts_one (pt_truK (K := G.K) (by rfl) (pe_mt M_Proof_stands_open hr (pv 0) (pa_cons (pv 1) pa_nil))))) (fun _ _ _ _ _ => (pv 1))))), ?_⟩
    have rr := R.rd T
    have rl := (Ls.of R.mks).rd
    walk_at "rd"
    refine lc_pureR (n := st.marks.length) (fun n => (askAt st.marks n).isSome) (fun n => .int (n : Nat)) (fun B h => ?_) (Nat.le_trans hl (by decide)) (fun x => rfl) (fun j H' B hj sm h => ?_) (fun j H' B hj _ sm h => ?_) (fun D' hD => ?_)
    · walk_at "rd"
      simp only [rr, rl, List.length_map, R.ml]
      exact h
    · have R' := R.same sm
      walk_at "rd"
      simp only [wipe, List.set_cons_zero, List.set_cons_succ]
      walk_at "rd"
      rw [R'.meth]
      refine ⟨p, st, D, j, st.marks[j], rfl, R', List.getElem?_eq_getElem hj, ?_⟩
      walk_at "rd"
      have e : isOpen st.marks[j] = (askAt st.marks j).isSome := by
        unfold askAt isOpen
        rw [List.getElem?_eq_getElem hj]
        dsimp only
        cases st.marks[j].stand <;> rfl
      rw [e]
      exact h
    · walk_at "rd"
      simp only [wipe, List.set_cons_zero, List.set_cons_succ]
      walk_at "rd"
      exact h
    · refine k _ D' (same_new hD) hD ?_
      rw [upd_same, nums_nats, opens_fst]
      rfl
theorem spOpens_to {Q : VK} {E : XK} (R : RepD CM CP H p st D) (hl : st.marks.length ≤ 1000) (k : ∀ (H' : Hp) (l : Addr), Same H H' → H l = none → H' l = some (.lst (numsV (Si42.opens st.marks))) → Q (.ref l) H') : spOpens CM CP [.ref p] H Q E := ⟨p, st, D, rfl, R, hl, k⟩
def put (st : Si42.St) (r : Nat) (q : Si42.Ask) : Si42.St × Int := if Si42.OPEN ≤ (Si42.opens st.marks).length ∨ Si42.MARKS ≤ st.marks.length then (st, -5) else ({ st with marks := st.marks ++ [⟨r, .open_ q⟩] }, (st.marks.length : Int))
def spAdd (CM CP : Addr) : Sp := fun vs H Q _ => ∃ (p am wl : Addr) (st : Si42.St) (keep : Addr → Prop) (r : Nat) (q : Si42.Ask), vs = [.ref p, .ref am] ∧ Rp CM CP H p st (fun b => keep b ∨ b = am ∨ b = wl) ∧ (∀ b, keep b → ∃ o, H b = some o) ∧ ¬ keep am ∧ ¬ keep wl ∧ st.marks.length ≤ 1000 ∧ MarkAt CM H am wl r q 0 .non ∧ After CM CP H p keep (put st r q).1 [(put st r q).2] Q
theorem mem_own {b : Addr} : b ∈ D.own p ↔ b = p ∨ b = D.lt ∨ b = D.lw ∨ b = D.lm ∨ b = D.ll ∨ b ∈ D.ts ∨ b ∈ D.ma ∨ b ∈ D.wl ∨ b ∈ D.la := by
  unfold Da.own
  simp only [List.mem_cons, List.mem_append]
theorem ok_add {f : Addr} {fd : FuncData} (T : Facts G.K G.mg CM CC CP) (M_Proof_open_marks : Mt G CP "open_marks" ["self"] 2 (spOpens CM CP)) (F : Fun G.K "add_mark" "Proof.add_mark" s_Proof_add_mark f fd) : FnOk G.P G.w G.K G.mg G.base CX0 3 f fd ["self", "mark"] (spAdd CM CP) := by
  refine F.ok sc_Proof_add_mark (fun vs H Q E h => ?_) (fun cdv A outer s H vs Q E hr h => ?_)
  · obtain ⟨p, am, wl, st, keep, r, q, rfl, _⟩ := h; rfl
  · obtain ⟨p, am, wl, st, keep, r, q, rfl, ⟨D, R, hown⟩, hk, hka, hkw, hl, hm, k⟩ := h
    refine ⟨_, (pss_cons (ps_if (PW.pt (pw_or (pt_cmpR op_ge (pe_callB call_lenN (by rfl) T.b_len bt_len (pa_cons (pe_mt0 M_Proof_open_marks hr (pv 0)) pa_nil)) (pe_gv T.g_MOST_OPEN_MARKS) (nomark _)) (pw_or1 (pt_cmpR op_ge (pe_callB call_lenN (by rfl) T.b_len bt_len (pa_cons (pe_fld (pv 0) rfl) pa_nil)) (pe_gv T.g_MOST_MARKS) (nomark _))))) (pss_one (ps_ret (pe_lst (pa_cons (pe_gv T.g_FULL) pa_nil)))) pss_nil)
      (pss_cons (ps_expr (pe_bm PySem.F.plainAttrs_list PySem.F.slot_list_append PySem.F.type_list_append mt_append (pe_fld (pv 0) rfl) (pa_cons (pv 1) pa_nil)))
      (pss_one (ps_ret (pe_lst (pa_cons (pe_op op_sub (pe_callB call_lenN (by rfl) T.b_len bt_len (pa_cons (pe_fld (pv 0) rfl) pa_nil)) pe_int) pa_nil)))))), ?_⟩
    have hkeep : ∀ b ∈ D.own p, ¬ keep b := fun b hb z => hown b hb (.inl z)
    have hna : ∀ b ∈ D.own p, b ≠ am := fun b hb z => hown b hb (.inr (.inl z))
    have hnw : ∀ b ∈ D.own p, b ≠ wl := fun b hb z => hown b hb (.inr (.inr z))
    walk_at "rd"
    rw [R.meth]
    refine spOpens_to R hl fun H1 l1 s1 hl1 h1 => ?_
    have R1 := R.same s1
    have rr := R1.rd T
    have rl := (Ls.of R1.mks).rd
    have r1 := (Ls.of h1).rd
    walk_at "rd"
    simp only [rr, rl, r1, List.length_map, R.ml]
    walk_at "rd"
    have no : (Si42.OPEN ≤ (Si42.opens st.marks).length ∨ Si42.MARKS ≤ st.marks.length) → ∀ l2, H1 l2 = none → Q (.ref l2) (upd H1 l2 (.lst [.int (-5)])) := fun hh l2 h2 => by
      have e : put st r q = (st, -5) := by unfold put; rw [if_pos hh]
      rw [e] at k
      exact after_read k ⟨D, R, hkeep⟩ hk (s1.trans (same_new h2)) (fresh_none s1 h2) upd_same
    have yes : ¬ (Si42.OPEN ≤ (Si42.opens st.marks).length ∨ Si42.MARKS ≤ st.marks.length) → (tyV G.K "list" (.ref D.lm) H1 ∧ rAppend (.ref D.lm) [.ref am] H1 fun _ H2 => fldR G.K "marks" (.ref p) H2 fun x H3 => lenR [x] H3 fun x H3 => rI0 (fun i j => V.int (i - j)) x (.int 1) H3 fun x H3 => 1 ≤ sizeLine ∧ ∀ l, H3 l = none → Q (.ref l) (upd H3 l (.lst [x]))) := fun hh => by
      have lm := lw_rd R1.mks
      simp only [lm, true_and]
      refine ⟨by rw [List.length_map, R.ml]; exact Nat.lt_of_le_of_lt hl (by decide), ?_⟩
      have hm1 := hm.same s1
      have hst : StandAt CM H1 am wl ⟨r, .open_ q⟩ := ⟨q, 0, .non, hm1, rfl, rfl, rfl⟩
      have e : put st r q = ({ st with marks := st.marks ++ [⟨r, .open_ q⟩] }, (st.marks.length : Int)) := by unfold put; rw [if_neg hh]
      rw [e] at k
      have R2 : RepD CM CP (upd H1 D.lm (.lst ((D.ma ++ [am]).map V.ref))) p { st with marks := st.marks ++ [⟨r, .open_ q⟩] } { D with ma := D.ma ++ [am], wl := D.wl ++ [wl] } := by
        refine R1.setM (by simp [R.ml]) (by simp [R.wn]) (fun k m hkm => ?_) ?_ (fun l hl' => ?_)
        · rw [List.getElem?_append] at hkm
          split at hkm
          · rename_i hlt
            obtain ⟨a, l, e1, e2, e3⟩ := R1.ms k m hkm
            exact ⟨a, l, by rw [List.getElem?_append_left (by rw [R.ml]; exact hlt)]; exact e1, by rw [List.getElem?_append_left (by rw [R.wn]; exact hlt)]; exact e2, e3⟩
          · rename_i hlt
            have hk0 : k - st.marks.length = 0 := by
              rcases Nat.eq_zero_or_pos (k - st.marks.length) with h | h
              · exact h
              · rw [List.getElem?_eq_none (by simp; omega)] at hkm
                cases hkm
            rw [hk0] at hkm
            cases hkm
            have hkk : k = st.marks.length := by omega
            subst hkk
            exact ⟨am, wl, by rw [List.getElem?_append_right (by rw [R.ml]; omega), R.ml, Nat.sub_self]; rfl, by rw [List.getElem?_append_right (by rw [R.wn]; omega), R.wn, Nat.sub_self]; rfl, hst⟩
        · have h1 := R.nd
          rw [← List.cons_append, List.nodup_append]
          refine ⟨h1, by simp, fun x hx y hy => ?_⟩
          rw [List.mem_singleton.mp hy]
          refine hna x (mem_own.mpr ?_)
          rcases List.mem_cons.mp hx with h | h
          · exact .inl h
          · exact .inr (.inr (.inr (.inr (.inr (.inr (.inl h))))))
        · rcases List.mem_append.mp hl' with hl' | hl'
          · exact R.d3 l hl'
          · rw [List.mem_singleton.mp hl']
            exact ⟨(hnw _ (mem_own.mpr (by simp))).symm, (hnw _ (mem_own.mpr (by simp))).symm, (hnw _ (mem_own.mpr (by simp))).symm⟩
      have e2 : D.ma.map V.ref ++ [V.ref am] = (D.ma ++ [am]).map V.ref := by rw [List.map_append]; rfl
      rw [e2]
      have rr2 := R2.rd T
      have rl2 := (Ls.of R2.mks).rd
      simp only [rr2, rl2]
      walk_at "rd"
      refine ⟨by decide, fun l2 h2 => ?_⟩
      have e3 : (((D.ma ++ [am]).map V.ref).length : Int) - 1 = (st.marks.length : Int) := by
        rw [List.length_map, List.length_append, R.ml]
        simp
      rw [e3]
      have hl2m : D.lm ≠ l2 := ne_of_none upd_same h2
      have hl20 : H1 l2 = none := by rw [upd_ne (Ne.symm hl2m)] at h2; exact h2
      refine k _ l2 upd_same (fun z => ?_) ⟨_, R2.same (same_new h2), fun b hb => ?_⟩ (fun b o hb eb => ?_)
      · obtain ⟨o, eo⟩ := hk l2 z
        rw [fresh_none s1 hl20] at eo
        cases eo
      · have hb := mem_own.mp hb
        simp only [List.mem_append, List.mem_singleton] at hb
        intro z
        have hm0 : ∀ {c}, c = p ∨ c = D.lt ∨ c = D.lw ∨ c = D.lm ∨ c = D.ll ∨ c ∈ D.ts ∨ c ∈ D.ma ∨ c ∈ D.wl ∨ c ∈ D.la → ¬ keep c := fun h => hkeep _ (mem_own.mpr h)
        rcases hb with h | h | h | h | h | h | (h | h) | (h | h) | h
        · exact hm0 (.inl h) z
        · exact hm0 (.inr (.inl h)) z
        · exact hm0 (.inr (.inr (.inl h))) z
        · exact hm0 (.inr (.inr (.inr (.inl h)))) z
        · exact hm0 (.inr (.inr (.inr (.inr (.inl h))))) z
        · exact hm0 (.inr (.inr (.inr (.inr (.inr (.inl h)))))) z
        · exact hm0 (.inr (.inr (.inr (.inr (.inr (.inr (.inl h))))))) z
        · exact hka (h ▸ z)
        · exact hm0 (.inr (.inr (.inr (.inr (.inr (.inr (.inr (.inl h)))))))) z
        · exact hkw (h ▸ z)
        · exact hm0 (.inr (.inr (.inr (.inr (.inr (.inr (.inr (.inr h)))))))) z
      · have hbm : b ≠ D.lm := fun z => hkeep D.lm (mem_own.mpr (by simp)) (z ▸ hb)
        have e4 := s1 b o eb
        rw [upd_ne (ne_of_none (show upd H1 D.lm (.lst ((D.ma ++ [am]).map V.ref)) b = some o by rw [upd_ne hbm]; exact e4) h2), upd_ne hbm]
        exact e4
    split
    · rename_i h2
      exact ⟨by decide, no (.inl (by show 10 ≤ _; omega))⟩
    · rename_i h2
      simp only [rr, rl, List.length_map, R.ml]
      walk_at "rd"
      split
      · rename_i h3
        exact ⟨by decide, no (.inr (by show 60 ≤ _; omega))⟩
      · rename_i h3
        simp only [rr]
        exact yes (by rintro (z | z) <;> simp only [Si42.OPEN, Si42.MARKS] at z <;> omega)
end
section
variable {G : Env1} {CM CC CP : Addr} {H : Hp} {p : Addr} {st : Si42.St} {D : Da} {keep : Addr → Prop}
theorem standAt_set {a l dx : Addr} {m : Si42.Mark} {r k i j g s c : V} {q : Si42.Ask} {sd : Si42.Stand} {n : Nat} {c' : V} (hm : MarkAt CM H a l m.reader q n c) (hdx : H a = some (.ins CM dx (mf (.int m.reader) (.int (kdA q)) (.int (frA q)) (.int (toA q)) (gapV (Si42.puts q)) (.ref l) (.int n) c)))
    {n' : Nat} (ok : stOk sd q n' c') : StandAt CM (upd H a (.ins CM dx (mf (.int m.reader) (.int (kdA q)) (.int (frA q)) (.int (toA q)) (gapV (Si42.puts q)) (.ref l) (.int (n' : Nat)) c'))) a l { m with stand := sd } := by
  refine ⟨q, n', c', ⟨⟨dx, upd_same⟩, ?_⟩, ok⟩
  rw [upd_ne (ne_of hm.wd hdx (by intro z; cases z))]
  exact hm.wd
theorem Rp.setO (hk : ∀ b, keep b → ∃ o, H b = some o) (R : RepD CM CP H p st D) (hown : ∀ b ∈ D.own p, ¬ keep b) {k : Nat} {a l dx : Addr} {m : Si42.Mark} {fs : List (Str × V)} (ha : D.ma[k]? = some a) (hl : D.wl[k]? = some l) (hm : StandAt CM (upd H a (.ins CM dx fs)) a l m) :
    Rp CM CP (upd H a (.ins CM dx fs)) p { st with marks := st.marks.set k m } keep ∧ ∀ b o, keep b → H b = some o → upd H a (.ins CM dx fs) b = some o := by
  refine ⟨⟨D, R.setO ha hl hm, hown⟩, fun b o hb e => ?_⟩
  have hba : b ≠ a := fun z => hown a (mem_own.mpr (by simp [List.mem_of_getElem? ha])) (z ▸ hb)
  rw [upd_ne hba]
  exact e
def clSt (n pr : Nat) : Si42.Stand := if n = 1 then .done pr else .lost pr
def spClose (CM CP : Addr) : Sp := fun vs H Q _ => ∃ (p : Addr) (st : Si42.St) (D : Da) (n s : Nat) (m : Si42.Mark), vs = [.ref p, .int (n : Nat), .int (s : Nat)] ∧ RepD CM CP H p st D ∧ st.marks[n]? = some m ∧ (s = 1 ∨ s = 2) ∧
  ∀ H', RepD CM CP H' p { st with marks := st.marks.set n { m with stand := clSt s st.proof } } D → (∀ b o, H b = some o → b ∉ D.ma → H' b = some o) → Q .non H'
theorem ok_close {f : Addr} {fd : FuncData} (T : Facts G.K G.mg CM CC CP) (F : Fun G.K "close_mark" "Proof.close_mark" s_Proof_close_mark f fd) : FnOk G.P G.w G.K G.mg G.base CX0 1 f fd ["self", "number", "state"] (spClose CM CP) := by
  refine F.ok sc_Proof_close_mark (fun vs H Q E h => ?_) (fun cdv A outer s H vs Q E hr h => ?_)
  · obtain ⟨p, st, D, n, s, m, rfl, _⟩ := h; rfl
  · obtain ⟨p, st, D, n, s', m, rfl, R, hm, hs, k⟩ := h
    have nd := sc_Proof_close_mark.nd
    refine ⟨_, (pss_cons (ps_set (i := 3) nd rfl (Or.inl rfl) (pe_ix ix_lst (pe_fld (pv 0) rfl) (pv 1) (fun _ _ => rfl)))
      (pss_cons (ps_fld (pv 3) (pv 2) rfl)
      (pss_one (ps_fld (pv 3) (pe_fld (pv 0) rfl) rfl)))), ?_⟩
    have rr := R.rd T
    have rl := (Ls.of R.mks).rd
    obtain ⟨a, l, e1, e2, q, n', c, e3, e4⟩ := R.ms n m hm
    obtain ⟨dx, hdx⟩ := e3.ob
    walk_at "rd"
    simp only [rr, rl, ixV_nat (show (D.ma.map V.ref)[n]? = some (V.ref a) by rw [List.getElem?_map, e1]; rfl)]
    walk_at "rd"
    refine (setR_of hdx T.cl_Mark T.n_Mark_state (by show (8 : Nat) < 1000; decide)).mpr ?_
    have hpa : p ≠ a := fun z => (List.nodup_cons.mp R.nd).1 (z ▸ List.mem_of_getElem? e1)
    have hob : upd H a (.ins CM dx (putF "state" (.int (s' : Nat)) (mf (.int m.reader) (.int (kdA q)) (.int (frA q)) (.int (toA q)) (gapV (Si42.puts q)) (.ref l) (.int n') c))) p = some (.ins CP D.dx (pf (.ref D.lt) (.ref D.lw) (.ref D.lm) (.int (st.proof : Nat)) (.ref D.ll))) := by rw [upd_ne hpa]; exact R.ob
    walk_at "rd"
    rw [fldR_of hob T.cl_Proof T.n_Proof_number rfl]
    refine (setR_of upd_same T.cl_Mark T.n_Mark_closed_in (by show (8 : Nat) < 1000; decide)).mpr ?_
    rw [upd_upd]
    have hst : StandAt CM (upd H a (.ins CM dx (mf (.int m.reader) (.int (kdA q)) (.int (frA q)) (.int (toA q)) (gapV (Si42.puts q)) (.ref l) (.int (s' : Nat)) (.int (st.proof : Nat))))) a l { m with stand := clSt s' st.proof } := by
      refine standAt_set (r := .non) (k := .non) (i := .non) (j := .non) (g := .non) (s := .non) e3 hdx ?_
      rcases hs with rfl | rfl
      · exact ⟨rfl, rfl⟩
      · exact ⟨rfl, rfl⟩
    exact k _ (R.setO e1 e2 hst) fun b o e hb => by
      rw [upd_ne fun z => hb (by rw [z]; exact List.mem_of_getElem? e1)]
      exact e
def folSt (P U : List Tri) (gs : List Nat) (q : Si42.Ask) (pr : Nat) : Si42.Stand := match pFollow P U gs q with
  | some b => .open_ b
  | none => .lost pr
def spFolM (CM CC CP : Addr) : Sp := fun vs H Q _ => ∃ (p c lt' lg : Addr) (st : Si42.St) (D : Da) (n : Nat) (m : Si42.Mark) (q : Si42.Ask) (bs : List Addr) (U : List Tri) (gs : List Nat), vs = [.ref p, .int (n : Nat), .ref c] ∧ RepD CM CP H p st D ∧ st.marks[n]? = some m ∧ m.stand = .open_ q ∧
  CarAt CC H c lt' lg bs U gs ∧ askIn st.text.length q ∧ gs.length = st.text.length + 1 ∧ U.length ≤ 100000 ∧ st.text.length ≤ 1000 ∧
  ∀ H' ma wl, RepD CM CP H' p { st with marks := st.marks.set n { m with stand := folSt (D.T.map trip) U gs q st.proof } } { D with ma := ma, wl := wl } → (∀ a ∈ ma, a ∈ D.ma ∨ H a = none) → (∀ a ∈ wl, a ∈ D.wl ∨ H a = none) → (∀ b o, H b = some o → b ∉ D.ma → b ≠ D.lm → H' b = some o) → Q .non H'
theorem set_get {α : Type} {l : List α} {n k : Nat} {x y : α} (h : (l.set n x)[k]? = some y) : (k = n ∧ y = x) ∨ (k ≠ n ∧ l[k]? = some y) := by
  rw [List.getElem?_set] at h
  split at h
  · rename_i e
    split at h
    · cases h
      exact .inl ⟨e.symm, rfl⟩
    · cases h
  · rename_i e
    exact .inr ⟨fun z => e z.symm, h⟩
theorem nodup_set {l : List Addr} {n : Nat} {x : Addr} : l.Nodup → x ∉ l → (l.set n x).Nodup := by
  induction l generalizing n with
  | nil => intro _ _; simp
  | cons a l ih =>
    intro h hx
    rw [List.nodup_cons] at h
    cases n with
    | zero =>
      rw [List.set_cons_zero, List.nodup_cons]
      exact ⟨fun z => hx (List.mem_cons_of_mem _ z), h.2⟩
    | succ n =>
      rw [List.set_cons_succ, List.nodup_cons]
      refine ⟨fun z => ?_, ih h.2 fun z => hx (List.mem_cons_of_mem _ z)⟩
      rcases List.mem_or_eq_of_mem_set z with z | z
      · exact h.1 z
      · exact hx (z ▸ List.mem_cons_self)
theorem ok_folM {f : Addr} {fd : FuncData} (T : Facts G.K G.mg CM CC CP) (F_followed : Fn G "followed" ["mark", "text", "carried"] 5 (spFoll CM CC)) (M_Proof_close_mark : Mt G CP "close_mark" ["self", "number", "state"] 1 (spClose CM CP)) (F : Fun G.K "follow_mark" "Proof.follow_mark" s_Proof_follow_mark f fd) :
    FnOk G.P G.w G.K G.mg G.base CX0 6 f fd ["self", "number", "carried"] (spFolM CM CC CP) := by
  refine F.ok sc_Proof_follow_mark (fun vs H Q E h => ?_) (fun cdv A outer s H vs Q E hr h => ?_)
  · obtain ⟨p, c, lt', lg, st, D, n, m, q, bs, U, gs, rfl, _⟩ := h; rfl
  · obtain ⟨p, c, lt', lg, st, D, n, m, q, bs, U, gs, rfl, R, hm, hq, hc, hin, hgl, hul, htl, k⟩ := h
    have nd := sc_Proof_follow_mark.nd
    refine ⟨_, (pss_cons (ps_set (i := 3) nd rfl (Or.inl rfl) (pe_fn F_followed hr rfl (pa_cons (pe_ix ix_lst (pe_fld (pv 0) rfl) (pv 1) (fun _ _ => rfl)) (pa_cons (pe_fld (pv 0) rfl) (pa_cons (pv 2) pa_nil)))))
      (pss_one (ps_if (pt_cmpR op_isN (pv 3) pe_non (nomark _)) (pss_one (ps_expr (pe_mt M_Proof_close_mark hr (pv 0) (pa_cons (pv 1) (pa_cons (pe_gv T.g_LOST) pa_nil))))) (pss_one (ps_asg (pv 3) (pg_sub (pe_fld (pv 0) rfl) (pv 1) set_list)))))), ?_⟩
    have rr := R.rd T
    have rl := (Ls.of R.mks).rd
    obtain ⟨a, l, e1, e2, q', n', c', e3, e4⟩ := R.ms n m hm
    rw [hq] at e4
    obtain ⟨rfl, _, _⟩ := e4
    walk_at "rd"
    simp only [rr, rl, ixV_nat (show (D.ma.map V.ref)[n]? = some (V.ref a) by rw [List.getElem?_map, e1]; rfl)]
    have hPl : (D.T.map trip).length = st.text.length := by rw [List.length_map, R.Tlen]
    refine ⟨a, l, D.lt, c, lt', lg, m.reader, n', q', c', D.ts, bs, D.T.map trip, U, gs, rfl, e3, R.tx, hc, by rw [hPl]; exact hin, by rw [hPl]; exact hgl, hul, by rw [hPl]; exact htl, fun hno H1 s1 => ?_, fun b hb H1 a2 l2 s1 ha2 hl2 hm2 => ?_⟩
    · walk_at "rd"
      have R1 := R.same s1
      rw [R1.meth]
      refine ⟨p, st, D, n, 2, m, rfl, R1, hm, .inr rfl, fun H2 hR hfr => ?_⟩
      refine k H2 D.ma D.wl ?_ (fun a ha => .inl ha) (fun a ha => .inl ha) fun b o e hb _ => hfr b o (s1 _ _ e) hb
      unfold folSt
      rw [hno]
      exact hR
    · walk_at "rd"
      have R1 := R.same s1
      have rr1 := R1.rd T
      simp only [rr1]
      have hnl : n < st.marks.length := (List.getElem?_eq_some_iff.mp hm).1
      have fresh : ∀ {b : Addr}, H b = none → b ∉ D.own p := fun {b} hb hi => by
        have hi := mem_own.mp hi
        have ex : ∃ o, H b = some o := by
          rcases hi with h | h | h | h | h | h | h | h | h
          · exact ⟨_, h ▸ R.ob⟩
          · exact ⟨_, h ▸ R.tx.1⟩
          · exact ⟨_, h ▸ R.wt⟩
          · exact ⟨_, h ▸ R.mks⟩
          · exact ⟨_, h ▸ R.lo⟩
          · obtain ⟨x, _, e⟩ := pr_mem R.tx.2 h; exact ⟨_, e⟩
          · obtain ⟨C, dx, fs, e⟩ := R.ma_is h; exact ⟨_, e⟩
          · obtain ⟨xs, e⟩ := R.wl_is h; exact ⟨_, e⟩
          · obtain ⟨x, _, e⟩ := pr_mem R.ls h; exact ⟨_, e⟩
        obtain ⟨o, e⟩ := ex
        rw [hb] at e
        cases e
      have ha2n := fresh ha2
      have hl2n := fresh hl2
      refine setL_of R1.mks (by rw [List.length_map, R.ml]; exact hnl) ?_
      have hset : (D.ma.map V.ref).set n (.ref a2) = (D.ma.set n a2).map V.ref := by rw [List.map_set]
      rw [hset]
      have hst : StandAt CM H1 a2 l2 { m with stand := .open_ b } := ⟨b, 0, .non, hm2, rfl, rfl, rfl⟩
      have R2 : RepD CM CP (upd H1 D.lm (.lst ((D.ma.set n a2).map V.ref))) p { st with marks := st.marks.set n { m with stand := .open_ b } } { D with ma := D.ma.set n a2, wl := D.wl.set n l2 } := by
        refine R1.setM (by rw [List.length_set, List.length_set, R.ml]) (by rw [List.length_set, List.length_set, R.wn]) (fun j m' hj => ?_) ?_ (fun x hx => ?_)
        · rcases set_get hj with ⟨rfl, rfl⟩ | ⟨hne, hj⟩
          · exact ⟨a2, l2, by rw [List.getElem?_set_self (by rw [R.ml]; exact hnl)], by rw [List.getElem?_set_self (by rw [R.wn]; exact hnl)], hst⟩
          · obtain ⟨a', l', h1, h2, h3⟩ := R1.ms j m' hj
            exact ⟨a', l', by rw [List.getElem?_set_ne (Ne.symm hne)]; exact h1, by rw [List.getElem?_set_ne (Ne.symm hne)]; exact h2, h3⟩
        · have hnd := List.nodup_cons.mp R.nd
          rw [List.nodup_cons]
          refine ⟨fun z => ?_, nodup_set hnd.2 fun z => ha2n (mem_own.mpr (by simp [z]))⟩
          rcases List.mem_or_eq_of_mem_set z with z | z
          · exact hnd.1 z
          · exact ha2n (mem_own.mpr (.inl z.symm))
        · rcases List.mem_or_eq_of_mem_set hx with hx | hx
          · exact R.d3 x hx
          · rw [hx]
            exact ⟨fun z => hl2n (mem_own.mpr (by simp [z])), fun z => hl2n (mem_own.mpr (by simp [z])), fun z => hl2n (mem_own.mpr (by simp [z]))⟩
      refine k _ (D.ma.set n a2) (D.wl.set n l2) ?_ (fun x hx => ?_) (fun x hx => ?_) fun x o e _ hx => ?_
      · unfold folSt
        rw [hb]
        exact R2
      · rcases List.mem_or_eq_of_mem_set hx with h | h
        · exact .inl h
        · exact .inr (h ▸ ha2)
      · rcases List.mem_or_eq_of_mem_set hx with h | h
        · exact .inl h
        · exact .inr (h ▸ hl2)
      · rw [upd_ne hx]
        exact s1 _ _ e
end
section
variable {G : Env1} {CM CC CP : Addr} {H : Hp} {p : Addr} {st : Si42.St} {D : Da} {keep : Addr → Prop}
def pairsI (ps : List (Nat × Nat)) : List Int := ps.flatMap fun x => [(x.1 : Int), (x.2 : Int)]
theorem pairsI_len (ps : List (Nat × Nat)) : (pairsI ps).length = 2 * ps.length := by
  induction ps with
  | nil => rfl
  | cons x ps ih =>
    unfold pairsI at ih ⊢
    rw [List.flatMap_cons, List.length_append, ih]
    simp
    omega
def spTold : Sp := fun vs H Q _ => ∃ (lp : Addr) (as : List Addr) (ps : List (Nat × Nat)), vs = [.ref lp] ∧ H lp = some (.lst (as.map V.ref)) ∧ Prs H as ps ∧ ps.length ≤ 20000 ∧ ∀ (H' : Hp) (l : Addr), Same H H' → H l = none → H' l = some (.lst (intsV ((ps.length : Int) :: pairsI ps))) → Q (.ref l) H'
theorem ok_told {f : Addr} {fd : FuncData} (T : Facts G.K G.mg CM CC CP) (F : Fun G.K "told_in_pairs" "told_in_pairs" s_told_in_pairs f fd) : FnOk G.P G.w G.K G.mg G.base CX0 1 f fd ["pairs"] spTold := by
  refine F.ok sc_told_in_pairs (fun vs H Q E h => ?_) (fun cdv A outer s H vs Q E hr h => ?_)
  · obtain ⟨lp, as, ps, rfl, _⟩ := h; rfl
  · obtain ⟨lp, as, ps, rfl, hp, hps, hl, k⟩ := h
    have nd := sc_told_in_pairs.nd
    have hal : as.length = ps.length := Paired.length hps
    have hsz : (1000000 : Nat) ≤ sizeLine := by decide
    refine ⟨_, (pss_cons (ps_set (i := 1) nd rfl (Or.inl rfl) (pe_lst (pa_cons (pe_callB call_lenN (by rfl) T.b_len bt_len (pa_cons (pv 0) pa_nil)) pa_nil)))
      (pss_cons (ps_for PassesOwn.never rfl (pi_list (pv 0)) (pg_name (i := 2) nd rfl (Or.inl rfl))
      (pss_one (ps_expr (pe_bm PySem.F.plainAttrs_list PySem.F.slot_list_extend PySem.F.type_list_extend mt_extendT (pv 1) (pa_cons (pv 2) pa_nil)))))
      (pss_one (ps_ret (pv 1))))), ?_⟩
    have r0 := (Ls.of hp).rd
    walk_at "rd"
    simp only [r0]
    walk_at "rd"
    refine ⟨by decide, fun g hg => ?_⟩
    let I1 : Nat → L2.St → Hp → Prop := fun i σ H' => ∃ (v2 : Option V), σ = [some (.ref lp), some (.ref g), v2] ∧ Same H H' ∧ H' g = some (.lst (intsV ((ps.length : Int) :: pairsI (ps.take i))))
    refine ⟨_, rfl, lp, rfl, ⟨_, (Ls.of (same_new hg _ _ hp)).sq⟩, for_mapL (xs := as) (f := V.ref) I1 ⟨none, rfl, same_new hg, ?_⟩ ?_ ?_ ?_⟩
    · rw [upd_same, List.length_map, hal]
      rfl
    · rintro i σ1 H1 _ ⟨v2, _, s1, _⟩
      exact (Ls.of (s1 _ _ hp)).sq
    · rintro i a σ1 H1 ha ⟨v2, rfl, s1, h1⟩
      have hlt : i < as.length := (List.getElem?_eq_some_iff.mp ha).1
      obtain ⟨x, hx⟩ : ∃ x, ps[i]? = some x := ⟨_, List.getElem?_eq_getElem (by omega)⟩
      obtain ⟨a', ha', hax⟩ := pr_get hps hx
      rw [ha] at ha'
      cases ha'
      have l1 := lw_rd h1
      walk_at "rd"
      simp only [l1, true_and]
      refine ⟨g, a, _, _, rfl, rfl, h1, s1 _ _ hax, ?_, _, rfl, same_upd s1 hg, ?_⟩
      · rw [intsV_length, List.length_cons, pairsI_len, List.length_take]
        simp only [List.length_cons, List.length_nil]
        omega
      · rw [upd_same, take_snoc hx]
        unfold pairsI
        rw [List.flatMap_append]
        show some (HO.lst (intsV ((ps.length : Int) :: (ps.take i).flatMap _) ++ [V.int (x.1 : Nat), V.int (x.2 : Nat)])) = _
        rw [← List.cons_append, intsV_app]
        rfl
    · rintro σ1 H1 ⟨v2, rfl, s1, h1⟩
      walk_at "rd"
      rw [hal, List.take_length] at h1
      exact k H1 g s1 hg h1
def spTWords : Sp := fun vs H Q _ => ∃ (lt : Addr) (as : List Addr) (P : List Tri), vs = [.ref lt] ∧ TxtAt H lt as P ∧ P.length ≤ 100000 ∧ ∀ (H' : Hp) (l : Addr), Same H H' → H l = none → H' l = some (.lst (intsV ((P.length : Int) :: P.map fun x => x.1))) → Q (.ref l) H'
theorem ok_twords {f : Addr} {fd : FuncData} (T : Facts G.K G.mg CM CC CP) (F_bare_words : Fn G "bare_words" ["text"] 1 spBare) (F : Fun G.K "told_words" "told_words" s_told_words f fd) : FnOk G.P G.w G.K G.mg G.base CX0 2 f fd ["text"] spTWords := by
  refine F.ok sc_told_words (fun vs H Q E h => ?_) (fun cdv A outer s H vs Q E hr h => ?_)
  · obtain ⟨lt, as, P, rfl, _⟩ := h; rfl
  · obtain ⟨lt, as, P, rfl, ht, hl, k⟩ := h
    have hal : as.length = P.length := Tups.length ht.2
    have hsz : (1000000 : Nat) ≤ sizeLine := by decide
    refine ⟨_, (pss_one (ps_ret (pe_op op_cat (pe_lst (pa_cons (pe_callB call_lenN (by rfl) T.b_len bt_len (pa_cons (pv 0) pa_nil)) pa_nil)) (pe_fn F_bare_words hr rfl (pa_cons (pv 0) pa_nil))))), ?_⟩
    have r0 := (Ls.of ht.1).rd
    walk_at "rd"
    simp only [r0]
    walk_at "rd"
    refine ⟨by decide, fun g hg => ?_⟩
    have s1 := same_new (o := .lst [V.int ((as.map V.ref).length : Nat)]) hg
    refine ⟨lt, as, P, rfl, ht.same s1, hl, fun H2 l2 s2 hl2 h2 => ?_⟩
    have c2 := lw_rd (s2 _ _ (upd_same (H := H) (a := g) (o := .lst [V.int ((as.map V.ref).length : Nat)])))
    simp only [c2]
    refine ⟨_, h2, by simp only [intsV_length, List.length_map, List.length_cons, List.length_nil]; omega, fun l3 h3 => ?_⟩
    refine k _ l3 ((s1.trans s2).trans (same_new h3)) (fresh_none (s1.trans s2) h3) ?_
    rw [upd_same, List.length_map, hal]
    rfl
theorem RepD.new {dx lt lw lm ll : Addr} {ts : List Addr} {T : List GT} {text : Si42.Text} {next : Nat} {first : List Nat} (h1 : H p = some (.ins CP dx (pf (.ref lt) (.ref lw) (.ref lm) (.int (0 : Nat)) (.ref ll)))) (h2 : TxtAt H lt ts (T.map trip)) (h3 : T.map Prod.fst = text) (h4 : GInv T)
    (h5 : H lw = some (.lst [])) (h6 : H lm = some (.lst [])) (h7 : H ll = some (.lst [])) (d1 : lw ≠ lm ∧ lw ≠ ll ∧ lm ≠ ll) (d2 : lt ≠ lw ∧ lt ≠ lm ∧ lt ≠ ll) : RepD CM CP H p ⟨[], 0, text, next, first, [], []⟩ ⟨dx, lt, lw, lm, ll, ts, T, [], [], []⟩ where
  ob := h1
  tx := h2
  tT := h3
  gi := h4
  wt := h5
  mks := h6
  ml := rfl
  wn := rfl
  ms := fun k m e => by cases e
  lo := h7
  ls := .nil
  nd := by simp
  d1 := d1
  d2 := d2
  d3 := fun l hl => absurd hl List.not_mem_nil
def beginT (w : List Nat) : List GT := w.zipIdx.map fun x => (⟨x.2, x.1, none⟩, x.2)
theorem beginT_fst (w : List Nat) : (beginT w).map Prod.fst = w.zipIdx.map fun x => (⟨x.2, x.1, none⟩ : Si42.Token) := by
  unfold beginT
  rw [List.map_map]
  rfl
theorem beginT_trip (w : List Nat) : (beginT w).map trip = bringI (-1) w := by
  unfold beginT bringI
  rw [List.map_map]
  rfl
theorem beginT_inv (w : List Nat) : GInv (beginT w) where
  key := fun x hx y hy _ e => by
    obtain ⟨a, ha, rfl⟩ := List.mem_map.mp hx
    obtain ⟨b, hb, rfl⟩ := List.mem_map.mp hy
    have e : a.2 = b.2 := e
    rw [zipIdx_at ha hb e]
  org := fun x hx _ => by
    obtain ⟨a, ha, rfl⟩ := List.mem_map.mp hx
    rfl
def SBut (p : Addr) (H H' : Hp) : Prop := ∀ b o, b ≠ p → H b = some o → H' b = some o
theorem SBut.trans {H1 H2 H3 : Hp} (a : SBut p H1 H2) (b : SBut p H2 H3) : SBut p H1 H3 := fun c o hc e => b c o hc (a c o hc e)
theorem SBut.upd {o : HO} : SBut p H (upd H p o) := fun b u hb e => by rw [upd_ne hb]; exact e
theorem Same.but {H H' : Hp} (s : Same H H') : SBut p H H' := fun b o _ e => s b o e
theorem TxtAt.but {H H' : Hp} {l : Addr} {as : List Addr} {P : List Tri} {C dx : Addr} {fs : List (Str × V)} (h : TxtAt H l as P) (s : SBut p H H') (hp : H p = some (.ins C dx fs)) : TxtAt H' l as P :=
  ⟨s _ _ (ne_of h.1 hp (by intro z; cases z)) h.1, pr_on h.2 fun a _ x e => s _ _ (ne_of e hp (by intro z; cases z)) e⟩
theorem fresh_but {H H' : Hp} {b : Addr} (s : SBut p H H') (hb : b ≠ p) (h : H' b = none) : H b = none := by
  cases e : H b with
  | none => rfl
  | some o => rw [s _ _ hb e] at h; cases h
theorem Ls.but {H H' : Hp} {l : Addr} {xs : List V} {C dx : Addr} {fs : List (Str × V)} (h : Ls H l xs) (s : SBut p H H') (hp : H p = some (.ins C dx fs)) : Ls H' l xs := by
  rcases h with h | ⟨o, h⟩
  · exact .inl (s _ _ (ne_of h hp (by intro z; cases z)) h)
  · exact .inr ⟨o, s _ _ (ne_of h hp (by intro z; cases z)) h⟩
theorem chain {H2 : Hp} {lw lm ll : Addr} {o1 o2 o3 o4 o5 : HO} (hw : upd H2 p o1 lw = none) (hm : upd (upd (upd H2 p o1) lw (.lst [])) p o2 lm = none) (hl : upd (upd (upd (upd (upd (upd H2 p o1) lw (.lst [])) p o2) lm (.lst [])) p o3) p o4 ll = none) :
    (upd (upd (upd (upd (upd (upd (upd (upd H2 p o1) lw (.lst [])) p o2) lm (.lst [])) p o3) p o4) ll (.lst [])) p o5) p = some o5 ∧ SBut p H2 (upd (upd (upd (upd (upd (upd (upd (upd H2 p o1) lw (.lst [])) p o2) lm (.lst [])) p o3) p o4) ll (.lst [])) p o5) ∧
    (upd (upd (upd (upd (upd (upd (upd (upd H2 p o1) lw (.lst [])) p o2) lm (.lst [])) p o3) p o4) ll (.lst [])) p o5) lw = some (.lst []) ∧ (upd (upd (upd (upd (upd (upd (upd (upd H2 p o1) lw (.lst [])) p o2) lm (.lst [])) p o3) p o4) ll (.lst [])) p o5) lm = some (.lst []) ∧
    (upd (upd (upd (upd (upd (upd (upd (upd H2 p o1) lw (.lst [])) p o2) lm (.lst [])) p o3) p o4) ll (.lst [])) p o5) ll = some (.lst []) ∧ H2 lw = none ∧ H2 lm = none ∧ H2 ll = none ∧ lw ≠ lm ∧ lw ≠ ll ∧ lm ≠ ll ∧ (lw ≠ p ∧ lm ≠ p ∧ ll ≠ p) := by
  have pw : lw ≠ p := fun z => by rw [z, upd_same] at hw; cases hw
  have pm : lm ≠ p := fun z => by rw [z, upd_same] at hm; cases hm
  have pl : ll ≠ p := fun z => by rw [z, upd_same] at hl; cases hl
  rw [upd_ne pw] at hw
  rw [upd_ne pm] at hm
  have wm : lw ≠ lm := fun z => by rw [← z, upd_same] at hm; cases hm
  rw [upd_ne (Ne.symm wm), upd_ne pm] at hm
  rw [upd_ne pl, upd_ne pl] at hl
  have ml : lm ≠ ll := fun z => by rw [← z, upd_same] at hl; cases hl
  rw [upd_ne (Ne.symm ml), upd_ne pl] at hl
  have wl : lw ≠ ll := fun z => by rw [← z, upd_same] at hl; cases hl
  rw [upd_ne (Ne.symm wl), upd_ne pl] at hl
  refine ⟨upd_same, fun b o hb e => ?_, ?_, ?_, ?_, hw, hm, hl, wm, wl, ml, pw, pm, pl⟩
  · rw [upd_ne hb, upd_ne (ne_of_none e hl), upd_ne hb, upd_ne hb, upd_ne (ne_of_none e hm), upd_ne hb, upd_ne (ne_of_none e hw), upd_ne hb]
    exact e
  · rw [upd_ne pw, upd_ne wl, upd_ne pw, upd_ne pw, upd_ne wm, upd_ne pw, upd_same]
  · rw [upd_ne pm, upd_ne ml, upd_ne pm, upd_ne pm, upd_same]
  · rw [upd_ne pl, upd_same]
def spBegins (CM CP : Addr) : Sp := fun vs H Q _ => ∃ (p lw : Addr) (st : Si42.St) (keep : Addr → Prop) (w : List Nat), vs = [.ref p, .ref lw] ∧ Rp CM CP H p st keep ∧ (∀ b, keep b → ∃ o, H b = some o) ∧ Ls H lw (natsV w) ∧ w.length ≤ 1000 ∧ After CM CP H p keep (Si42.step st (.begins w)).1 (ansOf st (.begins w)) Q
theorem ok_begins {f : Addr} {fd : FuncData} (T : Facts G.K G.mg CM CC CP) (F_are_words : Fn G "are_words" ["numbers"] 1 spWords) (F_brought_by : Fn G "brought_by" ["bringer", "words"] 1 spBrought) (F : Fun G.K "begins" "Proof.begins" s_Proof_begins f fd) : FnOk G.P G.w G.K G.mg G.base CX0 2 f fd ["self", "words"] (spBegins CM CP) := by
  refine F.ok sc_Proof_begins (fun vs H Q E h => ?_) (fun cdv A outer s H vs Q E hr h => ?_)
  · obtain ⟨p, lw, st, keep, w, rfl, _⟩ := h; rfl
  · obtain ⟨p, lw, st, keep, w, rfl, R0, hk, hw, hwl, k⟩ := h
    have hR := R0
    obtain ⟨D, R, hown⟩ := R0
    refine ⟨_, (pss_cons (ps_if (PW.pt (pw_or (pt_cmpR op_gt (pe_callB call_lenN (by rfl) T.b_len bt_len (pa_cons (pv 1) pa_nil)) (pe_gv T.g_MOST_WORDS) (nomark _)) (pw_or1 (pt_not (pt_tru (pe_fn F_are_words hr rfl (pa_cons (pv 1) pa_nil))))))) (pss_one (ps_ret (pe_lst (pa_cons (pe_gv T.g_UNFIT) pa_nil)))) pss_nil)
      (pss_cons (ps_fld (pv 0) (pe_fn F_brought_by hr rfl (pa_cons (pe_gv T.g_NOBODY) (pa_cons (pv 1) pa_nil))) rfl)
      (pss_cons (ps_fld (pv 0) (pe_lst pa_nil) rfl)
      (pss_cons (ps_fld (pv 0) (pe_lst pa_nil) rfl)
      (pss_cons (ps_fld (pv 0) pe_int rfl)
      (pss_cons (ps_fld (pv 0) (pe_lst pa_nil) rfl)
      (pss_one (ps_ret (pe_lst (pa_cons (pe_callB call_lenN (by rfl) T.b_len bt_len (pa_cons (pv 1) pa_nil)) pa_nil)))))))))), ?_⟩
    have rw' := hw.rd
    walk_at "rd"
    simp only [rw', natsV_length]
    walk_at "rd"
    have no : (Si42.wordsOk w && decide (w.length ≤ Si42.WORDS)) = false → ∀ H1, Same H H1 → ∀ l, H1 l = none → Q (.ref l) (upd H1 l (.lst [.int (-1)])) := fun hno H1 s1 l hl => by
      have e : Si42.step st (.begins w) = (st, Si42.ok (-1)) := by
        unfold Si42.step
        dsimp only
        rw [if_pos hno]
      unfold ansOf at k
      rw [e] at k
      exact after_read k hR hk (s1.trans (same_new hl)) (fresh_none s1 hl) upd_same
    split
    · rename_i h1
      refine ⟨by decide, no ?_ H (Same.refl _)⟩
      rw [decide_eq_false (show ¬ w.length ≤ Si42.WORDS by show ¬ w.length ≤ 100; omega), Bool.and_false]
    · rename_i h1
      refine ⟨lw, w.map fun (n : Nat) => (n : Int), rfl, by rw [← natsV_ints]; exact hw, by rw [List.length_map]; exact Nat.le_trans hwl (by decide), fun H1 s1 => ?_⟩
      rw [words_nats]
      walk_at "rd"
      split
      · rename_i h2
        refine ⟨by decide, no ?_ H1 s1⟩
        rw [h2, Bool.false_and]
      · rename_i h2
        have h2 : Si42.wordsOk w = true := by cases e : Si42.wordsOk w with | true => rfl | false => exact absurd e h2
        have e : Si42.step st (.begins w) = (⟨[], 0, w.zipIdx.map fun x => ⟨x.2, x.1, none⟩, w.length, w, [], []⟩, Si42.ok (w.length : Int)) := by
          unfold Si42.step
          dsimp only
          rw [if_neg (by rw [h2, decide_eq_true (show w.length ≤ Si42.WORDS by show w.length ≤ 100; omega)]; decide)]
        unfold ansOf at k
        rw [e] at k
        refine ⟨-1, lw, w, rfl, same_ls s1 hw, hwl, fun H2 lt as s2 hlt ht has => ?_⟩
        walk_at "rd"
        have s12 := s1.trans s2
        have ob2 := s12 _ _ R.ob
        refine (setR_of ob2 T.cl_Proof T.n_Proof_text (by show (5 : Nat) < 1000; decide)).mpr ?_
        walk_at "rd"
        refine ⟨Nat.zero_le _, fun lw2 hlw2 => ?_⟩
        have hpw : p ≠ lw2 := ne_of_none upd_same hlw2
        refine (setR_of (by rw [upd_ne hpw, upd_same]) T.cl_Proof T.n_Proof_weights (by show (5 : Nat) < 1000; decide)).mpr ?_
        walk_at "rd"
        refine ⟨Nat.zero_le _, fun lm2 hlm2 => ?_⟩
        have hpm : p ≠ lm2 := ne_of_none upd_same hlm2
        refine (setR_of (by rw [upd_ne hpm, upd_same]) T.cl_Proof T.n_Proof_marks (by show (5 : Nat) < 1000; decide)).mpr ?_
        walk_at "rd"
        refine (setR_of upd_same T.cl_Proof T.n_Proof_number (by show (5 : Nat) < 1000; decide)).mpr ?_
        walk_at "rd"
        refine ⟨Nat.zero_le _, fun ll2 hll2 => ?_⟩
        have hpl : p ≠ ll2 := ne_of_none upd_same hll2
        refine (setR_of (by rw [upd_ne hpl, upd_same]) T.cl_Proof T.n_Proof_losses (by show (5 : Nat) < 1000; decide)).mpr ?_
        obtain ⟨hf1, hf2, hf3, hf4, hf5, hf6, hf7, hf8, hn1, hn2, hn3, hn4⟩ := chain (o5 := .ins CP D.dx (pf (.ref lt) (.ref lw2) (.ref lm2) (.int (0 : Nat)) (.ref ll2))) hlw2 hlm2 hll2
        have hf1 : _ = some (HO.ins CP D.dx (pf (.ref lt) (.ref lw2) (.ref lm2) (.int (0 : Nat)) (.ref ll2))) := hf1
        have fin : ∀ Hf : Hp, Hf p = some (HO.ins CP D.dx (pf (.ref lt) (.ref lw2) (.ref lm2) (.int (0 : Nat)) (.ref ll2))) → SBut p H2 Hf → Hf lw2 = some (.lst []) → Hf lm2 = some (.lst []) → Hf ll2 = some (.lst []) → lenR [.ref lw] Hf fun x H1 => 1 ≤ sizeLine ∧ ∀ l, H1 l = none → Q (.ref l) (upd H1 l (.lst [x])) := by
          intro Hf f1 f2 f3 f4 f5
          have hwf : Ls Hf lw (natsV w) := (same_ls s12 hw).but f2 ob2
          have rf := hwf.rd
          simp only [rf, natsV_length]
          refine ⟨by decide, fun l hl => ?_⟩
          have htf : TxtAt Hf lt as ((beginT w).map trip) := by
            rw [beginT_trip]
            exact ht.but f2 ob2
          have h2lt : ∀ {b : Addr}, H2 b = none → lt ≠ b := fun hb => ne_of_none ht.1 hb
          have RD : RepD CM CP Hf p ⟨[], 0, w.zipIdx.map fun x => ⟨x.2, x.1, none⟩, w.length, w, [], []⟩ ⟨D.dx, lt, lw2, lm2, ll2, as, beginT w, [], [], []⟩ := RepD.new f1 htf (beginT_fst w) (beginT_inv w) f3 f4 f5 ⟨hn1, hn2, hn3⟩ ⟨h2lt hf6, h2lt hf7, h2lt hf8⟩
          have nk : ∀ {b : Addr}, H b = none → ¬ keep b := fun hb z => by
            obtain ⟨o, eo⟩ := hk _ z
            rw [hb] at eo
            cases eo
          have nk2 : ∀ {b : Addr}, H2 b = none → ¬ keep b := fun hb => nk (fresh_none s12 hb)
          have hlp : l ≠ p := fun z => by rw [z, f1] at hl; cases hl
          refine k _ l upd_same (nk2 (fresh_but f2 hlp hl)) ⟨_, RD.same (same_new hl), fun b hb => ?_⟩ (fun b o hb eb => ?_)
          · have hb := mem_own.mp hb
            dsimp only at hb
            rcases hb with h | h | h | h | h | h | h | h | h
            · rw [h]; exact hown p (mem_own.mpr (.inl rfl))
            · rw [h]; exact nk (fresh_none s1 hlt)
            · rw [h]; exact nk2 hf6
            · rw [h]; exact nk2 hf7
            · rw [h]; exact nk2 hf8
            · exact nk (fresh_none s1 (has b h))
            · exact absurd h List.not_mem_nil
            · exact absurd h List.not_mem_nil
            · exact absurd h List.not_mem_nil
          · have hbp : b ≠ p := fun z => hown p (mem_own.mpr (.inl rfl)) (z ▸ hb)
            exact same_new hl _ _ (f2 b o hbp (s12 _ _ eb))
        walk_at "rd"
        exact fin _ hf1 hf2 hf3 hf4 hf5
end
section
variable {G : Env1} {CM CC CP : Addr} {H : Hp} {p : Addr} {st : Si42.St} {D : Da} {keep : Addr → Prop}
theorem RepD.ex (R : RepD CM CP H p st D) {b : Addr} (hb : b ∈ D.own p) : ∃ o, H b = some o := by
  rcases mem_own.mp hb with h | h | h | h | h | h | h | h | h
  · exact ⟨_, h ▸ R.ob⟩
  · exact ⟨_, h ▸ R.tx.1⟩
  · exact ⟨_, h ▸ R.wt⟩
  · exact ⟨_, h ▸ R.mks⟩
  · exact ⟨_, h ▸ R.lo⟩
  · obtain ⟨x, _, e⟩ := pr_mem R.tx.2 h; exact ⟨_, e⟩
  · obtain ⟨C, dx, fs, e⟩ := R.ma_is h; exact ⟨_, e⟩
  · obtain ⟨xs, e⟩ := R.wl_is h; exact ⟨_, e⟩
  · obtain ⟨x, _, e⟩ := pr_mem R.ls h; exact ⟨_, e⟩
theorem RepD.not_own (R : RepD CM CP H p st D) {b : Addr} (hb : H b = none) : b ∉ D.own p := fun z => by
  obtain ⟨o, e⟩ := R.ex z
  rw [hb] at e
  cases e
theorem ok_initP {f : Addr} {fd : FuncData} (T : Facts G.K G.mg CM CC CP) (F : Fun G.K "__init__" "Proof.__init__" s_Proof___init__ f fd) : FnOk G.P G.w G.K G.mg G.base CX0 1 f fd ["self"] (fun vs H Q _ => ∃ (p dx : Addr), vs = [.ref p] ∧ H p = some (.ins CP dx []) ∧ ∀ H' : Hp, (∀ keep : Addr → Prop, ¬ keep p → (∀ b, keep b → (∃ o, H b = some o) ∨ H' b = none) → Rp CM CP H' p Si42.init keep) → (∃ o, H' p = some o) → (∀ b o, H b = some o → b ≠ p → H' b = some o) → Q .non H') := by
  refine F.ok sc_Proof___init__ (fun vs H Q E h => ?_) (fun cdv A outer s H vs Q E hr h => ?_)
  · obtain ⟨p, dx, rfl, _⟩ := h; rfl
  · obtain ⟨p, dx, rfl, ob, k⟩ := h
    refine ⟨_, (pss_cons (ps_fld (pv 0) (pe_lst pa_nil) rfl)
      (pss_cons (ps_fld (pv 0) (pe_lst pa_nil) rfl)
      (pss_cons (ps_fld (pv 0) (pe_lst pa_nil) rfl)
      (pss_cons (ps_fld (pv 0) pe_int rfl)
      (pss_one (ps_fld (pv 0) (pe_lst pa_nil) rfl)))))), ?_⟩
    walk_at "rd"
    refine ⟨Nat.zero_le _, fun lt hlt => ?_⟩
    have hpt : p ≠ lt := ne_of_none ob hlt
    refine (setR_of (by rw [upd_ne hpt]; exact ob) T.cl_Proof T.n_Proof_text (by decide)).mpr ?_
    walk_at "rd"
    refine ⟨Nat.zero_le _, fun lw2 hlw2 => ?_⟩
    have hpw : p ≠ lw2 := ne_of_none upd_same hlw2
    refine (setR_of (by rw [upd_ne hpw, upd_same]) T.cl_Proof T.n_Proof_weights (by show (1 : Nat) < 1000; decide)).mpr ?_
    walk_at "rd"
    refine ⟨Nat.zero_le _, fun lm2 hlm2 => ?_⟩
    have hpm : p ≠ lm2 := ne_of_none upd_same hlm2
    refine (setR_of (by rw [upd_ne hpm, upd_same]) T.cl_Proof T.n_Proof_marks (by show (2 : Nat) < 1000; decide)).mpr ?_
    walk_at "rd"
    refine (setR_of upd_same T.cl_Proof T.n_Proof_number (by show (3 : Nat) < 1000; decide)).mpr ?_
    walk_at "rd"
    refine ⟨Nat.zero_le _, fun ll2 hll2 => ?_⟩
    have hpl : p ≠ ll2 := ne_of_none upd_same hll2
    refine (setR_of (by rw [upd_ne hpl, upd_same]) T.cl_Proof T.n_Proof_losses (by show (4 : Nat) < 1000; decide)).mpr ?_
    obtain ⟨hf1, hf2, hf3, hf4, hf5, hf6, hf7, hf8, hn1, hn2, hn3, hn4⟩ := chain (o5 := .ins CP dx (pf (.ref lt) (.ref lw2) (.ref lm2) (.int (0 : Nat)) (.ref ll2))) hlw2 hlm2 hll2
    have fin : ∀ Hf : Hp, Hf p = some (HO.ins CP dx (pf (.ref lt) (.ref lw2) (.ref lm2) (.int (0 : Nat)) (.ref ll2))) → SBut p (upd H lt (.lst [])) Hf → Hf lw2 = some (.lst []) → Hf lm2 = some (.lst []) → Hf ll2 = some (.lst []) → Q .non Hf := by
      intro Hf f1 f2 f3 f4 f5
      have hlt2 : Hf lt = some (.lst []) := f2 _ _ (Ne.symm hpt) upd_same
      have h2lt : ∀ {b : Addr}, upd H lt (.lst []) b = none → lt ≠ b := fun hb => ne_of_none upd_same hb
      have RD : RepD CM CP Hf p Si42.init ⟨dx, lt, lw2, lm2, ll2, [], [], [], [], []⟩ := RepD.new f1 ⟨hlt2, .nil⟩ rfl ⟨fun x hx => absurd hx List.not_mem_nil, fun x hx => absurd hx List.not_mem_nil⟩ f3 f4 f5 ⟨hn1, hn2, hn3⟩ ⟨h2lt hf6, h2lt hf7, h2lt hf8⟩
      refine k Hf (fun keep hkp hk => ⟨_, RD, fun b hb z => ?_⟩) ⟨_, f1⟩ fun b o e hb => f2 b o hb (same_new hlt _ _ e)
      have hex : b = p ∨ (H b = none ∧ ∃ o, Hf b = some o) := by
        have hb := mem_own.mp hb
        dsimp only at hb
        rcases hb with h | h | h | h | h | h | h | h | h
        · exact .inl h
        · exact .inr ⟨h ▸ hlt, _, h ▸ hlt2⟩
        · exact .inr ⟨h ▸ fresh_none (same_new hlt) hf6, _, h ▸ f3⟩
        · exact .inr ⟨h ▸ fresh_none (same_new hlt) hf7, _, h ▸ f4⟩
        · exact .inr ⟨h ▸ fresh_none (same_new hlt) hf8, _, h ▸ f5⟩
        · exact absurd h List.not_mem_nil
        · exact absurd h List.not_mem_nil
        · exact absurd h List.not_mem_nil
        · exact absurd h List.not_mem_nil
      rcases hex with h | ⟨h1, o, h2⟩
      · exact hkp (h ▸ z)
      · rcases hk b z with ⟨o', h3⟩ | h3
        · rw [h1] at h3; cases h3
        · rw [h2] at h3; cases h3
    exact fin _ hf1 hf2 hf3 hf4 hf5
def spReader (CM CP : Addr) : Sp := fun vs H Q _ => ∃ (p : Addr) (st : Si42.St) (keep : Addr → Prop) (left n : Nat), vs = [.ref p, .int (n : Nat)] ∧ Rp CM CP H p st keep ∧ (∀ b, keep b → ∃ o, H b = some o) ∧ SInv left st ∧ After CM CP H p keep (Si42.step st (.reader n)).1 (ansOf st (.reader n)) Q
theorem ok_reader {f : Addr} {fd : FuncData} (T : Facts G.K G.mg CM CC CP) (F : Fun G.K "add_reader" "Proof.add_reader" s_Proof_add_reader f fd) : FnOk G.P G.w G.K G.mg G.base CX0 1 f fd ["self", "weight"] (spReader CM CP) := by
  refine F.ok sc_Proof_add_reader (fun vs H Q E h => ?_) (fun cdv A outer s H vs Q E hr h => ?_)
  · obtain ⟨p, st, keep, left, n, rfl, _⟩ := h; rfl
  · obtain ⟨p, st, keep, left, n, rfl, R0, hk, I, k⟩ := h
    have hR := R0
    obtain ⟨D, R, hown⟩ := R0
    refine ⟨_, (pss_cons (ps_if (PW.pt (pw_or (pt_cmpR op_lt (pv 1) pe_int (nomark _)) (pw_or1 (pt_cmpR op_gt (pv 1) (pe_gv T.g_GREATEST_WEIGHT) (nomark _))))) (pss_one (ps_ret (pe_lst (pa_cons (pe_gv T.g_UNFIT) pa_nil)))) pss_nil)
      (pss_cons (ps_if (pt_cmpR op_ge (pe_callB call_lenN (by rfl) T.b_len bt_len (pa_cons (pe_fld (pv 0) rfl) pa_nil)) (pe_gv T.g_MOST_READERS) (nomark _)) (pss_one (ps_ret (pe_lst (pa_cons (pe_gv T.g_FULL) pa_nil)))) pss_nil)
      (pss_cons (ps_expr (pe_bm PySem.F.plainAttrs_list PySem.F.slot_list_append PySem.F.type_list_append mt_append (pe_fld (pv 0) rfl) (pa_cons (pv 1) pa_nil)))
      (pss_one (ps_ret (pe_lst (pa_cons (pe_op op_sub (pe_callB call_lenN (by rfl) T.b_len bt_len (pa_cons (pe_fld (pv 0) rfl) pa_nil)) pe_int) pa_nil))))))), ?_⟩
    have rr := R.rd T
    have rl := (Ls.of R.wt).rd
    have hsz : (1000 : Nat) ≤ sizeLine := by decide
    have c1 : n < 1 ∨ 1000 < n → ∀ l, H l = none → Q (.ref l) (upd H l (.lst [.int (-1)])) := fun hh l hl => by
      have e : Si42.step st (.reader n) = (st, Si42.ok (-1)) := by
        unfold Si42.step
        dsimp only
        rw [if_pos hh]
      unfold ansOf at k
      rw [e] at k
      exact after_read k hR hk (same_new hl) hl upd_same
    walk_at "rd"
    split
    · rename_i h1
      exact ⟨by decide, c1 (.inl (by omega))⟩
    · rename_i h1
      split
      · rename_i h2
        exact ⟨by decide, c1 (.inr (by omega))⟩
      · rename_i h2
        simp only [rr, rl, natsV_length]
        walk_at "rd"
        split
        · rename_i h3
          refine ⟨by decide, fun l hl => ?_⟩
          have e : Si42.step st (.reader n) = (st, Si42.ok (-5)) := by
            unfold Si42.step
            dsimp only
            rw [if_neg (by omega), if_pos (by show 8 ≤ _; omega)]
          unfold ansOf at k
          rw [e] at k
          exact after_read k hR hk (same_new hl) hl upd_same
        · rename_i h3
          have e : Si42.step st (.reader n) = ({ st with readers := st.readers ++ [n] }, Si42.ok (st.readers.length : Int)) := by
            unfold Si42.step
            dsimp only
            rw [if_neg (by omega), if_neg (by show ¬ 8 ≤ _; omega)]
          unfold ansOf at k
          rw [e] at k
          have lw := lw_rd R.wt
          simp only [rr, lw, true_and]
          refine ⟨by rw [natsV_length]; omega, ?_⟩
          have e2 : natsV st.readers ++ [V.int (n : Nat)] = natsV (st.readers ++ [n]) := by unfold natsV; rw [List.map_append]; rfl
          rw [e2]
          have R2 := R.setW (st.readers ++ [n])
          have rr2 := R2.rd T
          have rl2 := (Ls.of R2.wt).rd
          simp only [rr2, rl2]
          walk_at "rd"
          refine ⟨by decide, fun l hl => ?_⟩
          have e3 : ((natsV (st.readers ++ [n])).length : Int) - 1 = (st.readers.length : Int) := by rw [natsV_length, List.length_append]; simp
          rw [e3]
          have hlw : D.lw ≠ l := ne_of_none upd_same hl
          have hl0 : H l = none := by rw [upd_ne (Ne.symm hlw)] at hl; exact hl
          refine k _ l upd_same (fun z => ?_) ⟨D, R2.same (same_new hl), hown⟩ (fun b o hb eb => ?_)
          · obtain ⟨o, eo⟩ := hk l z
            rw [hl0] at eo
            cases eo
          · have hbw : b ≠ D.lw := fun z => hown D.lw (mem_own.mpr (by simp)) (z ▸ hb)
            exact same_new hl _ _ (by rw [upd_ne hbw]; exact eb)
theorem marked_is (st : Si42.St) (r : Nat) (a : Si42.Ask) : Si42.marked st r a = if st.readers.length ≤ r then (st, Si42.ok (-2)) else if Si42.askOk st a = false then (st, Si42.ok (-1)) else ((put st r a).1, Si42.ok (put st r a).2) := by
  unfold Si42.marked put
  split
  · rfl
  · split
    · rfl
    · split
      · rfl
      · rfl
theorem add_end {H1 H2 : Hp} {a l : Addr} {r : Nat} {q : Si42.Ask} {Q : VK} {E : XK} (R : RepD CM CP H p st D) (hown : ∀ b ∈ D.own p, ¬ keep b) (hk : ∀ b, keep b → ∃ o, H b = some o) (s1 : Same H H1) (s2 : Same H1 H2) (ha : H1 a = none) (hl : H1 l = none) (hm : MarkAt CM H2 a l r q 0 .non) (hml : st.marks.length ≤ 60)
    (k : After CM CP H p keep (put st r q).1 [(put st r q).2] Q) : spAdd CM CP [.ref p, .ref a] H2 Q E := by
  have nk : ∀ {b : Addr}, H1 b = none → ¬ keep b := fun hb z => by
    obtain ⟨o, eo⟩ := hk _ z
    rw [fresh_none s1 hb] at eo
    cases eo
  refine ⟨p, a, l, st, keep, r, q, rfl, ⟨D, R.same (s1.trans s2), fun b hb z => ?_⟩, fun b hb => ?_, nk ha, nk hl, by omega, hm, k.from (s1.trans s2)⟩
  · rcases z with z | z | z
    · exact hown b hb z
    · exact R.not_own (fresh_none s1 ha) (z ▸ hb)
    · exact R.not_own (fresh_none s1 hl) (z ▸ hb)
  · obtain ⟨o, e⟩ := hk b hb
    exact ⟨o, s2 _ _ (s1 _ _ e)⟩
def spChange (CM CP : Addr) : Sp := fun vs H Q _ => ∃ (p lw : Addr) (st : Si42.St) (keep : Addr → Prop) (left r i j : Nat) (w : List Nat), vs = [.ref p, .int (r : Nat), .int (i : Nat), .int (j : Nat), .ref lw] ∧ Rp CM CP H p st keep ∧ (∀ b, keep b → ∃ o, H b = some o) ∧ SInv left st ∧ Ls H lw (natsV w) ∧ w.length ≤ 1000 ∧ After CM CP H p keep (Si42.step st (.change r i j w)).1 (ansOf st (.change r i j w)) Q
theorem ok_change {f : Addr} {fd : FuncData} (T : Facts G.K G.mg CM CC CP) (M_Proof_has_reader : Mt G CP "has_reader" ["self", "reader"] 1 (spHasR CM CP)) (M_Proof_change_fits : Mt G CP "change_fits" ["self", "start", "end", "words"] 2 (spChF CM CP)) (M_Proof_add_mark : Mt G CP "add_mark" ["self", "mark"] 3 (spAdd CM CP))
    (F_change_mark : Fn G "change_mark" ["reader", "start", "end", "words"] 4 (spChM CM)) (F : Fun G.K "change" "Proof.change" s_Proof_change f fd) : FnOk G.P G.w G.K G.mg G.base CX0 5 f fd ["self", "reader", "start", "end", "words"] (spChange CM CP) := by
  refine F.ok sc_Proof_change (fun vs H Q E h => ?_) (fun cdv A outer s H vs Q E hr h => ?_)
  · obtain ⟨p, lw, st, keep, left, r, i, j, w, rfl, _⟩ := h; rfl
  · obtain ⟨p, lw, st, keep, left, r, i, j, w, rfl, R0, hk, I, hw, hwl, k⟩ := h
    have hR := R0
    obtain ⟨D, R, hown⟩ := R0
    have k : After CM CP H p keep (Si42.marked st r (.change i j w)).1 ((Si42.marked st r (.change i j w)).2.v :: (Si42.marked st r (.change i j w)).2.l) Q := k
    rw [marked_is] at k
    refine ⟨_, (pss_cons (ps_if (pt_not (pt_tru (pe_mt M_Proof_has_reader hr (pv 0) (pa_cons (pv 1) pa_nil)))) (pss_one (ps_ret (pe_lst (pa_cons (pe_gv T.g_MISSING) pa_nil)))) pss_nil)
      (pss_cons (ps_if (pt_not (pt_tru (pe_mt M_Proof_change_fits hr (pv 0) (pa_cons (pv 2) (pa_cons (pv 3) (pa_cons (pv 4) pa_nil)))))) (pss_one (ps_ret (pe_lst (pa_cons (pe_gv T.g_UNFIT) pa_nil)))) pss_nil)
      (pss_one (ps_ret (pe_mt M_Proof_add_mark hr (pv 0) (pa_cons (pe_fn F_change_mark hr rfl (pa_cons (pv 1) (pa_cons (pv 2) (pa_cons (pv 3) (pa_cons (pv 4) pa_nil))))) pa_nil)))))), ?_⟩
    walk_at "rd"
    rw [R.meth]
    refine ⟨p, st, D, r, rfl, R, ?_⟩
    walk_at "rd"
    split
    · rename_i h1
      rw [if_pos (by omega)] at k
      exact ⟨by decide, fun l hl => after_read k hR hk (same_new hl) hl upd_same⟩
    · rename_i h1
      rw [if_neg (by omega)] at k
      rw [R.meth]
      refine ⟨p, st, D, i, j, lw, w, rfl, R, hw, hwl, fun H1 s1 => ?_⟩
      walk_at "rd"
      split
      · rename_i h2
        rw [if_pos h2] at k
        exact ⟨by decide, fun l hl => after_read k hR hk (s1.trans (same_new hl)) (fresh_none s1 hl) upd_same⟩
      · rename_i h2
        rw [if_neg h2] at k
        rw [(R.same s1).meth]
        exact ⟨r, i, j, lw, w, rfl, same_ls s1 hw, fun H2 a l s2 ha hl hm => add_end R hown hk s1 s2 ha hl hm I.ml k⟩
def spKeep (CM CP : Addr) : Sp := fun vs H Q _ => ∃ (p : Addr) (st : Si42.St) (keep : Addr → Prop) (left r i j : Nat), vs = [.ref p, .int (r : Nat), .int (i : Nat), .int (j : Nat)] ∧ Rp CM CP H p st keep ∧ (∀ b, keep b → ∃ o, H b = some o) ∧ SInv left st ∧ After CM CP H p keep (Si42.step st (.keep r i j)).1 (ansOf st (.keep r i j)) Q
theorem ok_keep {f : Addr} {fd : FuncData} (T : Facts G.K G.mg CM CC CP) (M_Proof_has_reader : Mt G CP "has_reader" ["self", "reader"] 1 (spHasR CM CP)) (M_Proof_has_words : Mt G CP "has_words" ["self", "start", "end"] 1 (spHasW CM CP)) (M_Proof_add_mark : Mt G CP "add_mark" ["self", "mark"] 3 (spAdd CM CP))
    (F_keep_mark : Fn G "keep_mark" ["reader", "start", "end"] 4 (spKeM CM)) (F : Fun G.K "keep" "Proof.keep" s_Proof_keep f fd) : FnOk G.P G.w G.K G.mg G.base CX0 5 f fd ["self", "reader", "start", "end"] (spKeep CM CP) := by
  refine F.ok sc_Proof_keep (fun vs H Q E h => ?_) (fun cdv A outer s H vs Q E hr h => ?_)
  · obtain ⟨p, st, keep, left, r, i, j, rfl, _⟩ := h; rfl
  · obtain ⟨p, st, keep, left, r, i, j, rfl, R0, hk, I, k⟩ := h
    have hR := R0
    obtain ⟨D, R, hown⟩ := R0
    have k : After CM CP H p keep (Si42.marked st r (.keep i j)).1 ((Si42.marked st r (.keep i j)).2.v :: (Si42.marked st r (.keep i j)).2.l) Q := k
    rw [marked_is] at k
    have s1 := Same.refl H
    refine ⟨_, (pss_cons (ps_if (pt_not (pt_tru (pe_mt M_Proof_has_reader hr (pv 0) (pa_cons (pv 1) pa_nil)))) (pss_one (ps_ret (pe_lst (pa_cons (pe_gv T.g_MISSING) pa_nil)))) pss_nil)
      (pss_cons (ps_if (pt_not (pt_tru (pe_mt M_Proof_has_words hr (pv 0) (pa_cons (pv 2) (pa_cons (pv 3) pa_nil))))) (pss_one (ps_ret (pe_lst (pa_cons (pe_gv T.g_UNFIT) pa_nil)))) pss_nil)
      (pss_one (ps_ret (pe_mt M_Proof_add_mark hr (pv 0) (pa_cons (pe_fn F_keep_mark hr rfl (pa_cons (pv 1) (pa_cons (pv 2) (pa_cons (pv 3) pa_nil)))) pa_nil)))))), ?_⟩
    walk_at "rd"
    rw [R.meth]
    refine ⟨p, st, D, r, rfl, R, ?_⟩
    walk_at "rd"
    split
    · rename_i h1
      rw [if_pos (by omega)] at k
      exact ⟨by decide, fun l hl => after_read k hR hk (same_new hl) hl upd_same⟩
    · rename_i h1
      rw [if_neg (by omega)] at k
      rw [R.meth]
      refine spHasW_eq R ?_
      have e : (decide (i < j) && decide (j ≤ st.text.length)) = Si42.askOk st (.keep i j) := rfl
      rw [e]
      walk_at "rd"
      split
      · rename_i h2
        rw [if_pos h2] at k
        exact ⟨by decide, fun l hl => after_read k hR hk (same_new hl) hl upd_same⟩
      · rename_i h2
        rw [if_neg h2] at k
        rw [R.meth]
        exact ⟨r, i, j, rfl, fun H2 a l s2 ha hl hm => add_end R hown hk s1 s2 ha hl hm I.ml k⟩
def spMove (CM CP : Addr) : Sp := fun vs H Q _ => ∃ (p : Addr) (st : Si42.St) (keep : Addr → Prop) (left r i j g : Nat), vs = [.ref p, .int (r : Nat), .int (i : Nat), .int (j : Nat), .int (g : Nat)] ∧ Rp CM CP H p st keep ∧ (∀ b, keep b → ∃ o, H b = some o) ∧ SInv left st ∧ After CM CP H p keep (Si42.step st (.move r i j g)).1 (ansOf st (.move r i j g)) Q
theorem ok_move {f : Addr} {fd : FuncData} (T : Facts G.K G.mg CM CC CP) (M_Proof_has_reader : Mt G CP "has_reader" ["self", "reader"] 1 (spHasR CM CP)) (M_Proof_move_fits : Mt G CP "move_fits" ["self", "start", "end", "gap"] 2 (spMoF CM CP)) (M_Proof_add_mark : Mt G CP "add_mark" ["self", "mark"] 3 (spAdd CM CP))
    (F_move_mark : Fn G "move_mark" ["reader", "start", "end", "gap"] 4 (spMoM CM)) (F : Fun G.K "move" "Proof.move" s_Proof_move f fd) : FnOk G.P G.w G.K G.mg G.base CX0 5 f fd ["self", "reader", "start", "end", "gap"] (spMove CM CP) := by
  refine F.ok sc_Proof_move (fun vs H Q E h => ?_) (fun cdv A outer s H vs Q E hr h => ?_)
  · obtain ⟨p, st, keep, left, r, i, j, g, rfl, _⟩ := h; rfl
  · obtain ⟨p, st, keep, left, r, i, j, g, rfl, R0, hk, I, k⟩ := h
    have hR := R0
    obtain ⟨D, R, hown⟩ := R0
    have k : After CM CP H p keep (Si42.marked st r (.move i j g)).1 ((Si42.marked st r (.move i j g)).2.v :: (Si42.marked st r (.move i j g)).2.l) Q := k
    rw [marked_is] at k
    have s1 := Same.refl H
    refine ⟨_, (pss_cons (ps_if (pt_not (pt_tru (pe_mt M_Proof_has_reader hr (pv 0) (pa_cons (pv 1) pa_nil)))) (pss_one (ps_ret (pe_lst (pa_cons (pe_gv T.g_MISSING) pa_nil)))) pss_nil)
      (pss_cons (ps_if (pt_not (pt_tru (pe_mt M_Proof_move_fits hr (pv 0) (pa_cons (pv 2) (pa_cons (pv 3) (pa_cons (pv 4) pa_nil)))))) (pss_one (ps_ret (pe_lst (pa_cons (pe_gv T.g_UNFIT) pa_nil)))) pss_nil)
      (pss_one (ps_ret (pe_mt M_Proof_add_mark hr (pv 0) (pa_cons (pe_fn F_move_mark hr rfl (pa_cons (pv 1) (pa_cons (pv 2) (pa_cons (pv 3) (pa_cons (pv 4) pa_nil))))) pa_nil)))))), ?_⟩
    walk_at "rd"
    rw [R.meth]
    refine ⟨p, st, D, r, rfl, R, ?_⟩
    walk_at "rd"
    split
    · rename_i h1
      rw [if_pos (by omega)] at k
      exact ⟨by decide, fun l hl => after_read k hR hk (same_new hl) hl upd_same⟩
    · rename_i h1
      rw [if_neg (by omega)] at k
      rw [R.meth]
      refine ⟨p, st, D, i, j, g, rfl, R, ?_⟩
      walk_at "rd"
      split
      · rename_i h2
        rw [if_pos h2] at k
        exact ⟨by decide, fun l hl => after_read k hR hk (same_new hl) hl upd_same⟩
      · rename_i h2
        rw [if_neg h2] at k
        rw [R.meth]
        exact ⟨r, i, j, g, rfl, fun H2 a l s2 ha hl hm => add_end R hown hk s1 s2 ha hl hm I.ml k⟩
def spWith (CM CP : Addr) : Sp := fun vs H Q _ => ∃ (p : Addr) (st : Si42.St) (keep : Addr → Prop) (m : Nat), vs = [.ref p, .int (m : Nat)] ∧ Rp CM CP H p st keep ∧ (∀ b, keep b → ∃ o, H b = some o) ∧ After CM CP H p keep (Si42.step st (.withdraw m)).1 (ansOf st (.withdraw m)) Q
theorem ok_with {f : Addr} {fd : FuncData} (T : Facts G.K G.mg CM CC CP) (M_Proof_has_mark : Mt G CP "has_mark" ["self", "number"] 1 (spHasM CM CP)) (M_Proof_stands_open : Mt G CP "stands_open" ["self", "number"] 1 (spOpen CM CP)) (F : Fun G.K "withdraw" "Proof.withdraw" s_Proof_withdraw f fd) : FnOk G.P G.w G.K G.mg G.base CX0 2 f fd ["self", "number"] (spWith CM CP) := by
  refine F.ok sc_Proof_withdraw (fun vs H Q E h => ?_) (fun cdv A outer s H vs Q E hr h => ?_)
  · obtain ⟨p, st, keep, m, rfl, _⟩ := h; rfl
  · obtain ⟨p, st, keep, m, rfl, R0, hk, k⟩ := h
    have hR := R0
    obtain ⟨D, R, hown⟩ := R0
    have nd := sc_Proof_withdraw.nd
    have e : Si42.step st (.withdraw m) = match st.marks[m]? with
      | none => (st, Si42.ok (-2))
      | some x => match x.stand with
        | .open_ _ => ({ st with marks := st.marks.set m { x with stand := .withdrawn } }, Si42.ok 0)
        | _ => (st, Si42.ok (-4)) := rfl
    unfold ansOf at k
    rw [e] at k
    refine ⟨_, (pss_cons (ps_if (pt_not (pt_tru (pe_mt M_Proof_has_mark hr (pv 0) (pa_cons (pv 1) pa_nil)))) (pss_one (ps_ret (pe_lst (pa_cons (pe_gv T.g_MISSING) pa_nil)))) pss_nil)
      (pss_cons (ps_if (pt_not (pt_tru (pe_mt M_Proof_stands_open hr (pv 0) (pa_cons (pv 1) pa_nil)))) (pss_one (ps_ret (pe_lst (pa_cons (pe_gv T.g_HINDERED) pa_nil)))) pss_nil)
      (pss_cons (ps_set (i := 2) nd rfl (Or.inl rfl) (pe_ix ix_lst (pe_fld (pv 0) rfl) (pv 1) (fun _ _ => rfl)))
      (pss_cons (ps_fld (pv 2) (pe_gv T.g_WITHDRAWN) rfl)
      (pss_one (ps_ret (pe_lst (pa_cons pe_int pa_nil)))))))), ?_⟩
    walk_at "rd"
    rw [R.meth]
    refine ⟨p, st, D, m, rfl, R, ?_⟩
    walk_at "rd"
    split
    · rename_i h1
      rw [List.getElem?_eq_none (by omega)] at k
      exact ⟨by decide, fun l hl => after_read k hR hk (same_new hl) hl upd_same⟩
    · rename_i h1
      have hlt : m < st.marks.length := by omega
      have hmk : st.marks[m]? = some st.marks[m] := List.getElem?_eq_getElem hlt
      rw [hmk] at k
      dsimp only at k
      rw [R.meth]
      refine ⟨p, st, D, m, _, rfl, R, hmk, ?_⟩
      walk_at "rd"
      split
      · rename_i h2
        have k : After CM CP H p keep st [-4] Q := by
          unfold isOpen at h2
          cases hs : st.marks[m].stand with
          | open_ a => rw [hs] at h2; cases h2
          | done pr => rw [hs] at k; exact k
          | lost pr => rw [hs] at k; exact k
          | withdrawn => rw [hs] at k; exact k
        exact ⟨by decide, fun l hl => after_read k hR hk (same_new hl) hl upd_same⟩
      · rename_i h2
        obtain ⟨a0, hs⟩ : ∃ a0, st.marks[m].stand = .open_ a0 := by
          unfold isOpen at h2
          cases hs : st.marks[m].stand with
          | open_ a => exact ⟨a, rfl⟩
          | done pr => rw [hs] at h2; exact absurd rfl h2
          | lost pr => rw [hs] at h2; exact absurd rfl h2
          | withdrawn => rw [hs] at h2; exact absurd rfl h2
        rw [hs] at k
        dsimp only at k
        have rr := R.rd T
        have rl := (Ls.of R.mks).rd
        obtain ⟨a, l, e1, e2, q, n', c, e3, e4⟩ := R.ms m _ hmk
        obtain ⟨dx, hdx⟩ := e3.ob
        simp only [rr, rl, ixV_nat (show (D.ma.map V.ref)[m]? = some (V.ref a) by rw [List.getElem?_map, e1]; rfl)]
        walk_at "rd"
        refine (setR_of hdx T.cl_Mark T.n_Mark_state (by show (8 : Nat) < 1000; decide)).mpr ?_
        walk_at "rd"
        have hst : StandAt CM (upd H a (.ins CM dx (mf (.int st.marks[m].reader) (.int (kdA q)) (.int (frA q)) (.int (toA q)) (gapV (Si42.puts q)) (.ref l) (.int (3 : Nat)) c))) a l { st.marks[m] with stand := .withdrawn } :=
          standAt_set (r := .non) (k := .non) (i := .non) (j := .non) (g := .non) (s := .non) e3 hdx (show stOk .withdrawn q 3 c from rfl)
        obtain ⟨h3, h4⟩ := Rp.setO hk R hown e1 e2 hst
        refine ⟨by decide, fun l2 hl2 => ?_⟩
        have hal2 : a ≠ l2 := ne_of_none upd_same hl2
        have hl20 : H l2 = none := by rw [upd_ne (Ne.symm hal2)] at hl2; exact hl2
        refine k _ l2 upd_same (fun z => ?_) (h3.same (same_new hl2)) (fun b o hb eb => same_new hl2 _ _ (h4 b o hb eb))
        obtain ⟨o, eo⟩ := hk l2 z
        rw [hl20] at eo
        cases eo
end
section
variable {G : Env1} {CM CC CP : Addr} {H : Hp} {p : Addr} {st : Si42.St} {D : Da} {keep : Addr → Prop}
theorem SInv.opn {left : Nat} (I : SInv left st) {x : Nat × Si42.Ask} (hx : x ∈ Si42.opens st.marks) : askIn st.text.length x.2 := by
  obtain ⟨m, h1, h2⟩ := askAt_some.mp (mem_opens2.mp hx)
  exact I.ma m (List.mem_of_getElem? h1) _ h2
def spClash (CM CP : Addr) : Sp := fun vs H Q _ => ∃ (p : Addr) (st : Si42.St) (keep : Addr → Prop) (left : Nat), vs = [.ref p] ∧ Rp CM CP H p st keep ∧ (∀ b, keep b → ∃ o, H b = some o) ∧ SInv left st ∧ After CM CP H p keep (Si42.step st .clashes).1 (ansOf st .clashes) Q
theorem pairsOf_len (o : List (Nat × Si42.Ask)) (h : o.length ≤ 100) : (pairsOf o).length ≤ 10000 := by
  have gen : ∀ l : List (Nat × Si42.Ask), (l.flatMap fun x => (o.filter fun y => decide (x.1 < y.1) && Si42.clash x.2 y.2).map fun y => (x.1, y.1)).length ≤ l.length * 100 := by
    intro l
    induction l with
    | nil => simp
    | cons x l ih =>
      rw [List.flatMap_cons, List.length_append, List.length_map, List.length_cons]
      have := List.length_filter_le (fun y : Nat × Si42.Ask => decide (x.1 < y.1) && Si42.clash x.2 y.2) o
      omega
  have := gen o
  unfold pairsOf
  omega
theorem ok_clash {f : Addr} {fd : FuncData} (T : Facts G.K G.mg CM CC CP) (F_told_in_pairs : Fn G "told_in_pairs" ["pairs"] 1 spTold) (F_clashing_pairs : Fn G "clashing_pairs" ["marks", "numbers"] 4 (spPairs CM)) (M_Proof_open_marks : Mt G CP "open_marks" ["self"] 2 (spOpens CM CP)) (F : Fun G.K "clashes" "Proof.clashes" s_Proof_clashes f fd) :
    FnOk G.P G.w G.K G.mg G.base CX0 5 f fd ["self"] (spClash CM CP) := by
  refine F.ok sc_Proof_clashes (fun vs H Q E h => ?_) (fun cdv A outer s H vs Q E hr h => ?_)
  · obtain ⟨p, st, keep, left, rfl, _⟩ := h; rfl
  · obtain ⟨p, st, keep, left, rfl, R0, hk, I, k⟩ := h
    have hR := R0
    obtain ⟨D, R, hown⟩ := R0
    refine ⟨_, (pss_one (ps_ret (pe_fn F_told_in_pairs hr rfl (pa_cons (pe_fn F_clashing_pairs hr rfl (pa_cons (pe_fld (pv 0) rfl) (pa_cons (pe_mt0 M_Proof_open_marks hr (pv 0)) pa_nil))) pa_nil)))), ?_⟩
    have rr := R.rd T
    walk_at "rd"
    simp only [rr]
    rw [R.meth]
    refine spOpens_to R (Nat.le_trans I.ml (by decide)) fun H1 l1 s1 hl1 h1 => ?_
    refine ⟨D.lm, l1, _, Si42.opens st.marks, rfl, (R.same s1).opn fun x hx => hx, Ls.of h1, fun x hx => (askIn_wf (I.opn hx)).1, Nat.le_trans I.ol (by decide), fun H2 l2 as s2 hl2 h2 hp => ?_⟩
    refine ⟨l2, as, _, rfl, h2, hp, Nat.le_trans (pairsOf_len _ (Nat.le_trans I.ol (by decide))) (by decide), fun H3 l3 s3 hl3 h3 => ?_⟩
    exact after_read k hR hk ((s1.trans s2).trans s3) (fresh_none (s1.trans s2) hl3) h3
theorem words_is {T : List GT} {text : Si42.Text} (h : T.map Prod.fst = text) : ((T.map trip).length : Int) :: (T.map trip).map (fun x => x.1) = (text.length : Int) :: Si42.ints (text.map fun x => x.word) := by
  rw [← h]
  unfold Si42.ints
  rw [List.length_map, List.length_map, List.map_map, List.map_map, List.map_map]
  rfl
def spShown (CM CP : Addr) : Sp := fun vs H Q _ => ∃ (p : Addr) (st : Si42.St) (keep : Addr → Prop) (left : Nat), vs = [.ref p] ∧ Rp CM CP H p st keep ∧ (∀ b, keep b → ∃ o, H b = some o) ∧ SInv left st ∧ After CM CP H p keep (Si42.step st .shown).1 (ansOf st .shown) Q
theorem ok_shown {f : Addr} {fd : FuncData} (T : Facts G.K G.mg CM CC CP) (F_told_words : Fn G "told_words" ["text"] 2 spTWords) (F : Fun G.K "shown" "Proof.shown" s_Proof_shown f fd) : FnOk G.P G.w G.K G.mg G.base CX0 3 f fd ["self"] (spShown CM CP) := by
  refine F.ok sc_Proof_shown (fun vs H Q E h => ?_) (fun cdv A outer s H vs Q E hr h => ?_)
  · obtain ⟨p, st, keep, left, rfl, _⟩ := h; rfl
  · obtain ⟨p, st, keep, left, rfl, R0, hk, I, k⟩ := h
    have hR := R0
    obtain ⟨D, R, hown⟩ := R0
    refine ⟨_, (pss_one (ps_ret (pe_fn F_told_words hr rfl (pa_cons (pe_fld (pv 0) rfl) pa_nil)))), ?_⟩
    have rr := R.rd T
    walk_at "rd"
    simp only [rr]
    refine ⟨D.lt, D.ts, _, rfl, R.tx, by rw [List.length_map, R.Tlen]; exact Nat.le_trans I.tl (by decide), fun H1 l1 s1 hl1 h1 => ?_⟩
    rw [words_is R.tT] at h1
    exact after_read k hR hk s1 hl1 h1
def spGoneM (CM CP : Addr) : Sp := fun vs H Q _ => ∃ (p : Addr) (st : Si42.St) (keep : Addr → Prop) (left : Nat), vs = [.ref p] ∧ Rp CM CP H p st keep ∧ (∀ b, keep b → ∃ o, H b = some o) ∧ SInv left st ∧ After CM CP H p keep (Si42.step st .gone).1 (ansOf st .gone) Q
theorem ok_goneM {f : Addr} {fd : FuncData} (T : Facts G.K G.mg CM CC CP) (F_told_in_pairs : Fn G "told_in_pairs" ["pairs"] 1 spTold) (F : Fun G.K "gone" "Proof.gone" s_Proof_gone f fd) : FnOk G.P G.w G.K G.mg G.base CX0 2 f fd ["self"] (spGoneM CM CP) := by
  refine F.ok sc_Proof_gone (fun vs H Q E h => ?_) (fun cdv A outer s H vs Q E hr h => ?_)
  · obtain ⟨p, st, keep, left, rfl, _⟩ := h; rfl
  · obtain ⟨p, st, keep, left, rfl, R0, hk, I, k⟩ := h
    have hR := R0
    obtain ⟨D, R, hown⟩ := R0
    refine ⟨_, (pss_one (ps_ret (pe_fn F_told_in_pairs hr rfl (pa_cons (pe_fld (pv 0) rfl) pa_nil)))), ?_⟩
    have rr := R.rd T
    walk_at "rd"
    simp only [rr]
    have hgl : (lossOf st).length ≤ 20000 := by
      have := I.gl
      have h2 : (lossOf st).length ≤ st.gone.length := List.length_filter_le _ _
      omega
    refine ⟨D.ll, D.la, _, rfl, R.lo, R.ls, hgl, fun H1 l1 s1 hl1 h1 => ?_⟩
    exact after_read k hR hk s1 hl1 h1
def spWho (CM CP : Addr) : Sp := fun vs H Q _ => ∃ (p : Addr) (st : Si42.St) (keep : Addr → Prop) (left i : Nat), vs = [.ref p, .int (i : Nat)] ∧ Rp CM CP H p st keep ∧ (∀ b, keep b → ∃ o, H b = some o) ∧ SInv left st ∧ After CM CP H p keep (Si42.step st (.who i)).1 (ansOf st (.who i)) Q
theorem ok_who {f : Addr} {fd : FuncData} (T : Facts G.K G.mg CM CC CP) (F : Fun G.K "who" "Proof.who" s_Proof_who f fd) : FnOk G.P G.w G.K G.mg G.base CX0 1 f fd ["self", "place"] (spWho CM CP) := by
  refine F.ok sc_Proof_who (fun vs H Q E h => ?_) (fun cdv A outer s H vs Q E hr h => ?_)
  · obtain ⟨p, st, keep, left, i, rfl, _⟩ := h; rfl
  · obtain ⟨p, st, keep, left, i, rfl, R0, hk, I, k⟩ := h
    have hR := R0
    obtain ⟨D, R, hown⟩ := R0
    have nd := sc_Proof_who.nd
    have e : Si42.step st (.who i) = (st, match st.text[i]? with
      | none => Si42.ok (-6)
      | some x => match x.by_ with
        | none => ⟨0, Si42.ints [x.id]⟩
        | some m => ⟨1, Si42.ints [m, (((st.marks[m]?).map fun y => y.reader).getD 0)]⟩) := rfl
    unfold ansOf at k
    rw [e] at k
    refine ⟨_, (pss_cons (ps_if (pt_cmpR op_ge (pv 1) (pe_callB call_lenN (by rfl) T.b_len bt_len (pa_cons (pe_fld (pv 0) rfl) pa_nil)) (nomark _)) (pss_one (ps_ret (pe_lst (pa_cons (pe_gv T.g_NO_WORD) pa_nil)))) pss_nil)
      (pss_cons (ps_set (i := 2) nd rfl (Or.inl rfl) (pe_ix ix_tp (pe_ix ix_lst (pe_fld (pv 0) rfl) (pv 1) (fun _ _ => rfl)) pe_int (fun _ _ => rfl)))
      (pss_cons (ps_if (pt_cmpR op_eq (pv 2) (pe_gv T.g_NOBODY) (nomark _)) (pss_one (ps_ret (pe_lst (pa_cons (pe_gv T.g_WAS_THERE) (pa_cons (pe_ix ix_tp (pe_ix ix_lst (pe_fld (pv 0) rfl) (pv 1) (fun _ _ => rfl)) pe_int (fun _ _ => rfl)) pa_nil))))) pss_nil)
      (pss_one (ps_ret (pe_lst (pa_cons (pe_gv T.g_WAS_BROUGHT) (pa_cons (pv 2) (pa_cons (pe_fld (pe_ix ix_lst (pe_fld (pv 0) rfl) (pv 2) (fun _ _ => rfl)) (by rfl)) pa_nil))))))))), ?_⟩
    have rr := R.rd T
    have rl := (Ls.of R.tx.1).rd
    walk_at "rd"
    simp only [rr, rl, List.length_map, R.tlen]
    walk_at "rd"
    split
    · rename_i h1
      rw [List.getElem?_eq_none (by omega)] at k
      exact ⟨by decide, fun l hl => after_read k hR hk (same_new hl) hl upd_same⟩
    · rename_i h1
      have hlt : i < D.T.length := by rw [R.Tlen]; omega
      have hTi : D.T[i]? = some D.T[i] := List.getElem?_eq_getElem hlt
      have htx : st.text[i]? = some D.T[i].1 := by rw [← R.tT, List.getElem?_map, hTi]; rfl
      rw [htx] at k
      dsimp only at k
      obtain ⟨a, ha, hax⟩ := pr_get R.tx.2 (show (D.T.map trip)[i]? = some (trip D.T[i]) by rw [List.getElem?_map, hTi]; rfl)
      have hia := ixV_nat (q := fun v => ixT v (.int 1) H fun x H1 => True) (show (D.ts.map V.ref)[i]? = some (V.ref a) by rw [List.getElem?_map, ha]; rfl)
      have hix : ∀ q : V → Prop, ixV (D.ts.map V.ref) (i : Int) q = q (.ref a) := fun q => ixV_nat (by rw [List.getElem?_map, ha]; rfl)
      have hit : ∀ (Q : VK) (j : Int), ixT (.ref a) (.int j) H Q = ixV (triV (trip D.T[i])) j fun v => Q v H := fun Q j => ixT_of hax
      simp only [rr, rl, hix, hit, triV, trip]
      walk_at "rd"
      have hmem : D.T[i].1 ∈ st.text := List.mem_of_getElem? htx
      cases hby : D.T[i].1.by_ with
      | none =>
        rw [hby] at k
        dsimp only at k
        rw [if_pos (show byI none = -1 from rfl)]
        simp only [rr, rl, hix, hit, triV, trip]
        walk_at "rd"
        refine ⟨by decide, fun l hl => ?_⟩
        rw [R.gi.org D.T[i] (List.mem_of_getElem? hTi) hby]
        exact after_read k hR hk (same_new hl) hl upd_same
      | some m =>
        rw [hby] at k
        dsimp only at k
        rw [if_neg (show ¬ byI (some m) = -1 from (by dsimp only [byI]; omega))]
        have hml := I.bm _ hmem m hby
        have hmk : st.marks[m]? = some st.marks[m] := List.getElem?_eq_getElem hml
        obtain ⟨b, l', e1, e2, q, n', c, e3, e4⟩ := R.ms m _ hmk
        have rm := e3.rd T
        have rlm := (Ls.of R.mks).rd
        have hbm : byI (some m) = ((m : Nat) : Int) := rfl
        simp only [rr, rlm, hbm, ixV_nat (show (D.ma.map V.ref)[m]? = some (V.ref b) by rw [List.getElem?_map, e1]; rfl), rm]
        refine ⟨by decide, fun l hl => ?_⟩
        rw [hmk] at k
        exact after_read k hR hk (same_new hl) hl upd_same
def spTell (CM CP : Addr) : Sp := fun vs H Q _ => ∃ (p : Addr) (st : Si42.St) (keep : Addr → Prop) (left m : Nat), vs = [.ref p, .int (m : Nat)] ∧ Rp CM CP H p st keep ∧ (∀ b, keep b → ∃ o, H b = some o) ∧ SInv left st ∧ After CM CP H p keep (Si42.step st (.mark m)).1 (ansOf st (.mark m)) Q
theorem ok_tell {f : Addr} {fd : FuncData} (T : Facts G.K G.mg CM CC CP) (M_Proof_has_mark : Mt G CP "has_mark" ["self", "number"] 1 (spHasM CM CP)) (F_asked_by : Fn G "asked_by" ["mark"] 1 (spAsked CM)) (F : Fun G.K "tell_mark" "Proof.tell_mark" s_Proof_tell_mark f fd) : FnOk G.P G.w G.K G.mg G.base CX0 2 f fd ["self", "number"] (spTell CM CP) := by
  refine F.ok sc_Proof_tell_mark (fun vs H Q E h => ?_) (fun cdv A outer s H vs Q E hr h => ?_)
  · obtain ⟨p, st, keep, left, m, rfl, _⟩ := h; rfl
  · obtain ⟨p, st, keep, left, m, rfl, R0, hk, I, k⟩ := h
    have hR := R0
    obtain ⟨D, R, hown⟩ := R0
    have nd := sc_Proof_tell_mark.nd
    have hsz : (1000 : Nat) ≤ sizeLine := by decide
    have e : Si42.step st (.mark m) = (st, match st.marks[m]? with
      | none => Si42.ok (-2)
      | some x => match x.stand with
        | .open_ a => ⟨0, Si42.ints (x.reader :: Si42.askOut a)⟩
        | .done p => ⟨1, Si42.ints [x.reader, p]⟩
        | .lost p => ⟨2, Si42.ints [x.reader, p]⟩
        | .withdrawn => ⟨3, Si42.ints [x.reader]⟩) := rfl
    unfold ansOf at k
    rw [e] at k
    refine ⟨_, (pss_cons (ps_if (pt_not (pt_tru (pe_mt M_Proof_has_mark hr (pv 0) (pa_cons (pv 1) pa_nil)))) (pss_one (ps_ret (pe_lst (pa_cons (pe_gv T.g_MISSING) pa_nil)))) pss_nil)
      (pss_cons (ps_set (i := 2) nd rfl (Or.inl rfl) (pe_ix ix_lst (pe_fld (pv 0) rfl) (pv 1) (fun _ _ => rfl)))
      (pss_cons (ps_set (i := 3) nd rfl (Or.inl rfl) (pe_lst (pa_cons (pe_fld (pv 2) rfl) (pa_cons (pe_fld (pv 2) rfl) pa_nil))))
      (pss_cons (ps_if (pt_cmpR op_eq (pe_fld (pv 2) rfl) (pe_gv T.g_STANDS_OPEN) (nomark _)) (pss_one (ps_ret (pe_op op_cat (pv 3) (pe_fn F_asked_by hr rfl (pa_cons (pv 2) pa_nil))))) pss_nil)
      (pss_cons (ps_if (pt_cmpR op_eq (pe_fld (pv 2) rfl) (pe_gv T.g_WITHDRAWN) (nomark _)) (pss_one (ps_ret (pv 3))) pss_nil)
      (pss_one (ps_ret (pe_op op_cat (pv 3) (pe_lst (pa_cons (pe_fld (pv 2) rfl) pa_nil)))))))))), ?_⟩
    walk_at "rd"
    rw [R.meth]
    refine ⟨p, st, D, m, rfl, R, ?_⟩
    walk_at "rd"
    split
    · rename_i h1
      rw [List.getElem?_eq_none (by omega)] at k
      exact ⟨by decide, fun l hl => after_read k hR hk (same_new hl) hl upd_same⟩
    · rename_i h1
      have hlt : m < st.marks.length := by omega
      have hmk : st.marks[m]? = some st.marks[m] := List.getElem?_eq_getElem hlt
      rw [hmk] at k
      dsimp only at k
      have rr := R.rd T
      have rl := (Ls.of R.mks).rd
      obtain ⟨a, l, e1, e2, q, n', c, e3, e4⟩ := R.ms m _ hmk
      have rm := e3.rd T
      simp only [rr, rl, ixV_nat (show (D.ma.map V.ref)[m]? = some (V.ref a) by rw [List.getElem?_map, e1]; rfl)]
      walk_at "rd"
      simp only [rm]
      walk_at "rd"
      refine ⟨by decide, fun l1 h1' => ?_⟩
      have s1 : Same H (upd H l1 (.lst [.int (n' : Nat), .int (st.marks[m].reader : Nat)])) := same_new h1'
      have rm1 := (e3.same s1).rd T
      have c1 := lw_rd (upd_same (H := H) (a := l1) (o := .lst [.int (n' : Nat), .int (st.marks[m].reader : Nat)]))
      simp only [rm1]
      walk_at "rd"
      unfold stOk at e4
      cases hs : st.marks[m].stand with
      | open_ a0 =>
        rw [hs] at k e4
        dsimp only at k e4
        obtain ⟨rfl, rfl, _⟩ := e4
        rw [if_pos (by rfl)]
        have hin := I.ma _ (List.mem_of_getElem? hmk) _ hs
        refine ⟨a, l, _, _, _, _, rfl, e3.same s1, ?_, fun H2 l2 s2 hl2 h2 => ?_⟩
        · cases q with
          | change i j w => exact Nat.le_trans hin.2.2.1 (by decide)
          | keep i j => simp [wdA]
          | move i j k => simp [wdA]
        · have c2 := lw_rd (s2 _ _ (upd_same (H := H) (a := l1) (o := .lst [.int (0 : Nat), .int (st.marks[m].reader : Nat)])))
          simp only [c2]
          have hol : (Si42.askOut q).length ≤ 24 := by
            cases q with
            | change i j w =>
              have := hin.2.2.1
              simp only [Si42.askOut, List.length_append, List.length_cons, List.length_nil]
              omega
            | keep i j => simp [Si42.askOut]
            | move i j k => simp [Si42.askOut]
          refine ⟨_, h2, by rw [natsV_length]; simp only [List.length_cons, List.length_nil]; omega, fun l3 h3 => ?_⟩
          refine after_read k hR hk ((s1.trans s2).trans (same_new h3)) (fresh_none (s1.trans s2) h3) ?_
          rw [upd_same, natsV_ints]
          rfl
      | done pr =>
        rw [hs] at k e4
        dsimp only at k e4
        obtain ⟨rfl, rfl⟩ := e4
        rw [if_neg (by decide)]
        simp only [rm1]
        walk_at "rd"
        rw [if_neg (by decide)]
        simp only [rm1]
        refine ⟨by decide, fun l2 h2 => ?_⟩
        have c2 := lw_rd (same_new (o := .lst [V.int (pr : Nat)]) h2 _ _ (upd_same (H := H) (a := l1) (o := .lst [.int (1 : Nat), .int (st.marks[m].reader : Nat)])))
        simp only [c2]
        refine ⟨_, upd_same, by show (3 : Nat) ≤ sizeLine; decide, fun l3 h3 => ?_⟩
        exact after_read k hR hk ((s1.trans (same_new h2)).trans (same_new h3)) (fresh_none (s1.trans (same_new h2)) h3) upd_same
      | lost pr =>
        rw [hs] at k e4
        dsimp only at k e4
        obtain ⟨rfl, rfl⟩ := e4
        rw [if_neg (by decide)]
        simp only [rm1]
        walk_at "rd"
        rw [if_neg (by decide)]
        simp only [rm1]
        refine ⟨by decide, fun l2 h2 => ?_⟩
        have c2 := lw_rd (same_new (o := .lst [V.int (pr : Nat)]) h2 _ _ (upd_same (H := H) (a := l1) (o := .lst [.int (2 : Nat), .int (st.marks[m].reader : Nat)])))
        simp only [c2]
        refine ⟨_, upd_same, by show (3 : Nat) ≤ sizeLine; decide, fun l3 h3 => ?_⟩
        exact after_read k hR hk ((s1.trans (same_new h2)).trans (same_new h3)) (fresh_none (s1.trans (same_new h2)) h3) upd_same
      | withdrawn =>
        rw [hs] at k e4
        dsimp only at k e4
        subst e4
        rw [if_neg (by decide)]
        simp only [rm1]
        walk_at "rd"
        rw [if_pos (by rfl)]
        exact after_read k hR hk s1 h1' upd_same
def spTest (CM CP : Addr) : Sp := fun vs H Q _ => ∃ (p ln : Addr) (st : Si42.St) (keep : Addr → Prop) (left : Nat) (l : List Nat), vs = [.ref p, .ref ln] ∧ Rp CM CP H p st keep ∧ (∀ b, keep b → ∃ o, H b = some o) ∧ SInv left st ∧ Ls H ln (natsV l) ∧ l.length ≤ 100 ∧ l.Nodup ∧ After CM CP H p keep (Si42.step st (.test l)).1 (ansOf st (.test l)) Q
theorem ok_test {f : Addr} {fd : FuncData} (T : Facts G.K G.mg CM CC CP) (M_Proof_has_mark : Mt G CP "has_mark" ["self", "number"] 1 (spHasM CM CP)) (M_Proof_stands_open : Mt G CP "stands_open" ["self", "number"] 1 (spOpen CM CP)) (F_clashing_pairs : Fn G "clashing_pairs" ["marks", "numbers"] 4 (spPairs CM))
    (F_told_words : Fn G "told_words" ["text"] 2 spTWords) (F_carry_out : Fn G "carry_out" ["text", "marks", "numbers"] 4 (spCarry CM CC)) (F : Fun G.K "test" "Proof.test" s_Proof_test f fd) : FnOk G.P G.w G.K G.mg G.base CX0 6 f fd ["self", "numbers"] (spTest CM CP) := by
  refine F.ok sc_Proof_test (fun vs H Q E h => ?_) (fun cdv A outer s H vs Q E hr h => ?_)
  · obtain ⟨p, ln, st, keep, left, l, rfl, _⟩ := h; rfl
  · obtain ⟨p, ln, st, keep, left, l, rfl, R0, hk, I, hn, hl, hnd, k⟩ := h
    have hR := R0
    obtain ⟨D, R, hown⟩ := R0
    have nd := sc_Proof_test.nd
    have e : Si42.step st (.test l) = (st, match l.mapM fun m => ((Si42.opens st.marks).find? fun x => x.1 == m) with
      | none => Si42.ok (-2)
      | some o => if (o.all fun x => Si42.apart x.2 o) = false then Si42.ok (-4) else let u := Si42.done st.text st.next o
        ⟨(u.length : Int), Si42.ints (u.map fun x => x.word)⟩) := rfl
    unfold ansOf at k
    rw [e] at k
    refine ⟨_, (pss_cons (ps_if (pt_not (pt_tru (pe_callB (call_allN rfl) (by rfl) T.b_all bt_all (pa_cons (pe_lc rfl nd (pi_list (pv 1)) (blk_mk (own := [("number", 2)]) (N := ["self", "numbers", "number"]) (sc := defScope s_Proof_test) rfl rfl (by decide +kernel)) (fun _ _ _ _ _ => (pg_name (i := 2) nd rfl (Or.inl rfl))) (fun _ _ _ _ _ => pts_nil) (fun _ _ _ _ _ => (pe_and (pe_mt M_Proof_has_mark hr (pv 0) (pa_cons (pv 2) pa_nil)) (pe_one (pe_mt M_Proof_stands_open hr (pv 0) (pa_cons (pv 2) pa_nil)))))) pa_nil)))) (pss_one (ps_ret (pe_lst (pa_cons (pe_gv T.g_MISSING) pa_nil)))) pss_nil)
      (pss_cons (ps_if (pt_cmpR op_gt (pe_callB call_lenN (by rfl) T.b_len bt_len (pa_cons (pe_fn F_clashing_pairs hr rfl (pa_cons (pe_fld (pv 0) rfl) (pa_cons (pv 1) pa_nil))) pa_nil)) pe_int (nomark _)) (pss_one (ps_ret (pe_lst (pa_cons (pe_gv T.g_HINDERED) pa_nil)))) pss_nil)
      (pss_one (ps_ret (pe_fn F_told_words hr rfl (pa_cons (pe_fld (pe_fn F_carry_out hr rfl (pa_cons (pe_fld (pv 0) rfl) (pa_cons (pe_fld (pv 0) rfl) (pa_cons (pv 1) pa_nil)))) (by rfl)) pa_nil)))))), ?_⟩
    walk_at "rd"
    refine lc_pureL (a := ln) (xs := l) (g := fun (n : Nat) => V.int n) (fun _ => true) (fun n => .bl (askAt st.marks n).isSome) (fun B h => ⟨_, rfl, h⟩) hn (Nat.le_trans hl (by decide)) (fun x => rfl) (fun j x H' B _ _ h => h) (fun j n H' B hy _ sm h => ?_) (fun D2 hD => ?_)
    · have R' := R.same sm
      walk_at "rd"
      simp only [wipe, List.set_cons_zero, List.set_cons_succ]
      walk_at "rd"
      rw [R'.meth]
      refine ⟨p, st, D, n, rfl, R', ?_⟩
      walk_at "rd"
      split
      · rename_i hlt
        rw [R'.meth]
        refine ⟨p, st, D, n, _, rfl, R', List.getElem?_eq_getElem hlt, ?_⟩
        have e : isOpen st.marks[n] = (askAt st.marks n).isSome := by
          unfold askAt isOpen
          rw [List.getElem?_eq_getElem hlt]
          dsimp only
          cases st.marks[n].stand <;> rfl
        rw [e]
        exact h
      · rename_i hlt
        have e : (askAt st.marks n).isSome = false := by
          unfold askAt
          rw [List.getElem?_eq_none (by omega)]
          rfl
        rw [e] at h
        exact h
    · have s1 : Same H (upd H D2 (.lst ((l.filter fun _ => true).map fun n => V.bl (askAt st.marks n).isSome))) := same_new hD
      obtain ⟨H1, e1⟩ : ∃ H1, H1 = upd H D2 (.lst ((l.filter fun _ => true).map fun n => V.bl (askAt st.marks n).isSome)) := ⟨_, rfl⟩
      have h1 : H1 D2 = some (.lst ((l.map fun n => (askAt st.marks n).isSome).map V.bl)) := by
        rw [e1, upd_same, List.filter_eq_self.mpr (fun _ _ => rfl), List.map_map]
        rfl
      rw [← e1] at s1 ⊢
      refine ⟨D2, _, rfl, Ls.of h1, ?_⟩
      rw [List.all_map]
      walk_at "rd"
      have ea : l.all (id ∘ fun n => (askAt st.marks n).isSome) = l.all fun n => (askAt st.marks n).isSome := rfl
      rw [ea]
      split
      · rename_i h2
        rw [(mapM_none st.marks l).mpr h2] at k
        exact ⟨by decide, fun l2 hl2 => after_read k hR hk (s1.trans (same_new hl2)) (fresh_none s1 hl2) upd_same⟩
      · rename_i h2
        cases ho : (l.mapM fun m => ((Si42.opens st.marks).find? fun x => x.1 == m)) with
        | none => exact absurd ((mapM_none st.marks l).mp ho) h2
        | some o =>
          rw [ho] at k
          dsimp only at k
          obtain ⟨hof, hop⟩ := mapM_some st.marks ho
          have R1 := R.same s1
          have rr := R1.rd T
          have hol : o.length ≤ 100 := by rw [← List.length_map (f := Prod.fst), hof]; exact hl
          have hnum : Ls H ln (numsV o) := by rw [nums_nats, hof]; exact hn
          have huq : ∀ x ∈ o, ∀ y ∈ o, x.1 = y.1 → x = y := fun x hx y hy e => opens_uniq (hop x hx) (hop y hy) e
          simp only [rr]
          refine ⟨D.lm, ln, _, o, rfl, R1.opn hop, same_ls s1 hnum, fun x hx => (askIn_wf (I.opn (hop x hx))).1, hol, fun H2 l2 as s2 hl2 h2' hp => ?_⟩
          have r2 := (Ls.of h2').rd
          have hasl : as.length = (pairsOf o).length := Paired.length hp
          walk_at "rd"
          simp only [r2, List.length_map, hasl]
          walk_at "rd"
          have s12 := s1.trans s2
          split
          · rename_i h3
            have h4 : (o.all fun x => Si42.apart x.2 o) = false := by
              cases e : (o.all fun x => Si42.apart x.2 o) with
              | false => rfl
              | true =>
                rw [(pairs_nil huq).mpr e] at h3
                exact absurd h3 (by decide)
            rw [if_pos h4] at k
            exact ⟨by decide, fun l3 hl3 => after_read k hR hk (s12.trans (same_new hl3)) (fresh_none s12 hl3) upd_same⟩
          · rename_i h3
            have h4 : (o.all fun x => Si42.apart x.2 o) = true := by
              refine (pairs_nil huq).mp ?_
              exact List.length_eq_zero_iff.mp (by omega)
            rw [if_neg (by rw [h4]; decide)] at k
            have R2 := R.same s12
            have rr2 := R2.rd T
            simp only [rr2]
            refine ⟨D.lt, D.lm, ln, D.ts, D.T.map trip, _, o, rfl, R2.tx, R2.opn hop, same_ls s12 hnum, fun x hx => by rw [List.length_map, R.Tlen]; exact I.opn (hop x hx), hol, by rw [List.length_map, R.Tlen]; exact I.tl, fun H3 c lt' lg bs s3 hc hlt' hlg hcar hbs => ?_⟩
            simp only [hcar.rd T]
            refine ⟨lt', bs, _, rfl, hcar.tx, ?_, fun H4 l4 s4 hl4 h4' => ?_⟩
            · have h5 := pOut_len (P := D.T.map trip) (o := o) (fun x hx => by rw [List.length_map, R.Tlen]; exact I.opn (hop x hx)) (by rw [List.length_map, R.Tlen]; exact I.tl) (D.T.map trip).length
              have h6 := pPut_len (P := D.T.map trip) (o := o) (fun x hx => by rw [List.length_map, R.Tlen]; exact I.opn (hop x hx)) (by rw [List.length_map, R.Tlen]; exact I.tl) (D.T.map trip).length
              have h7 : (D.T.map trip).length ≤ 100 := by rw [List.length_map, R.Tlen]; exact I.tl
              unfold pDone
              rw [List.length_append]
              omega
            · rw [← gDone_trip D.T st.next o, words_is (gDone_fst D.T st.next o), R.tT] at h4'
              exact after_read k hR hk ((s12.trans s3).trans s4) (fresh_none (s12.trans s3) hl4) h4'
end
section
variable {G : Env1} {CM CC CP : Addr} {H : Hp} {p : Addr} {st : Si42.St} {D : Da} {keep : Addr → Prop}
abbrev rdOf (st : Si42.St) : Nat → Nat := fun k => ((st.marks[k]?).map fun m => m.reader).getD 0
theorem wOf_is (st : Si42.St) (o : List (Nat × Si42.Ask)) : wOf st.readers (rdOf st) o = Si42.weightOf st.readers st.marks o := rfl
theorem RepD.any (R : RepD CM CP H p st D) : ∀ (l : List (Nat × Si42.Ask)), (∀ x ∈ l, x.1 < st.marks.length) → ∃ o : List (Nat × Si42.Ask), o.map Prod.fst = l.map Prod.fst ∧ ∀ x ∈ o, ∃ a w s c, D.ma[x.1]? = some a ∧ MarkAt CM H a w (rdOf st x.1) x.2 s c
  | [], _ => ⟨[], rfl, fun x hx => absurd hx List.not_mem_nil⟩
  | x :: l, h => by
    obtain ⟨o, h1, h2⟩ := RepD.any R l fun y hy => h y (List.mem_cons_of_mem _ hy)
    have hx := h x List.mem_cons_self
    obtain ⟨a, w, e1, e2, q, n, c, e3, e4⟩ := R.ms x.1 _ (List.getElem?_eq_getElem hx)
    refine ⟨(x.1, q) :: o, by rw [List.map_cons, List.map_cons, h1], fun y hy => ?_⟩
    rcases List.mem_cons.mp hy with rfl | hy
    · refine ⟨a, w, n, c, e1, ?_⟩
      show MarkAt CM H a w (((st.marks[x.1]?).map fun m => m.reader).getD 0) q n c
      rw [List.getElem?_eq_getElem hx]
      exact e3
    · exact h2 y hy
theorem markThen_is {T : List GT} {left : Nat} (I : SInv left st) (hT : T.map Prod.fst = st.text) (Gi : GInv T) {k : Nat} {m : Si42.Mark} {q : Si42.Ask} (hm : st.marks[k]? = some m) (hq : m.stand = .open_ q) :
    markThen st k m = if k ∈ (Si42.chosen st.readers st.marks).map Prod.fst then { m with stand := .done st.proof } else { m with stand := folSt (T.map trip) (pDone (T.map trip) (Si42.chosen st.readers st.marks)) (gapsOf (T.map trip) (Si42.chosen st.readers st.marks)) q st.proof } := by
  have hsub : ∀ x ∈ Si42.chosen st.readers st.marks, x ∈ Si42.opens st.marks := fun x hx => (sets_sub (chosen_mem st.readers st.marks)).subset hx
  have hTl : T.length = st.text.length := by rw [← hT, List.length_map]
  unfold markThen
  rw [hq]
  dsimp only
  have hany : ((Si42.chosen st.readers st.marks).any fun y => y.1 == k) = true ↔ k ∈ (Si42.chosen st.readers st.marks).map Prod.fst := by
    rw [List.any_eq_true, List.mem_map]
    constructor
    · rintro ⟨x, h1, h2⟩
      exact ⟨x, h1, eq_of_beq h2⟩
    · rintro ⟨x, h1, h2⟩
      exact ⟨x, h1, by simpa using h2⟩
  by_cases hc : k ∈ (Si42.chosen st.readers st.marks).map Prod.fst
  · rw [if_pos (hany.mpr hc), if_pos hc]
  · rw [if_neg fun z => hc (hany.mp z), if_neg hc]
    have hfol := follow_is (T := T) (n := st.next) (l := Si42.chosen st.readers st.marks) Gi (fun x hx y hy e => opens_uniq (hsub x hx) (hsub y hy) e)
      (fun x hx m' hm' y hy e => by
        have hxt : x.1 ∈ st.text := by rw [← hT]; exact List.mem_map.mpr ⟨x, hx, rfl⟩
        obtain ⟨mk, h1, h2⟩ := askAt_some.mp (mem_opens2.mp (hsub y hy))
        have := I.ge x.1 hxt m' mk hm' (e ▸ h1)
        unfold isOpen at this
        rw [h2] at this
        cases this)
      (by rw [hT]; exact I.nd) (fun x hx => I.il x.1 (by rw [← hT]; exact List.mem_map.mpr ⟨x, hx, rfl⟩)) ((sets_free (chosen_mem st.readers st.marks)).once)
      (inside_of fun x hx => by rw [hTl]; exact I.opn (hsub x (once_sub hx))) (q := q) (by rw [hTl]; exact I.ma m (List.mem_of_getElem? hm) q hq)
    rw [hT] at hfol
    unfold folSt
    rw [← hfol]
    all_goals (cases Si42.askThen st.text (Si42.done st.text st.next (Si42.chosen st.readers st.marks)) (Si42.chosen st.readers st.marks) q <;> rfl)
def spCarryM (CM CP : Addr) : Sp := fun vs H Q _ => ∃ (p : Addr) (st : Si42.St) (keep : Addr → Prop) (left : Nat), vs = [.ref p] ∧ Rp CM CP H p st keep ∧ (∀ b, keep b → ∃ o, H b = some o) ∧ SInv left st ∧ After CM CP H p keep (Si42.step st .carry).1 (ansOf st .carry) Q
theorem ok_carryM {f : Addr} {fd : FuncData} (T : Facts G.K G.mg CM CC CP) (M_Proof_open_marks : Mt G CP "open_marks" ["self"] 2 (spOpens CM CP)) (F_weightiest : Fn G "weightiest" ["marks", "weights", "numbers"] 6 (spBest CM)) (F_carry_out : Fn G "carry_out" ["text", "marks", "numbers"] 4 (spCarry CM CC))
    (F_gone_words : Fn G "gone_words" ["text", "marks", "numbers"] 2 (spGone CM)) (M_Proof_close_mark : Mt G CP "close_mark" ["self", "number", "state"] 1 (spClose CM CP)) (M_Proof_follow_mark : Mt G CP "follow_mark" ["self", "number", "carried"] 6 (spFolM CM CC CP)) (F_weight_of : Fn G "weight_of" ["marks", "weights", "numbers"] 1 (spWeight CM))
    (F : Fun G.K "carry" "Proof.carry" s_Proof_carry f fd) : FnOk G.P G.w G.K G.mg G.base CX0 8 f fd ["self"] (spCarryM CM CP) := by
  refine F.ok sc_Proof_carry (fun vs H Q E h => ?_) (fun cdv A outer s H vs Q E hr h => ?_)
  · obtain ⟨p, st, keep, left, rfl, _⟩ := h; rfl
  · obtain ⟨p, st, keep, left, rfl, R0, hk, I, k⟩ := h
    have hR := R0
    obtain ⟨D, R, hown⟩ := R0
    have nd := sc_Proof_carry.nd
    have hsz : (1000000 : Nat) ≤ sizeLine := by decide
    obtain ⟨l, el⟩ : ∃ l, l = Si42.chosen st.readers st.marks := ⟨_, rfl⟩
    have hsub : ∀ x ∈ l, x ∈ Si42.opens st.marks := fun x hx => (sets_sub (chosen_mem st.readers st.marks)).subset (el ▸ hx)
    have hll : l.length ≤ 10 := by
      have h1 := (sets_sub (chosen_mem st.readers st.marks)).length_le
      rw [← el] at h1
      exact Nat.le_trans h1 I.ol
    have hF : Free l := el ▸ sets_free (chosen_mem st.readers st.marks)
    have hrd : ∀ x ∈ Si42.opens st.marks, rdOf st x.1 < st.readers.length := fun x hx => by
      obtain ⟨m, h1, h2⟩ := askAt_some.mp (mem_opens2.mp hx)
      show ((st.marks[x.1]?).map fun m => m.reader).getD 0 < _
      rw [h1]
      exact I.mr m (List.mem_of_getElem? h1)
    have hpk : pick (wOf st.readers (rdOf st)) (Si42.sets (Si42.opens st.marks)) [] = l := by
      rw [el, chosen_pick fun x hx => ?_]
      · rfl
      · have h1 := hrd x hx
        have h2 : st.readers.getD (rdOf st x.1) 0 = st.readers[rdOf st x.1] := by simp [List.getD_eq_getElem?_getD, List.getElem?_eq_getElem h1]
        show 1 ≤ st.readers.getD (rdOf st x.1) 0
        rw [h2]
        exact (I.rw _ (List.getElem_mem h1)).1
    have hTl : (D.T.map trip).length = st.text.length := by rw [List.length_map, R.Tlen]
    have htl : (D.T.map trip).length ≤ 100 := by rw [hTl]; exact I.tl
    have hin : ∀ x ∈ l, askIn (D.T.map trip).length x.2 := fun x hx => by rw [hTl]; exact I.opn (hsub x hx)
    refine ⟨_, (pss_cons (ps_set (i := 1) nd rfl (Or.inl rfl) (pe_fn F_weightiest hr rfl (pa_cons (pe_fld (pv 0) rfl) (pa_cons (pe_fld (pv 0) rfl) (pa_cons (pe_mt0 M_Proof_open_marks hr (pv 0)) pa_nil)))))
      (pss_cons (ps_set (i := 2) nd rfl (Or.inl rfl) (pe_fn F_carry_out hr rfl (pa_cons (pe_fld (pv 0) rfl) (pa_cons (pe_fld (pv 0) rfl) (pa_cons (pv 1) pa_nil)))))
      (pss_cons (ps_if (pt_cmpR op_gt (pe_callB call_lenN (by rfl) T.b_len bt_len (pa_cons (pe_fld (pv 2) rfl) pa_nil)) (pe_gv T.g_MOST_WORDS) (nomark _)) (pss_one (ps_ret (pe_lst (pa_cons (pe_gv T.g_FULL) pa_nil)))) pss_nil)
      (pss_cons (ps_expr (pe_bm PySem.F.plainAttrs_list PySem.F.slot_list_extend PySem.F.type_list_extend mt_extend (pe_fld (pv 0) rfl) (pa_cons (pe_fn F_gone_words hr rfl (pa_cons (pe_fld (pv 0) rfl) (pa_cons (pe_fld (pv 0) rfl) (pa_cons (pv 1) pa_nil)))) pa_nil)))
      (pss_cons (ps_for PassesOwn.never rfl (pi_list (pe_mt0 M_Proof_open_marks hr (pv 0))) (pg_name (i := 3) nd rfl (Or.inl rfl))
      (pss_one (ps_if (pt_cmpR op_inI (pv 3) (pv 1) (by with_unfolding_all rfl)) (pss_one (ps_expr (pe_mt M_Proof_close_mark hr (pv 0) (pa_cons (pv 3) (pa_cons (pe_gv T.g_CARRIED_OUT) pa_nil))))) (pss_one (ps_expr (pe_mt M_Proof_follow_mark hr (pv 0) (pa_cons (pv 3) (pa_cons (pv 2) pa_nil))))))))
      (pss_cons (ps_fld (pv 0) (pe_fld (pv 2) rfl) rfl)
      (pss_cons (ps_fldaug (pv 0) pe_int in_add)
      (pss_one (ps_ret (pe_op op_cat (pe_lst (pa_cons (pe_fn F_weight_of hr rfl (pa_cons (pe_fld (pv 0) rfl) (pa_cons (pe_fld (pv 0) rfl) (pa_cons (pv 1) pa_nil)))) (pa_cons (pe_callB call_lenN (by rfl) T.b_len bt_len (pa_cons (pv 1) pa_nil)) pa_nil))) (pv 1))))))))))), ?_⟩
    have rr := R.rd T
    walk_at "rd"
    simp only [rr]
    rw [R.meth]
    refine spOpens_to R (Nat.le_trans I.ml (by decide)) fun H1 l1 s1 hl1 h1 => ?_
    have R1 := R.same s1
    refine ⟨D.lm, D.lw, l1, rdOf st, st.readers, Si42.opens st.marks, rfl, R1.opn fun x hx => hx, Ls.of R1.wt, Ls.of h1, fun x hx => (askIn_wf (I.opn hx)).1, hrd, I.ol, fun H2 lc s2 hlc h2 => ?_⟩
    rw [hpk] at h2
    have s12 := s1.trans s2
    have R2 := R.same s12
    have rr2 := R2.rd T
    walk_at "rd"
    simp only [rr2]
    refine ⟨D.lt, D.lm, lc, D.ts, D.T.map trip, rdOf st, l, rfl, R2.tx, R2.opn hsub, Ls.of h2, hin, Nat.le_trans hll (by decide), htl, fun H3 c lt' lg bs s3 hc hlt' hlg hcar hbs => ?_⟩
    have s13 := s12.trans s3
    have R3 := R.same s13
    have rr3 := R3.rd T
    have rc3 := hcar.rd T
    have rt3 := (Ls.of hcar.tx.1).rd
    walk_at "rd"
    simp only [rc3, rt3]
    walk_at "rd"
    have hul : bs.length = (Si42.done st.text st.next l).length := by
      rw [Tups.length hcar.tx.2, pDone_length D.T st.next l, R.tT]
    have ecar : (Si42.carried st).text = Si42.done st.text st.next l := by rw [el]; rfl
    have estep : Si42.step st .carry = if Si42.WORDS < (Si42.carried st).text.length then (st, Si42.ok (-5)) else (Si42.carried st, ⟨(Si42.weightOf st.readers st.marks l : Int), Si42.ints (l.length :: l.map fun x => x.1)⟩) := by rw [el]; rfl
    unfold ansOf at k
    rw [estep, ecar] at k
    split
    · rename_i hbig
      rw [if_pos (by show 100 < _; rw [List.length_map] at hbig; omega)] at k
      exact ⟨by decide, fun l2 hl2 => after_read k hR hk (s13.trans (same_new hl2)) (fresh_none s13 hl2) upd_same⟩
    · rename_i hbig
      have hsm : (Si42.done st.text st.next l).length ≤ 100 := by rw [List.length_map] at hbig; omega
      rw [if_neg (by show ¬ 100 < _; omega)] at k
      simp only [rr3]
      have lo3 := lw_rd R3.lo
      simp only [lo3, true_and]
      refine ⟨D.lt, D.lm, lc, D.ts, D.T, rdOf st, l, rfl, R3.tx, R3.opn hsub, Ls.of (s3 _ _ h2), fun x hx => by have := hin x hx; rw [List.length_map] at this; exact this, Nat.le_trans hll (by decide), by rw [List.length_map] at htl; exact htl, fun H4 lq la2 s4 hlq h4 hla hlan => ?_⟩
      have s14 := s13.trans s4
      have R4 := R.same s14
      have lo4 := lw_rd R4.lo
      simp only [lo4]
      have hlaL : la2.length ≤ 100 := by
        rw [Paired.length hla]
        refine Nat.le_trans (List.length_filterMap_le _ _) ?_
        rw [List.length_zipIdx]
        rw [List.length_map] at htl
        exact htl
      have hDla : D.la.length ≤ 10000 := by
        rw [Paired.length R.ls]
        refine Nat.le_trans (List.length_filter_le _ _) ?_
        have := I.gl
        omega
      refine ⟨_, h4, by rw [List.length_map, List.length_map]; omega, ?_⟩
      obtain ⟨gone', eg⟩ : ∃ g, g = (Si42.carried st).gone := ⟨_, rfl⟩
      have hgone : gone'.filter (fun x => decide (x.1 < st.first.length)) = lossOf st ++ pGone D.T l := by
        rw [eg]
        show (st.gone ++ st.text.zipIdx.filterMap _).filter _ = _
        rw [List.filter_append, gone_is R.tT R.gi (el ▸ hF) I.bn, ← el]
        rfl
      have R5 : RepD CM CP (upd H4 D.ll (.lst ((D.la ++ la2).map V.ref))) p { st with gone := gone' } { D with la := D.la ++ la2 } := by
        refine R4.setL ?_
        rw [hgone]
        exact pr_app R4.ls hla
      have e5 : D.la.map V.ref ++ la2.map V.ref = (D.la ++ la2).map V.ref := by rw [List.map_append]
      rw [e5]
      have nown : ∀ {b : Addr}, H b = none → b ∉ D.own p := fun hb => R.not_own hb
      have nll : ∀ {b : Addr}, H b = none → b ≠ D.ll := fun hb z => nown hb (mem_own.mpr (by simp [z]))
      have s45 : ∀ b o, H4 b = some o → b ≠ D.ll → upd H4 D.ll (.lst ((D.la ++ la2).map V.ref)) b = some o := fun b o e hb => by rw [upd_ne hb]; exact e
      obtain ⟨H5, e5'⟩ : ∃ H5, H5 = upd H4 D.ll (.lst ((D.la ++ la2).map V.ref)) := ⟨_, rfl⟩
      rw [← e5'] at R5 s45 ⊢
      have tup_ll : ∀ {b : Addr} {xs : List V}, H4 b = some (.tup xs) → b ≠ D.ll := fun e => ne_of e R4.lo (by intro z; cases z)
      have h5c : H5 lc = some (.lst (numsV l)) := s45 _ _ (s4 _ _ (s3 _ _ h2)) (nll (fresh_none s1 hlc))
      have hcar5 : CarAt CC H5 c lt' lg bs (pDone (D.T.map trip) l) (gapsOf (D.T.map trip) l) := by
        have hc4 := hcar.same s4
        obtain ⟨⟨dx, a1⟩, ⟨a2, a3⟩, a4⟩ := hc4
        exact ⟨⟨dx, s45 _ _ a1 (nll (fresh_none s12 hc))⟩, ⟨s45 _ _ a2 (nll (fresh_none s12 hlt')), pr_on a3 fun b _ x e => s45 _ _ e (tup_ll e)⟩, s45 _ _ a4 (nll (fresh_none s12 hlg))⟩
      walk_at "rf"
      rw [R5.meth]
      refine spOpens_to R5 (Nat.le_trans I.ml (by decide)) fun H6 l6 s6 hl6 h6 => ?_
      have R6 := R5.same s6
      have h6c := s6 _ _ h5c
      have hcar6 := hcar5.same s6
      have h6l : H6 l6 = some (.lst (numsV (Si42.opens st.marks))) := h6
      have keepC : ∀ H' : Hp, (∀ b o, H6 b = some o → b ∉ D.ma → b ≠ D.lm → H' b = some o) → CarAt CC H' c lt' lg bs (pDone (D.T.map trip) l) (gapsOf (D.T.map trip) l) ∧ H' lc = some (.lst (numsV l)) ∧ H' l6 = some (.lst (numsV (Si42.opens st.marks))) := fun H' hfr => by
        have nma : ∀ {b : Addr}, H b = none → b ∉ D.ma ∧ b ≠ D.lm := fun hb => ⟨fun z => nown hb (mem_own.mpr (by simp [z])), fun z => nown hb (mem_own.mpr (by simp [z]))⟩
        have tma : ∀ {b : Addr} {xs : List V}, H6 b = some (.tup xs) → b ∉ D.ma ∧ b ≠ D.lm := fun e => by
          refine ⟨fun z => ?_, ne_of e R6.mks (by intro z; cases z)⟩
          obtain ⟨C, dx, fs, e'⟩ := R6.ma_is z
          rw [e] at e'
          cases e'
        have lma : ∀ {b : Addr} {xs : List V}, H6 b = some (.lst xs) → b ∉ D.ma := fun e z => by
          obtain ⟨C, dx, fs, e'⟩ := R6.ma_is z
          rw [e] at e'
          cases e'
        obtain ⟨⟨dx, a1⟩, ⟨a2, a3⟩, a4⟩ := hcar6
        have n1 := nma (fresh_none s12 hc)
        have n2 := nma (fresh_none s12 hlt')
        have n3 := nma (fresh_none s12 hlg)
        have n4 := nma (fresh_none s1 hlc)
        refine ⟨⟨⟨dx, hfr _ _ a1 n1.1 n1.2⟩, ⟨hfr _ _ a2 n2.1 n2.2, pr_on a3 fun b _ x e => hfr _ _ e (tma e).1 (tma e).2⟩, hfr _ _ a4 n3.1 n3.2⟩, hfr _ _ h6c n4.1 n4.2, hfr _ _ h6l (lma h6l) fun z => ?_⟩
        have : H5 D.lm = some _ := R5.mks
        rw [← z, hl6] at this
        cases this
      let I1 : Nat → L2.St → Hp → Prop := fun i σ H' => ∃ (ma wl : List Addr) (v3 : Option V), σ = [some (.ref p), some (.ref lc), some (.ref c), v3] ∧ RepD CM CP H' p { st with gone := gone', marks := marksAfter st (((Si42.opens st.marks).take i).map Prod.fst) } { D with la := D.la ++ la2, ma := ma, wl := wl } ∧ (∀ a ∈ ma, a ∈ D.ma ∨ H6 a = none) ∧ (∀ a ∈ wl, a ∈ D.wl ∨ a ∈ D.ma ∨ H6 a = none) ∧ (∀ b o, H6 b = some o → b ∉ D.ma → b ≠ D.lm → H' b = some o)
      have old : ∀ (H' : Hp) (ma wl : List Addr) (st' : Si42.St), RepD CM CP H' p st' { D with la := D.la ++ la2, ma := ma, wl := wl } → (∀ b o, H6 b = some o → b ∉ D.ma → b ≠ D.lm → H' b = some o) → ∀ a, H' a = none → a ∉ D.ma → H6 a = none := fun H' ma wl st' R' hfr a ha hn => by
        cases e : H6 a with
        | none => rfl
        | some o =>
          by_cases hal : a = D.lm
          · have : H' D.lm = some _ := R'.mks
            rw [← hal, ha] at this
            cases this
          · rw [hfr a o e hn hal] at ha
            cases ha
      walk_at "rf"
      refine ⟨⟨_, (Ls.of h6l).sq⟩, for_mapL (xs := Si42.opens st.marks) (f := fun x => V.int (x.1 : Nat)) I1 ⟨D.ma, D.wl, none, rfl, ?_, fun a ha => .inl ha, fun a ha => .inl ha, fun b o e _ _ => e⟩ ?_ ?_ ?_⟩
      · rw [List.take_zero]
        show RepD CM CP H6 p { st with gone := gone', marks := marksAfter st [] } _
        rw [after_nil]
        exact R6
      · rintro i σ1 H7 _ ⟨ma, wl, v3, _, _, _, _, hfr⟩
        exact (Ls.of (keepC H7 hfr).2.2).sq
      · rintro i x σ1 H7 hx ⟨ma, wl, v3, rfl, R7, hma, hwl, hfr⟩
        obtain ⟨hcar7, h7c, _⟩ := keepC H7 hfr
        have hxo : x ∈ Si42.opens st.marks := List.mem_of_getElem? hx
        have hil : i < (Si42.opens st.marks).length := (List.getElem?_eq_some_iff.mp hx).1
        obtain ⟨m, hm, hq⟩ := askAt_some.mp (mem_opens2.mp hxo)
        have hkn : x.1 ∉ ((Si42.opens st.marks).take i).map Prod.fst := fun z => by
          have hnd := opens_nd st.marks
          obtain ⟨y, hy1, hy2⟩ := List.mem_map.mp z
          obtain ⟨j, hj⟩ := List.getElem?_of_mem hy1
          have hji : j < i := by
            have := (List.getElem?_eq_some_iff.mp hj).1
            rw [List.length_take] at this
            omega
          have hj2 : (Si42.opens st.marks)[j]? = some y := by
            rw [List.getElem?_take] at hj
            rw [if_pos hji] at hj
            exact hj
          have e1 : ((Si42.opens st.marks).map Prod.fst)[j]? = ((Si42.opens st.marks).map Prod.fst)[i]? := by
            rw [List.getElem?_map, List.getElem?_map, hj2, hx]
            exact congrArg some hy2
          have := (List.getElem?_inj (by rw [List.length_map]; omega) hnd).mp e1
          omega
        have hm7 : (marksAfter st (((Si42.opens st.marks).take i).map Prod.fst))[x.1]? = some m := by rw [after_same hkn]; exact hm
        have hnext : marksAfter st (((Si42.opens st.marks).take (i + 1)).map Prod.fst) = (marksAfter st (((Si42.opens st.marks).take i).map Prod.fst)).set x.1 (markThen st x.1 m) := by
          rw [take_snoc hx, List.map_append]
          exact after_step hm
        have hmt := markThen_is I R.tT R.gi hm hq
        rw [← el] at hmt
        walk_at "rd"
        refine ⟨x.1, lc, l.map Prod.fst, rfl, rfl, Ls.of (by rw [← nums_nats]; exact h7c), ?_⟩
        walk_at "rd"
        split
        · rename_i hin'
          rw [if_pos hin'] at hmt
          rw [R7.meth]
          refine ⟨p, _, _, x.1, 1, m, rfl, R7, hm7, .inl rfl, fun H8 R8 hf8 => ?_⟩
          refine ⟨ma, wl, _, rfl, ?_, hma, hwl, fun b o e h1 h2 => hf8 b o (hfr b o e h1 h2) fun z => ?_⟩
          · rw [hnext, hmt]
            exact R8
          · rcases hma b z with h | h
            · exact h1 h
            · rw [e] at h
              cases h
        · rename_i hin'
          rw [if_neg hin'] at hmt
          rw [R7.meth]
          refine ⟨p, c, lt', lg, _, _, x.1, m, x.2, bs, _, _, rfl, R7, hm7, hq, hcar7, I.opn hxo, by unfold gapsOf; rw [List.length_map, List.length_range, hTl], by rw [pDone_length D.T st.next l, R.tT]; omega, Nat.le_trans I.tl (by decide), fun H8 ma8 wl8 R8 hma8 hwl8 hf8 => ?_⟩
          refine ⟨ma8, wl8, _, rfl, ?_, fun a ha => ?_, fun a ha => ?_, fun b o e h1 h2 => hf8 b o (hfr b o e h1 h2) (fun z => ?_) h2⟩
          · rw [hnext, hmt]
            exact R8
          · rcases hma8 a ha with h | h
            · exact hma a h
            · by_cases hd : a ∈ D.ma
              · exact .inl hd
              · exact .inr (old H7 ma wl _ R7 hfr a h hd)
          · rcases hwl8 a ha with h | h
            · exact hwl a h
            · by_cases hd : a ∈ D.ma
              · exact .inr (.inl hd)
              · exact .inr (.inr (old H7 ma wl _ R7 hfr a h hd))
          · rcases hma b z with h | h
            · exact h1 h
            · rw [e] at h
              cases h
      · rintro σ1 H7 ⟨ma, wl, v3, rfl, R7, hma, hwl, hfr⟩
        obtain ⟨hcar7, h7c, _⟩ := keepC H7 hfr
        rw [List.take_length, after_all] at R7
        have rc7 := hcar7.rd T
        walk_at "rd"
        simp only [rc7]
        refine (setR_of R7.ob T.cl_Proof T.n_Proof_text (by show (5 : Nat) < 1000; decide)).mpr ?_
        have ob8 : upd H7 p (.ins CP D.dx (putF "text" (.ref lt') (pf (.ref D.lt) (.ref D.lw) (.ref D.lm) (.int (st.proof : Nat)) (.ref D.ll)))) p = some (.ins CP D.dx (pf (.ref lt') (.ref D.lw) (.ref D.lm) (.int (st.proof : Nat)) (.ref D.ll))) := upd_same
        refine ⟨_, rfl, p, CP, D.dx, _, _, rfl, ob8, T.cl_Proof, T.n_Proof_number, rfl, _, _, rfl, rfl, D.dx, _, ob8, (by show (5 : Nat) < 1000; decide), ?_⟩
        generalize hH8 : upd (upd H7 p _) p _ = H8
        rw [upd_upd] at hH8
        have h78 : ∀ b o, H7 b = some o → b ≠ p → H8 b = some o := fun b o e hb => by rw [← hH8, upd_ne hb]; exact e
        have est : ({ ({ st with gone := gone', marks := (Si42.carried st).marks } : Si42.St) with text := Si42.done st.text st.next l, proof := st.proof + 1, next := (Si42.carried st).next, first := st.first, gone := gone' } : Si42.St) = Si42.carried st := by
          rw [eg, el]
          rfl
        have hlt3 : lt' ≠ D.lw ∧ lt' ≠ D.lm ∧ lt' ≠ D.ll := by
          have hn := nown (fresh_none s12 hlt')
          exact ⟨fun z => hn (mem_own.mpr (by simp [z])), fun z => hn (mem_own.mpr (by simp [z])), fun z => hn (mem_own.mpr (by simp [z]))⟩
        have R8' := R7.setP (lt := lt') (ts := bs) (T := gDone D.T st.next l) (text := Si42.done st.text st.next l) (n := st.proof + 1) (next := (Si42.carried st).next) (gone := gone') (first := st.first) (by rw [gDone_trip]; exact hcar7.tx) (by rw [gDone_fst, R.tT])
          (gInv_done R.gi (fun x hx y hy e => opens_uniq (hsub x hx) (hsub y hy) e) fun x hx m' hm' y hy e => by
            have hxt : x.1 ∈ st.text := by rw [← R.tT]; exact List.mem_map.mpr ⟨x, hx, rfl⟩
            obtain ⟨mk, h1, h2⟩ := askAt_some.mp (mem_opens2.mp (hsub y hy))
            have := I.ge x.1 hxt m' mk hm' (e ▸ h1)
            unfold isOpen at this
            rw [h2] at this
            cases this) hlt3 rfl
        rw [est] at R8'
        have R8 : RepD CM CP H8 p (Si42.carried st) { D with la := D.la ++ la2, ma := ma, wl := wl, lt := lt', ts := bs, T := gDone D.T st.next l } := by
          rw [← hH8]
          exact R8'
        have h8c : H8 lc = some (.lst (numsV l)) := h78 _ _ h7c (ne_of h7c R7.ob (by intro z; cases z))
        have hkeep : ∀ b o, keep b → H b = some o → H8 b = some o := fun b o hb e => by
          have nb : b ∉ D.own p := fun z => hown b z hb
          have n1 : b ≠ p := fun z => nb (mem_own.mpr (.inl z))
          have n2 : b ≠ D.ll := fun z => nb (mem_own.mpr (by simp [z]))
          have n3 : b ∉ D.ma := fun z => nb (mem_own.mpr (by simp [z]))
          have n4 : b ≠ D.lm := fun z => nb (mem_own.mpr (by simp [z]))
          exact h78 b o (hfr b o (s6 _ _ (s45 b o (s14 _ _ e) n2)) n3 n4) n1
        have n6 : ∀ {b : Addr}, H6 b = none → b ≠ D.ll → H b = none := fun {b} hb hl' => by
          cases e : H b with
          | none => rfl
          | some o => rw [s6 _ _ (s45 b o (s14 _ _ e) hl')] at hb; cases hb
        have nk : ∀ {b : Addr}, H b = none → ¬ keep b := fun hb z => by
          obtain ⟨o, eo⟩ := hk _ z
          rw [hb] at eo
          cases eo
        have hm0 : ∀ {c}, c = p ∨ c = D.lt ∨ c = D.lw ∨ c = D.lm ∨ c = D.ll ∨ c ∈ D.ts ∨ c ∈ D.ma ∨ c ∈ D.wl ∨ c ∈ D.la → ¬ keep c := fun h => hown _ (mem_own.mpr h)
        have n6k : ∀ {b : Addr}, H6 b = none → ¬ keep b := fun {b} hb z => by
          by_cases hl' : b = D.ll
          · exact hm0 (.inr (.inr (.inr (.inr (.inl hl'))))) z
          · exact nk (n6 hb hl') z
        have hown8 : ∀ b ∈ Da.own { D with la := D.la ++ la2, ma := ma, wl := wl, lt := lt', ts := bs, T := gDone D.T st.next l } p, ¬ keep b := fun b hb z => by
          have hb := mem_own.mp hb
          dsimp only at hb
          rcases hb with h | h | h | h | h | h | h | h | h
          · exact hm0 (.inl h) z
          · exact nk (fresh_none s12 hlt') (h ▸ z)
          · exact hm0 (.inr (.inr (.inl h))) z
          · exact hm0 (.inr (.inr (.inr (.inl h)))) z
          · exact hm0 (.inr (.inr (.inr (.inr (.inl h))))) z
          · rcases hbs b h with h | h
            · exact hm0 (.inr (.inr (.inr (.inr (.inr (.inl h)))))) z
            · exact nk (fresh_none s12 h) z
          · rcases hma b h with h | h
            · exact hm0 (.inr (.inr (.inr (.inr (.inr (.inr (.inl h))))))) z
            · exact n6k h z
          · rcases hwl b h with h | h | h
            · exact hm0 (.inr (.inr (.inr (.inr (.inr (.inr (.inr (.inl h)))))))) z
            · exact hm0 (.inr (.inr (.inr (.inr (.inr (.inr (.inl h))))))) z
            · exact n6k h z
          · rcases List.mem_append.mp h with h | h
            · exact hm0 (.inr (.inr (.inr (.inr (.inr (.inr (.inr (.inr h)))))))) z
            · exact nk (fresh_none s13 (hlan b h)) z
        clear_value I1
        have hml8 : (Si42.carried st).marks.length = st.marks.length := by rw [carried_marks, List.length_map, List.length_zipIdx]
        obtain ⟨o', ho1, ho2⟩ := R8.any l fun x hx => by
          rw [hml8]
          obtain ⟨m, h1, _⟩ := askAt_some.mp (mem_opens2.mp (hsub x hx))
          exact (List.getElem?_eq_some_iff.mp h1).1
        have hnum' : numsV o' = numsV l := by rw [nums_nats, nums_nats, ho1]
        have hol : o'.length = l.length := by rw [← List.length_map (f := Prod.fst), ho1, List.length_map]
        have hrd8 : ∀ x ∈ l, rdOf (Si42.carried st) x.1 = rdOf st x.1 := fun x hx => by
          obtain ⟨m, h1, h2⟩ := askAt_some.mp (mem_opens2.mp (hsub x hx))
          have h3 : (Si42.carried st).marks[x.1]? = some (markThen st x.1 m) := by
            rw [carried_marks, List.getElem?_map, List.getElem?_zipIdx, h1]
            simp
          show (((Si42.carried st).marks[x.1]?).map fun m => m.reader).getD 0 = ((st.marks[x.1]?).map fun m => m.reader).getD 0
          rw [h3, h1]
          show (markThen st x.1 m).reader = m.reader
          unfold markThen
          rw [h2]
          dsimp only
          split <;> rfl
        have hmem' : ∀ x ∈ o', ∃ y ∈ l, y.1 = x.1 := fun x hx => by
          have : x.1 ∈ l.map Prod.fst := by rw [← ho1]; exact List.mem_map.mpr ⟨x, hx, rfl⟩
          obtain ⟨y, hy, e⟩ := List.mem_map.mp this
          exact ⟨y, hy, e⟩
        have hw8 : wOf st.readers (rdOf (Si42.carried st)) o' = Si42.weightOf st.readers st.marks l := by
          rw [← wOf_is]
          unfold wOf
          congr 1
          have e1 : (o'.map fun x => st.readers.getD (rdOf (Si42.carried st) x.1) 0) = (o'.map Prod.fst).map fun n => st.readers.getD (rdOf (Si42.carried st) n) 0 := by rw [List.map_map]; rfl
          rw [e1, ho1, List.map_map]
          refine List.map_congr_left fun x hx => ?_
          show st.readers.getD (rdOf (Si42.carried st) x.1) 0 = _
          rw [hrd8 x hx]
        have rr8 := R8.rd T
        walk_at "rd"
        simp only [rr8]
        refine ⟨D.lm, D.lw, lc, rdOf (Si42.carried st), st.readers, o', rfl, ⟨ma, R8.mks, ho2⟩, Ls.of R8.wt, Ls.of (by rw [hnum']; exact h8c), fun x hx => ?_, by omega, fun H9 s9 => ?_⟩
        · obtain ⟨y, hy, e⟩ := hmem' x hx
          rw [← e, hrd8 y hy]
          exact hrd y (hsub y hy)
        · rw [hw8]
          have h9c := s9 _ _ h8c
          have r9 := (Ls.of h9c).rd
          walk_at "rd"
          simp only [r9]
          refine ⟨by decide, fun l9 hl9 => ?_⟩
          have c9 := lw_rd (upd_same (H := H9) (a := l9) (o := .lst [.int ((Si42.weightOf st.readers st.marks l : Nat) : Int), .int ((numsV l).length : Nat)]))
          simp only [c9]
          refine ⟨_, same_new hl9 _ _ h9c, by rw [List.length_map]; simp only [List.length_cons, List.length_nil]; omega, fun l10 hl10 => ?_⟩
          have s10 := (s9.trans (same_new (o := .lst [.int ((Si42.weightOf st.readers st.marks l : Nat) : Int), .int ((numsV l).length : Nat)]) hl9)).trans (same_new (o := .lst ([.int ((Si42.weightOf st.readers st.marks l : Nat) : Int), .int ((numsV l).length : Nat)] ++ numsV l)) hl10)
          refine k _ l10 ?_ (fun z => ?_) ⟨_, R8.same s10, hown8⟩ (fun b o hb e => s10 _ _ (hkeep b o hb e))
          · rw [upd_same, List.length_map]
            unfold Si42.ints intsV
            rw [List.map_cons, List.map_cons, List.map_cons, List.map_map, List.map_map]
            rfl
          · obtain ⟨o, eo⟩ := hk l10 z
            have e9 := same_new hl9 (o := .lst [.int ((Si42.weightOf st.readers st.marks l : Nat) : Int), .int ((numsV l).length : Nat)]) _ _ (s9 _ _ (hkeep l10 o z eo))
            rw [hl10] at e9
            cases e9
end
structure Forms (K : PySem.W.Frag) (fa : Addr) (fs : List V) : Prop where
  kt : KT K fa fs
  at_ : ∀ (c : Int) (n k : Nat), PySi42.shape c = some (n, k) → ∃ t, atI fs c = some (.ref t) ∧ KT K t [.int n, .bl (decide (k = 1))]
structure TxtA (K : PySem.W.Frag) (mg : Str → Option Value) (fa : Addr) (fs : List V) : Prop where
  b_len : mg "len" = none
  g_FORMS : GR mg "FORMS" fa
  forms : Forms K fa fs
section
variable {G : Env1} {CP fa : Addr} {fs : List V}
abbrev Rep := Hp → Addr → Si42.St → (Addr → Prop) → Prop
def spInitP (CP : Addr) (R : Rep) : Sp := fun vs H Q _ => ∃ (p dx : Addr), vs = [.ref p] ∧ H p = some (.ins CP dx []) ∧ ∀ H' : Hp, (∀ keep : Addr → Prop, ¬ keep p → (∀ b, keep b → (∃ o, H b = some o) ∨ H' b = none) → R H' p Si42.init keep) → (∃ o, H' p = some o) → (∀ b o, H b = some o → b ≠ p → H' b = some o) → Q .non H'
def spCall (R : Rep) (I : Nat → Si42.St → Prop) : Sp := fun vs H Q _ => ∃ (left : Nat) (p nl rl : Addr) (c : Int) (xs rw : List Int) (st : Si42.St) (q : Si42.Call) (keep : Addr → Prop), vs = [.ref p, .int c, .ref nl, .ref rl] ∧ R H p st keep ∧ I (left + 1) st ∧ (∀ b, keep b → ∃ o, H b = some o) ∧
  Ls H nl (intsV xs) ∧ Ls H rl (intsV rw) ∧ Si42Neutral.callOf (c :: (xs ++ rw)) = some q ∧ (∀ z ∈ c :: (xs ++ rw), 0 ≤ z ∧ z < 4294967296) ∧ (∃ n k, PySi42.shape c = some (n, k) ∧ xs.length = n ∧ (k = 0 → rw = [])) ∧
  ∀ (H' : Hp) (l : Addr), H' l = some (.lst (intsV (ansOf st q))) → ¬ keep l → R H' p (Si42.step st q).1 keep → (∀ b o, keep b → H b = some o → H' b = some o) → Q (.ref l) H'
def spAns (K : PySem.W.Frag) : Sp := fun vs H Q _ => ∃ (a : Addr) (ns : List Int), vs = [.ref a] ∧ SqL K H a (intsV ns) ∧ ns.length ≤ 29900 ∧ (∀ z ∈ ns, 0 ≤ z) ∧ PySi42.answers_asked ns = true ∧ ∀ (H' : Hp) (p : Addr), H' p = some (.lst (intsV (PySi42.answers ns))) → Q (.ref p) H'
def LoopI (tr : Prop) (a x g : Addr) (ns : List Int) (R : Rep) (I : Nat → Si42.St → Prop) (m : Nat) (σ : L2.St) (H' : Hp) : Prop :=
  ∃ (pos : Nat) (out due : List Int) (st : Si42.St) (left carries room : Nat) (v4 v5 v6 v7 v8 : Option V), σ = [some (.ref a), some (.ref x), some (.ref g), some (.int pos), v4, v5, v6, v7, v8] ∧ pos ≤ ns.length ∧ m = ns.length - pos ∧
      (tr → Ls H' a (intsV ns)) ∧ H' g = some (.lst (intsV out)) ∧ R H' x st (fun b => (b = a ∧ tr) ∨ b = g) ∧ I left st ∧ Rest st (ns.drop pos) due left carries room ∧ PySi42.answers ns = out ++ due ∧ out.length + left + room ≤ 1000099
theorem ok_answers {f : Addr} {fd : FuncData} {R : Rep} {I : Nat → Si42.St → Prop} (T : TxtA G.K G.mg fa fs) (K_Proof : Md G "Proof" CP ["self"] 1 (spInitP CP R)) (F_answer_call : Fn G "answer_call" ["proof", "call", "numbers", "row"] 20 (spCall R I))
    (hRf : ∀ H H' p st keep, R H p st keep → (∀ b o, H b = some o → ¬ keep b → H' b = some o) → R H' p st keep) (hI0 : I 100 Si42.init) (hI : ∀ left st q, I (left + 1) st → I left (Si42.step st q).1)
    (F : Fun G.K "answers" "answers" s_answers f fd) : FnOk G.P G.w G.K G.mg G.base CX0 21 f fd ["calls"] (spAns G.K) := by
  refine F.ok sc_answers (fun vs H Q E h => ?_) (fun cdv A outer s H vs Q E hr h => ?_)
  · obtain ⟨a, ns, rfl, _⟩ := h; rfl
  · obtain ⟨a, ns, rfl, ha, hlen, hpos, hask, k⟩ := h
    have nd := sc_answers.nd
    refine ⟨_, (pss_cons (ps_set (i := 1) nd rfl (Or.inl rfl) (pe_mk0 K_Proof hr rfl))
      (pss_cons (ps_set (i := 2) nd rfl (Or.inl rfl) (pe_lst pa_nil))
      (pss_cons (ps_set (i := 3) nd rfl (Or.inl rfl) pe_int)
      (pss_cons (ps_while PassesOwn.never (pt_cmpR op_lt (pv 3) (pe_callB call_lenS (by rfl) T.b_len bt_len (pa_cons (pv 0) pa_nil)) (nomark _))
      (pss_cons (ps_set (i := 4) nd rfl (Or.inl rfl) (pe_ix ix_S (pv 0) (pv 3) (fun _ _ => rfl)))
      (pss_cons (ps_set (i := 5) nd rfl (Or.inl rfl) (pe_op op_add (pe_op op_add (pv 3) pe_int) (pe_ix ix_kt (pe_ix ix_kt (pe_gr T.g_FORMS) (pv 4) (fun _ _ => rfl)) pe_int (fun _ _ => rfl))))
      (pss_cons (ps_set (i := 6) nd rfl (Or.inl rfl) (pe_slice sl_S (pv 0) (po_some (pe_op op_add (pv 3) pe_int)) (po_some (pv 5))))
      (pss_cons (ps_set (i := 3) nd rfl (Or.inl rfl) (pv 5))
      (pss_cons (ps_set (i := 7) nd rfl (Or.inl rfl) (pe_lst pa_nil))
      (pss_cons (ps_if (pt_tru (pe_ix ix_kt (pe_ix ix_kt (pe_gr T.g_FORMS) (pv 4) (fun _ _ => rfl)) pe_int (fun _ _ => rfl))) (pss_cons (ps_set (i := 3) nd rfl (Or.inl rfl) (pe_op op_add (pe_op op_add (pv 5) pe_int) (pe_ix ix_S (pv 0) (pv 5) (fun _ _ => rfl))))
      (pss_one (ps_set (i := 7) nd rfl (Or.inl rfl) (pe_slice sl_S (pv 0) (po_some (pe_op op_add (pv 5) pe_int)) (po_some (pv 3)))))) pss_nil)
      (pss_cons (ps_set (i := 8) nd rfl (Or.inl rfl) (pe_fn F_answer_call hr rfl (pa_cons (pv 1) (pa_cons (pv 4) (pa_cons (pv 6) (pa_cons (pv 7) pa_nil))))))
      (pss_cons (ps_expr (pe_bm PySem.F.plainAttrs_list PySem.F.slot_list_append PySem.F.type_list_append mt_append (pv 2) (pa_cons (pe_callB call_lenN (by rfl) T.b_len bt_len (pa_cons (pv 8) pa_nil)) pa_nil)))
      (pss_one (ps_expr (pe_bm PySem.F.plainAttrs_list PySem.F.slot_list_extend PySem.F.type_list_extend mt_extend (pv 2) (pa_cons (pv 8) pa_nil)))))))))))))
      (pss_one (ps_ret (pv 2))))))), ?_⟩
    walk_at "rd"
    intro x dx hx hdx hne
    refine ⟨x, dx, rfl, upd_same, fun H1 hR hoX hk => ⟨rfl, Nat.zero_le _, fun g hg => ?_⟩⟩
    obtain ⟨ox, hox⟩ := hoX
    have s1 : Same H H1 := fun b o e => hk b o (by rw [upd_ne (ne_of_none e hx), upd_ne (ne_of_none e hdx)]; exact e) (ne_of_none e hx)
    obtain ⟨tr, etr⟩ : ∃ tr : Prop, tr = Ls H a (intsV ns) := ⟨_, rfl⟩
    have hKL : ¬ tr → ∀ H', SqL G.K H' a (intsV ns) := fun n H' => by
      rcases ha with h | h
      · exact absurd (etr ▸ h) n
      · exact .inr h
    have hxa : tr → ¬ x = a := fun htr e => by
      have ha : Ls H a (intsV ns) := etr ▸ htr
      rcases ha with h | ⟨o, h⟩ <;> rw [← e, hx] at h <;> cases h
    have hxg : ¬ x = g := ne_of_none hox hg
    have s2 : Same H1 (upd H1 g (.lst [])) := same_new hg
    have ha2 : tr → Ls (upd H1 g (.lst [])) a (intsV ns) := fun htr => same_ls (s1.trans s2) (etr ▸ htr)
    have hag : tr → ¬ a = g := fun htr e => by
      have h := same_ls s1 (show Ls H a (intsV ns) from etr ▸ htr)
      rcases h with h | ⟨o, h⟩ <;> rw [e, hg] at h <;> cases h
    refine ⟨LoopI tr a x g ns R I, ⟨ns.length, 0, [], PySi42.answers ns, Si42.init, 100, 20, 999999, none, none, none, none, none, rfl, Nat.zero_le _, rfl, ha2, upd_same, ?_, hI0, Rest.start hask, rfl, by decide⟩, ?_⟩
    · refine hRf _ _ _ _ _ (hR (fun b => (b = a ∧ tr) ∨ b = g) (fun e => e.elim (fun z => hxa z.2 z.1) hxg) ?_) fun b o e nk => by rw [upd_ne fun e => nk (Or.inr e)]; exact e
      rintro b (⟨rfl, htr⟩ | rfl)
      · left
        have hax : ¬ b = x := fun e => hxa htr e.symm
        have ha : Ls H b (intsV ns) := etr ▸ htr
        rcases ha with h | ⟨o, h⟩
        · exact ⟨_, by rw [upd_ne hax, upd_ne (ne_of_none h hdx)]; exact h⟩
        · exact ⟨_, by rw [upd_ne hax, upd_ne (ne_of_none h hdx)]; exact h⟩
      · exact Or.inr hg
    · clear s1 s2 ha2 hk hR hx hdx hne hxa ha hox hg H1 etr
      rintro m σ H1 ⟨pos, out, due, st, left, carries, room, v4, v5, v6, v7, v8, rfl, hpl, rfl, ha, hg, hR, hI1, hrest, hans, hroom⟩
      have lg := lw_rd hg
      have hS : ∀ H4, Same H1 H4 → SqL G.K H4 a (intsV ns) := fun H4 s4 => by
        by_cases htr : tr
        · exact (same_ls s4 (ha htr)).sq
        · exact hKL htr H4
      walk_at "rd"
      refine lenS_imp (hS _ (Same.refl _)) ?_
      simp only [intsV_length]
      walk_at "rd"
      split
      · rename_i hlt
        have hlt : pos < ns.length := by omega
        refine ⟨_, fun σ' H' h => h, ?_⟩
        obtain ⟨c, hc⟩ : ∃ c, ns[pos]? = some c := ⟨_, List.getElem?_eq_getElem hlt⟩
        have hcut : ns.drop pos = c :: ns.drop (pos + 1) := by
          rw [List.drop_eq_getElem_cons hlt]
          congr 1
          rw [List.getElem?_eq_getElem hlt] at hc
          exact Option.some.inj hc
        rw [hcut] at hrest
        obtain ⟨xs, rw', t, q, due', hx, hq, hb, hal, h1a, _, hdue, hrest'⟩ := hrest.next
        obtain ⟨n, kk, hsh, hxl, hform⟩ := hx.ex
        obtain ⟨tf, htf, hkt⟩ := T.forms.at_ c n kk hsh
        have kf := T.forms.kt
        walk_at "rd"
        refine ixS_imp (hS _ (Same.refl _)) (atI_nat (show (intsV ns)[pos]? = some (V.int c) by rw [intsV, List.getElem?_map, hc]; rfl)) ?_
        walk_at "rd"
        simp only [ixK_of kf, ixV_of htf, ixK_of hkt]
        walk_at "rd"
        refine slS_imp (hS _ (Same.refl _)) ?_
        intro nl hnl
        have hdl : (ns.drop (pos + 1)).length = ns.length - (pos + 1) := List.length_drop
        have hn1 : pos + 1 + n ≤ ns.length := by
          rcases hform with ⟨_, _, e⟩ | ⟨_, e⟩ <;> rw [e, List.length_append] at hdl <;> omega
        have hnum : cutV (intsV ns) (some ((pos : Int) + 1)) (some ((pos : Int) + 1 + (n : Int))) = intsV xs := by
          rw [cut_at (pos + 1) n (by omega) (by omega) (by rw [intsV_length]; exact hn1), intsV_cut]
          congr 1
          rcases hform with ⟨_, _, e⟩ | ⟨_, e⟩ <;> rw [e, ← hxl] <;> simp
        rw [hnum]
        refine ⟨Nat.zero_le _, fun rl hrl => ?_⟩
        have s1 : Same H1 (upd H1 nl (.lst (intsV xs))) := same_new hnl
        have s2 : Same (upd H1 nl (.lst (intsV xs))) (upd (upd H1 nl (.lst (intsV xs))) rl (.lst [])) := same_new hrl
        have hR1 : ∀ H4, Same H1 H4 → R H4 x st (fun b => (b = a ∧ tr) ∨ b = g) := fun H4 s => hRf _ _ _ _ _ hR fun b o e _ => s b o e
        have hfit : ∀ k : Nat, k ≤ 1100000 → k ≤ sizeLine := fun k h => Nat.le_trans h (by decide)
        have tail : ∀ (H4 : Hp) (r4 : Addr) (Fin : V → Hp → Prop), Same H1 H4 → Ls H4 nl (intsV xs) → Ls H4 r4 (intsV rw') →
            (∀ v H', (tr → Ls H' a (intsV ns)) → H' g = some (.lst (intsV (out ++ ((ansOf st q).length : Int) :: ansOf st q))) → R H' x (Si42.step st q).1 (fun b => (b = a ∧ tr) ∨ b = g) → Fin v H') →
            spCall R I [.ref x, .int c, .ref nl, .ref r4] H4 (fun v H1 => tyV G.K "list" (.ref g) H1 ∧ lenR [v] H1 fun y H1 => rAppend (.ref g) [y] H1 fun _ H1 => tyV G.K "list" (.ref g) H1 ∧ rExtend (.ref g) [v] H1 fun _ H1 => Fin v H1) E0 := by
          intro H4 r4 Fin s4 hn4 hr4 fin
          refine ⟨left - 1, x, nl, r4, c, xs, rw', st, q, fun b => (b = a ∧ tr) ∨ b = g, rfl, hR1 H4 s4, by rw [Nat.sub_add_cancel h1a]; exact hI1, ?_, hn4, hr4, hq, hb, ⟨n, kk, hsh, hxl, ?_⟩, fun H5 l hl hkl hR5 hk5 => ?_⟩
          · rintro b (⟨rfl, htr⟩ | rfl)
            · rcases same_ls s4 (ha htr) with h | ⟨o, h⟩
              · exact ⟨_, h⟩
              · exact ⟨_, h⟩
            · exact ⟨_, s4 _ _ hg⟩
          · intro e
            rcases hform with ⟨_, e2, _⟩ | ⟨e2, _⟩
            · exact e2
            · omega
          · have hg5 : H5 g = some (.lst (intsV out)) := hk5 g _ (Or.inr rfl) (s4 _ _ hg)
            have hlg : ¬ l = g := fun e => hkl (Or.inr e)
            have ha5 : tr → Ls H5 a (intsV ns) := fun htr => by
              rcases same_ls s4 (ha htr) with h | ⟨o, h⟩
              · exact .inl (hk5 a _ (Or.inl ⟨rfl, htr⟩) h)
              · exact .inr ⟨o, hk5 a _ (Or.inl ⟨rfl, htr⟩) h⟩
            have l5 := lw_rd hg5
            have ll := (Ls.of hl).rd
            simp only [l5, ll, intsV_length, true_and]
            refine ⟨Nat.lt_of_lt_of_le (show out.length < 1100000 by omega) (by decide), ?_⟩
            have hg6 : (upd H5 g (.lst (intsV out ++ [V.int ((ansOf st q).length : Int)]))) g = some (.lst (intsV (out ++ [((ansOf st q).length : Int)]))) := by
              rw [upd_same, intsV_app]
              rfl
            have l6 := lw_rd hg6
            simp only [l6, true_and, intsV_length]
            refine ⟨intsV (ansOf st q), by rw [upd_ne hlg]; exact hl, ?_, ?_⟩
            · rw [List.length_append, intsV_length]
              exact hfit _ (by simp only [List.length_cons, List.length_nil]; omega)
            · refine fin _ _ ?_ ?_ ?_
              · intro htr
                have hag := hag htr
                rcases ha5 htr with h | ⟨o, h⟩
                · exact .inl (by rw [upd_ne hag, upd_ne hag]; exact h)
                · exact .inr ⟨o, by rw [upd_ne hag, upd_ne hag]; exact h⟩
              · rw [upd_same, ← intsV_app, List.append_assoc]
                rfl
              · exact hRf _ _ _ _ _ hR5 fun b o e nk => by rw [upd_ne fun e => nk (Or.inr e), upd_ne fun e => nk (Or.inr e)]; exact e
        have endT : ∀ (H' : Hp) (σ' : L2.St) (pos' : Nat) (z : Int) (v4 v5 v6 v7 v8 : Option V), σ' = [some (.ref a), some (.ref x), some (.ref g), some (.int z), v4, v5, v6, v7, v8] → z = pos' → pos < pos' → pos' ≤ ns.length → ns.drop pos' = t →
            (tr → Ls H' a (intsV ns)) → H' g = some (.lst (intsV (out ++ ((ansOf st q).length : Int) :: ansOf st q))) → R H' x (Si42.step st q).1 (fun b => (b = a ∧ tr) ∨ b = g) → ∃ m', m' < ns.length - pos ∧ LoopI tr a x g ns R I m' σ' H' := by
          intro H' σ' pos' z v4 v5 v6 v7 v8 e ez hp hp2 ht h1 h2 h3
          subst ez
          refine ⟨ns.length - pos', by omega, pos', _, due', (Si42.step st q).1, left - 1, _, room - (ansOf st q).length, v4, v5, v6, v7, v8, e, hp2, rfl, h1, h2, h3, hI _ _ _ (by rw [Nat.sub_add_cancel h1a]; exact hI1), ht ▸ hrest', ?_, ?_⟩
          · rw [hans, hdue, List.append_assoc]
            rfl
          · rw [List.length_append, List.length_cons]
            omega
        walk_at "rd"
        rcases hform with ⟨rfl, rfl, e⟩ | ⟨rfl, e⟩
        · rw [if_neg (by decide)]
          refine tail _ _ _ (s1.trans s2) ?_ ?_ (fun v H' h1 h2 h3 => endT H' _ (pos + 1 + n) _ _ _ _ _ _ rfl (by omega) (by omega) hn1 ?_ h1 h2 h3)
          · exact same_ls s2 (Ls.of upd_same)
          · exact Ls.of upd_same
          · rw [← List.drop_drop, e, ← hxl]
            simp
        · rw [if_pos rfl]
          have hlen2 : ns.length = pos + 1 + n + 1 + rw'.length + t.length := by
            rw [e, List.length_append, List.length_cons, List.length_append] at hdl
            omega
          have hrow : (intsV ns)[pos + 1 + n]? = some (V.int (rw'.length : Int)) := by
            have h1 : ns[pos + 1 + n]? = some (rw'.length : Int) := by
              rw [← List.getElem?_drop, e, ← hxl]
              simp
            rw [intsV, List.getElem?_map, h1]
            rfl
          have hrow2 : atI (intsV ns) ((pos : Int) + 1 + (n : Int)) = some (V.int (rw'.length : Int)) := at_of (j := pos + 1 + n) (by omega) hrow
          refine ixS_imp (hS _ (s1.trans s2)) hrow2 ?_
          walk_at "rd"
          refine slS_imp (hS _ (s1.trans s2)) ?_
          intro r2 hr2
          have hcut2 : cutV (intsV ns) (some ((pos : Int) + 1 + (n : Int) + 1)) (some ((pos : Int) + 1 + (n : Int) + 1 + (rw'.length : Int))) = intsV rw' := by
            rw [cut_at (pos + 1 + n + 1) rw'.length (by omega) (by omega) (by rw [intsV_length]; omega), intsV_cut]
            congr 1
            have : ns.drop (pos + 1 + n + 1) = rw' ++ t := by
              rw [show pos + 1 + n + 1 = (pos + 1) + (n + 1) by omega, ← List.drop_drop, e, ← hxl]
              simp
            rw [this]
            simp
          rw [hcut2]
          have s3 := same_new (o := .lst (intsV rw')) hr2
          refine tail _ _ _ ((s1.trans s2).trans s3) ?_ ?_ (fun v H' h1 h2 h3 => endT H' _ (pos + 1 + n + 1 + rw'.length) _ _ _ _ _ _ rfl (by omega) (by omega) (by omega) ?_ h1 h2 h3)
          · exact same_ls (s2.trans s3) (Ls.of upd_same)
          · exact Ls.of upd_same
          · rw [show pos + 1 + n + 1 + rw'.length = (pos + 1) + (n + (rw'.length + 1)) by omega, ← List.drop_drop, e, ← hxl]
            simp
      · rename_i hge
        have hpe : pos = ns.length := by omega
        rw [hpe, List.drop_length] at hrest
        have hd := hrest.done
        rw [hd, List.append_nil] at hans
        walk_at "rd"
        refine k H1 g ?_
        rw [hans]
        exact hg
end
section
variable {G : Env1} {CM CC CP : Addr} {H : Hp} {p : Addr} {st : Si42.St} {D : Da} {keep : Addr → Prop}
structure Meths (G : Env1) (CM CC CP : Addr) : Prop where
  begins : Mt G CP "begins" ["self", "words"] 2 (spBegins CM CP)
  add_reader : Mt G CP "add_reader" ["self", "weight"] 1 (spReader CM CP)
  change : Mt G CP "change" ["self", "reader", "start", "end", "words"] 5 (spChange CM CP)
  keep : Mt G CP "keep" ["self", "reader", "start", "end"] 5 (spKeep CM CP)
  move : Mt G CP "move" ["self", "reader", "start", "end", "gap"] 5 (spMove CM CP)
  withdraw : Mt G CP "withdraw" ["self", "number"] 2 (spWith CM CP)
  clashes : Mt G CP "clashes" ["self"] 5 (spClash CM CP)
  carry : Mt G CP "carry" ["self"] 8 (spCarryM CM CP)
  shown : Mt G CP "shown" ["self"] 3 (spShown CM CP)
  who : Mt G CP "who" ["self", "place"] 1 (spWho CM CP)
  tell_mark : Mt G CP "tell_mark" ["self", "number"] 2 (spTell CM CP)
  gone : Mt G CP "gone" ["self"] 2 (spGoneM CM CP)
  test : Mt G CP "test" ["self", "numbers"] 6 (spTest CM CP)
theorem ints_nats {l : List Int} (h : ∀ z ∈ l, 0 ≤ z) : intsV l = natsV (l.map Int.toNat) := by
  unfold intsV natsV
  rw [List.map_map]
  refine List.map_congr_left fun z hz => ?_
  show V.int z = V.int ((z.toNat : Nat) : Int)
  rw [Int.toNat_of_nonneg (h z hz)]
theorem unlike_nd : ∀ {l : List Nat}, Si42Neutral.unlikeAll l = true → l.Nodup
  | [], _ => List.nodup_nil
  | x :: l, h => by
    have h : (!l.contains x && Si42Neutral.unlikeAll l) = true := h
    rw [Bool.and_eq_true] at h
    rw [List.nodup_cons]
    exact ⟨by simpa using h.1, unlike_nd h.2⟩
theorem nat_of {z : Int} (h : 0 ≤ z) : z = ((z.toNat : Nat) : Int) := (Int.toNat_of_nonneg h).symm
theorem ok_call {f : Addr} {fd : FuncData} (T : Facts G.K G.mg CM CC CP) (M : Meths G CM CC CP) (F : Fun G.K "answer_call" "answer_call" s_answer_call f fd) : FnOk G.P G.w G.K G.mg G.base CX0 20 f fd ["proof", "call", "numbers", "row"] (spCall (Rp CM CP) SInv) := by
  obtain ⟨M_Proof_begins, M_Proof_add_reader, M_Proof_change, M_Proof_keep, M_Proof_move, M_Proof_withdraw, M_Proof_clashes, M_Proof_carry, M_Proof_shown, M_Proof_who, M_Proof_tell_mark, M_Proof_gone, M_Proof_test⟩ := M
  refine F.ok sc_answer_call (fun vs H Q E h => ?_) (fun cdv A outer s H vs Q E hr h => ?_)
  · obtain ⟨left, p, nl, rl, c, xs, rw', st, q, keep, rfl, _⟩ := h; rfl
  · obtain ⟨left, p, nl, rl, c, xs, rw', st, q, keep, rfl, hR, I, hk, hn, hrow, hq, hb, ⟨n, kk, hsh, hxl, hr0⟩, k⟩ := h
    have hR0 := hR
    obtain ⟨D, R, hown⟩ := hR0
    have k : After CM CP H p keep (Si42.step st q).1 (ansOf st q) Q := k
    refine ⟨_, (pss_cons (ps_if (pt_cmpR op_eq (pv 1) (pe_gv T.g_BEGINS_CALL) (nomark _)) (pss_one (ps_ret (pe_mt M_Proof_begins hr (pv 0) (pa_cons (pv 3) pa_nil)))) pss_nil)
      (pss_cons (ps_if (pt_cmpR op_eq (pv 1) (pe_gv T.g_READER_CALL) (nomark _)) (pss_one (ps_ret (pe_mt M_Proof_add_reader hr (pv 0) (pa_cons (pe_ix ix_lst (pv 2) pe_int (fun _ _ => rfl)) pa_nil)))) pss_nil)
      (pss_cons (ps_if (pt_cmpR op_eq (pv 1) (pe_gv T.g_CHANGE_CALL) (nomark _)) (pss_one (ps_ret (pe_mt M_Proof_change hr (pv 0) (pa_cons (pe_ix ix_lst (pv 2) pe_int (fun _ _ => rfl)) (pa_cons (pe_ix ix_lst (pv 2) pe_int (fun _ _ => rfl)) (pa_cons (pe_ix ix_lst (pv 2) pe_int (fun _ _ => rfl)) (pa_cons (pv 3) pa_nil))))))) pss_nil)
      (pss_cons (ps_if (pt_cmpR op_eq (pv 1) (pe_gv T.g_KEEP_CALL) (nomark _)) (pss_one (ps_ret (pe_mt M_Proof_keep hr (pv 0) (pa_cons (pe_ix ix_lst (pv 2) pe_int (fun _ _ => rfl)) (pa_cons (pe_ix ix_lst (pv 2) pe_int (fun _ _ => rfl)) (pa_cons (pe_ix ix_lst (pv 2) pe_int (fun _ _ => rfl)) pa_nil)))))) pss_nil)
      (pss_cons (ps_if (pt_cmpR op_eq (pv 1) (pe_gv T.g_MOVE_CALL) (nomark _)) (pss_one (ps_ret (pe_mt M_Proof_move hr (pv 0) (pa_cons (pe_ix ix_lst (pv 2) pe_int (fun _ _ => rfl)) (pa_cons (pe_ix ix_lst (pv 2) pe_int (fun _ _ => rfl)) (pa_cons (pe_ix ix_lst (pv 2) pe_int (fun _ _ => rfl)) (pa_cons (pe_ix ix_lst (pv 2) pe_int (fun _ _ => rfl)) pa_nil))))))) pss_nil)
      (pss_cons (ps_if (pt_cmpR op_eq (pv 1) (pe_gv T.g_WITHDRAW_CALL) (nomark _)) (pss_one (ps_ret (pe_mt M_Proof_withdraw hr (pv 0) (pa_cons (pe_ix ix_lst (pv 2) pe_int (fun _ _ => rfl)) pa_nil)))) pss_nil)
      (pss_cons (ps_if (pt_cmpR op_eq (pv 1) (pe_gv T.g_CLASHES_CALL) (nomark _)) (pss_one (ps_ret (pe_mt0 M_Proof_clashes hr (pv 0)))) pss_nil)
      (pss_cons (ps_if (pt_cmpR op_eq (pv 1) (pe_gv T.g_CARRY_CALL) (nomark _)) (pss_one (ps_ret (pe_mt0 M_Proof_carry hr (pv 0)))) pss_nil)
      (pss_cons (ps_if (pt_cmpR op_eq (pv 1) (pe_gv T.g_SHOWN_CALL) (nomark _)) (pss_one (ps_ret (pe_mt0 M_Proof_shown hr (pv 0)))) pss_nil)
      (pss_cons (ps_if (pt_cmpR op_eq (pv 1) (pe_gv T.g_WHO_CALL) (nomark _)) (pss_one (ps_ret (pe_mt M_Proof_who hr (pv 0) (pa_cons (pe_ix ix_lst (pv 2) pe_int (fun _ _ => rfl)) pa_nil)))) pss_nil)
      (pss_cons (ps_if (pt_cmpR op_eq (pv 1) (pe_gv T.g_MARK_CALL) (nomark _)) (pss_one (ps_ret (pe_mt M_Proof_tell_mark hr (pv 0) (pa_cons (pe_ix ix_lst (pv 2) pe_int (fun _ _ => rfl)) pa_nil)))) pss_nil)
      (pss_cons (ps_if (pt_cmpR op_eq (pv 1) (pe_gv T.g_GONE_CALL) (nomark _)) (pss_one (ps_ret (pe_mt0 M_Proof_gone hr (pv 0)))) pss_nil)
      (pss_one (ps_ret (pe_mt M_Proof_test hr (pv 0) (pa_cons (pv 3) pa_nil)))))))))))))))), ?_⟩
    have rn := hn.rd
    have hpos : ∀ z ∈ xs ++ rw', 0 ≤ z := fun z hz => (hb z (List.mem_cons_of_mem _ hz)).1
    have hrp : ∀ z ∈ rw', 0 ≤ z := fun z hz => hpos z (List.mem_append_right _ hz)
    have hrow' : Ls H rl (natsV (rw'.map Int.toNat)) := by rw [← ints_nats hrp]; exact hrow
    have hc : c = 0 ∨ c = 1 ∨ c = 2 ∨ c = 3 ∨ c = 4 ∨ c = 5 ∨ c = 6 ∨ c = 7 ∨ c = 8 ∨ c = 9 ∨ c = 10 ∨ c = 11 ∨ c = 12 := by
      refine Classical.byContradiction fun hno => ?_
      simp only [not_or] at hno
      obtain ⟨n0, n1, n2, n3, n4, n5, n6, n7, n8, n9, n10, n11, n12⟩ := hno
      unfold PySi42.shape at hsh
      rw [if_neg n0, if_neg n1, if_neg n2, if_neg n3, if_neg n4, if_neg n5, if_neg n6, if_neg n7, if_neg n8, if_neg n9, if_neg n10, if_neg n11, if_neg n12] at hsh
      cases hsh
    have x1 : xs.length = 1 → ∃ a : Nat, xs = [(a : Int)] := fun h => by
      match xs, h with
      | [x], _ => exact ⟨x.toNat, by rw [← nat_of (hpos x (by simp))]⟩
    have x3 : xs.length = 3 → ∃ a b c : Nat, xs = [(a : Int), (b : Int), (c : Int)] := fun h => by
      match xs, h with
      | [x, y, z], _ => exact ⟨x.toNat, y.toNat, z.toNat, by rw [← nat_of (hpos x (by simp)), ← nat_of (hpos y (by simp)), ← nat_of (hpos z (by simp))]⟩
    have x4 : xs.length = 4 → ∃ a b c d : Nat, xs = [(a : Int), (b : Int), (c : Int), (d : Int)] := fun h => by
      match xs, h with
      | [x, y, z, u], _ => exact ⟨x.toNat, y.toNat, z.toNat, u.toNat, by rw [← nat_of (hpos x (by simp)), ← nat_of (hpos y (by simp)), ← nat_of (hpos z (by simp)), ← nat_of (hpos u (by simp))]⟩
    clear hb hpos
    rcases hc with rfl | rfl | rfl | rfl | rfl | rfl | rfl | rfl | rfl | rfl | rfl | rfl | rfl
    · walk_at "rd"
      have e : (0, 1) = (n, kk) := Option.some.inj hsh
      cases e
      cases List.length_eq_zero_iff.mp hxl
      have hq : (if (rw'.map Int.toNat).length ≤ 120 then some (Si42.Call.begins (rw'.map Int.toNat)) else none) = some q := hq
      split at hq
      · rename_i hl
        cases hq
        rw [R.meth]
        exact ⟨p, rl, st, keep, _, rfl, hR, hk, hrow', by omega, k⟩
      · cases hq
    · walk_at "rd"
      rw [if_neg (by decide)]
      have e : (1, 0) = (n, kk) := Option.some.inj hsh
      cases e
      cases hr0 rfl
      obtain ⟨a, rfl⟩ := x1 hxl
      have hq : some (Si42.Call.reader a) = some q := hq
      cases hq
      rw [R.meth]
      simp only [rn, intsV, List.map_cons, List.map_nil]
      walk_at "rd"
      exact ⟨p, st, keep, left + 1, a, rfl, hR, hk, I, k⟩
    · walk_at "rd"
      rw [if_neg (by decide), if_neg (by decide)]
      have e : (3, 1) = (n, kk) := Option.some.inj hsh
      cases e
      obtain ⟨a, b, d, rfl⟩ := x3 hxl
      have hq : (if (rw'.map Int.toNat).length ≤ 40 then some (Si42.Call.change a b d (rw'.map Int.toNat)) else none) = some q := hq
      split at hq
      · rename_i hl
        cases hq
        rw [R.meth]
        simp only [rn, intsV, List.map_cons, List.map_nil]
        walk_at "rd"
        exact ⟨p, rl, st, keep, left + 1, a, b, d, _, rfl, hR, hk, I, hrow', by omega, k⟩
      · cases hq
    · walk_at "rd"
      rw [if_neg (by decide), if_neg (by decide), if_neg (by decide)]
      have e : (3, 0) = (n, kk) := Option.some.inj hsh
      cases e
      cases hr0 rfl
      obtain ⟨a, b, d, rfl⟩ := x3 hxl
      have hq : some (Si42.Call.keep a b d) = some q := hq
      cases hq
      rw [R.meth]
      simp only [rn, intsV, List.map_cons, List.map_nil]
      walk_at "rd"
      exact ⟨p, st, keep, left + 1, a, b, d, rfl, hR, hk, I, k⟩
    · walk_at "rd"
      rw [if_neg (by decide), if_neg (by decide), if_neg (by decide), if_neg (by decide)]
      have e : (4, 0) = (n, kk) := Option.some.inj hsh
      cases e
      cases hr0 rfl
      obtain ⟨a, b, d, e', rfl⟩ := x4 hxl
      have hq : some (Si42.Call.move a b d e') = some q := hq
      cases hq
      rw [R.meth]
      simp only [rn, intsV, List.map_cons, List.map_nil]
      walk_at "rd"
      exact ⟨p, st, keep, left + 1, a, b, d, e', rfl, hR, hk, I, k⟩
    · walk_at "rd"
      rw [if_neg (by decide), if_neg (by decide), if_neg (by decide), if_neg (by decide), if_neg (by decide)]
      have e : (1, 0) = (n, kk) := Option.some.inj hsh
      cases e
      cases hr0 rfl
      obtain ⟨a, rfl⟩ := x1 hxl
      have hq : some (Si42.Call.withdraw a) = some q := hq
      cases hq
      rw [R.meth]
      simp only [rn, intsV, List.map_cons, List.map_nil]
      walk_at "rd"
      exact ⟨p, st, keep, a, rfl, hR, hk, k⟩
    · walk_at "rd"
      rw [if_neg (by decide), if_neg (by decide), if_neg (by decide), if_neg (by decide), if_neg (by decide), if_neg (by decide)]
      have e : (0, 0) = (n, kk) := Option.some.inj hsh
      cases e
      cases hr0 rfl
      cases List.length_eq_zero_iff.mp hxl
      have hq : some Si42.Call.clashes = some q := hq
      cases hq
      rw [R.meth]
      exact ⟨p, st, keep, left + 1, rfl, hR, hk, I, k⟩
    · walk_at "rd"
      rw [if_neg (by decide), if_neg (by decide), if_neg (by decide), if_neg (by decide), if_neg (by decide), if_neg (by decide), if_neg (by decide)]
      have e : (0, 0) = (n, kk) := Option.some.inj hsh
      cases e
      cases hr0 rfl
      cases List.length_eq_zero_iff.mp hxl
      have hq : some Si42.Call.carry = some q := hq
      cases hq
      rw [R.meth]
      exact ⟨p, st, keep, left + 1, rfl, hR, hk, I, k⟩
    · walk_at "rd"
      rw [if_neg (by decide), if_neg (by decide), if_neg (by decide), if_neg (by decide), if_neg (by decide), if_neg (by decide), if_neg (by decide), if_neg (by decide)]
      have e : (0, 0) = (n, kk) := Option.some.inj hsh
      cases e
      cases hr0 rfl
      cases List.length_eq_zero_iff.mp hxl
      have hq : some Si42.Call.shown = some q := hq
      cases hq
      rw [R.meth]
      exact ⟨p, st, keep, left + 1, rfl, hR, hk, I, k⟩
    · walk_at "rd"
      rw [if_neg (by decide), if_neg (by decide), if_neg (by decide), if_neg (by decide), if_neg (by decide), if_neg (by decide), if_neg (by decide), if_neg (by decide), if_neg (by decide)]
      have e : (1, 0) = (n, kk) := Option.some.inj hsh
      cases e
      cases hr0 rfl
      obtain ⟨a, rfl⟩ := x1 hxl
      have hq : some (Si42.Call.who a) = some q := hq
      cases hq
      rw [R.meth]
      simp only [rn, intsV, List.map_cons, List.map_nil]
      walk_at "rd"
      exact ⟨p, st, keep, left + 1, a, rfl, hR, hk, I, k⟩
    · walk_at "rd"
      rw [if_neg (by decide), if_neg (by decide), if_neg (by decide), if_neg (by decide), if_neg (by decide), if_neg (by decide), if_neg (by decide), if_neg (by decide), if_neg (by decide), if_neg (by decide)]
      have e : (1, 0) = (n, kk) := Option.some.inj hsh
      cases e
      cases hr0 rfl
      obtain ⟨a, rfl⟩ := x1 hxl
      have hq : some (Si42.Call.mark a) = some q := hq
      cases hq
      rw [R.meth]
      simp only [rn, intsV, List.map_cons, List.map_nil]
      walk_at "rd"
      exact ⟨p, st, keep, left + 1, a, rfl, hR, hk, I, k⟩
    · walk_at "rd"
      rw [if_neg (by decide), if_neg (by decide), if_neg (by decide), if_neg (by decide), if_neg (by decide), if_neg (by decide), if_neg (by decide), if_neg (by decide), if_neg (by decide), if_neg (by decide), if_neg (by decide)]
      have e : (0, 0) = (n, kk) := Option.some.inj hsh
      cases e
      cases hr0 rfl
      cases List.length_eq_zero_iff.mp hxl
      have hq : some Si42.Call.gone = some q := hq
      cases hq
      rw [R.meth]
      exact ⟨p, st, keep, left + 1, rfl, hR, hk, I, k⟩
    · walk_at "rd"
      rw [if_neg (by decide), if_neg (by decide), if_neg (by decide), if_neg (by decide), if_neg (by decide), if_neg (by decide), if_neg (by decide), if_neg (by decide), if_neg (by decide), if_neg (by decide), if_neg (by decide), if_neg (by decide)]
      have e : (0, 1) = (n, kk) := Option.some.inj hsh
      cases e
      cases List.length_eq_zero_iff.mp hxl
      have hq : (if (rw'.map Int.toNat).length ≤ 40 ∧ Si42Neutral.unlikeAll (rw'.map Int.toNat) = true then some (Si42.Call.test (rw'.map Int.toNat)) else none) = some q := hq
      split at hq
      · rename_i hl
        cases hq
        rw [R.meth]
        exact ⟨p, rl, st, keep, left + 1, _, rfl, hR, hk, I, hrow', by omega, unlike_nd hl.2, k⟩
      · cases hq
end
end Pm
namespace L2
open PySem PySem.Spec PyProof.Rows
open PySem.W (WData Codec OpenSpec Well WellAll ReadsW ReadsAllW)
theorem walk_specE {r : OpenSpec} {k : Nat} {q : Program} {loose : List Str} {XP : (Str → Option Value) → Heap → Prop} {YP : World → Heap → Prop} {d : DefRec} {CX : CXT} {ps : List Str} {sp : PySem.W.Frag → Sp}
    (hwell : r.wellSaid = true) (hlen : r.args.length = ps.length) (hr : Room k callerA)
    (hF : ∀ (w : World) (mg : Str → Option Value) (fa : Addr) (h : Heap), YP w h → h.Ns mainGlobals mg → mg d.name = some (.ref fa) →
      ∃ K : PySem.W.Frag, K.In h ∧ ∃ fd : FuncData, (∀ (s : Shared) (us : List Value), us.length = ps.length → BindsTo s fd ⟨us, []⟩ (ps.zip us)) ∧
        ∀ base : Heap, K.In base → base.Ns mainGlobals mg → FnOk r.prog w K mg base CX k fa fd ps (sp K))
    (hsp : ∀ (K : PySem.W.Frag) (H : Hp) (xs : List V) (a : Codec.denoteAll r.args), OnlyF H → Codec.withinAll r.args a = true → Codec.app r.args r.asked a = true → DwAll K H xs (Codec.encAll r.args a) →
      sp K xs H (fun v H' => Dw K H' v (r.ret.enc (Codec.app r.args r.f a))) fun _ _ _ => False)
    (hCX : ∀ (H : Hp) (s : Shared) (e : Value) (s' : Shared), CX [] H s (fun _ _ _ => False) e s' → False) :
    PySem.W.WalkOS q loose XP YP r d [] (fun f vs => PySem.call f vs) := by
  intro w s0 s1 mg mb G Y fa o pm cd doc dV kV ho hd hcd hD hmg hg args vals as hpre hlay hrd hwl hlo
  obtain ⟨a, e1, e2⟩ := PySem.W.os_pre_some hpre
  obtain ⟨e3, hwi⟩ := Codec.encAll_of_decAll r.args args a e1
  subst e3
  obtain ⟨K, KX, fd, hb, hF⟩ := hF w mg fa _ Y G.T.g hmg
  refine PySem.W.enter_call (codeAny_mono (spec_call (R := []) (cl := classAt s0.heap) (d0 := r.ret.enc (Codec.app r.args r.f a)) KX G.T.g G.T.b G.T.builtins G.T.nolimit hg hwl (pl_encAll _ _) (layable_weight hlay) hr hF hb (by rw [encAll_len]; exact hlen)
    (fun H xs hO hS => hsp K H xs a hO hwi e2 hS) fun H e s' => hCX H s1 e s') fun r' s' hq => ?_)
  obtain ⟨u, as', rfl, h1, h2, h3, h4⟩ := hq
  exact ⟨.inl ⟨u, _, as', rfl, fun _ => rfl, h1, (OpenSpec.post_iff hwell hwi _ _).mpr rfl, fun z => Bool.noConfusion (show false = true from z)⟩, h2, h3, h4⟩
end L2
namespace Pm
open PySem PySem.Spec PyProof.Rows L2
def fragOf (h : Heap) : PySem.W.Frag := (List.range h.objs.size).filterMap fun a => (h.get? a).map fun o => (a, o)
theorem frag_look (h : Heap) {a : Addr} {o : Obj} : ∀ l : List Nat, (l.filterMap fun a => (h.get? a).map fun o => (a, o)).lookup a = some o → h.get? a = some o
  | [], e => by cases e
  | b :: l, e => by
    rw [List.filterMap_cons] at e
    cases hb : h.get? b with
    | none => rw [hb] at e; exact frag_look h l e
    | some ob =>
      rw [hb] at e
      have e : (((b, ob) : Addr × Obj) :: l.filterMap fun a => (h.get? a).map fun o => (a, o)).lookup a = some o := e
      rw [List.lookup_cons] at e
      cases hab : (a == b) with
      | true =>
        rw [hab] at e
        cases e
        rw [eq_of_beq hab]
        exact hb
      | false => rw [hab] at e; exact frag_look h l e
theorem frag_in (h : Heap) : (fragOf h).In h := fun _ _ e => frag_look h _ e
def gRef (K : PySem.W.Frag) (x : Str) : Option Addr := match PySem.W.nsIn K mainGlobals x with
  | some (some (.ref a)) => some a
  | _ => none
theorem gRef_eq {K : PySem.W.Frag} {x : Str} {a : Addr} (h : gRef K x = some a) : PySem.W.nsIn K mainGlobals x = some (some (.ref a)) := by
  unfold gRef at h
  split at h
  · rename_i b e
    cases h
    exact e
  · cases h
def cA (K : PySem.W.Frag) (x : Str) : Addr := (gRef K x).getD 0
def mRef (K : PySem.W.Frag) (C : Addr) (x : Str) : Option Addr := match PySem.W.findIn K (.ref C) x with
  | some (some (.ref a)) => some a
  | _ => none
theorem mRef_eq {K : PySem.W.Frag} {C : Addr} {x : Str} {a : Addr} (h : mRef K C x = some a) : PySem.W.findIn K (.ref C) x = some (some (.ref a)) := by
  unfold mRef at h
  split at h
  · rename_i b e
    cases h
    exact e
  · cases h
abbrev FnO := Option (Str × Str × Arguments × FuncBody × Scope × (Addr × List (Str × Addr) × Value × Addr) × (Bool × Bool × Bool))
def obsFn (K : PySem.W.Frag) (f : Option Addr) : FnO := match f with
  | some f => (match K.lookup f with
    | some ⟨_, _, .func fd, _⟩ => some (fd.name, fd.qualname, fd.params, fd.body, fd.scope, (fd.globals, fd.closure, fd.defaults, fd.builtins), (PySem.W.codeIn K fd.code fd.qualname, PySem.W.keepIn K (.ref f), PySem.W.isFn K (.ref f)))
    | _ => none)
  | none => none
def expFn (x qual : Str) (st : Stmt) : FnO := some (x, qual, defArgs st, .stmts (defBody st), defScope st, (mainGlobals, [], .none, builtinsNs), (true, true, true))
theorem fun_of {K : PySem.W.Frag} {x qual : Str} {st : Stmt} {f : Option Addr} (h : obsFn K f = expFn x qual st) : ∃ a fd, f = some a ∧ Fun K x qual st a fd ∧ PySem.W.isFn K (.ref a) = true ∧ PySem.W.keepIn K (.ref a) = true := by
  cases f with
  | none => cases h
  | some f =>
    unfold obsFn expFn at h
    dsimp only at h
    split at h
    · rename_i oc od fd sl hl
      obtain ⟨nm, ql, pr, bd, sc, gl, cl, df, kd, dc, pm, an, cd, ct, bt⟩ := fd
      simp only [Option.some.injEq, Prod.mk.injEq] at h
      obtain ⟨rfl, rfl, rfl, rfl, rfl, ⟨rfl, rfl, rfl, rfl⟩, h1, h2, h3⟩ := h
      exact ⟨f, _, rfl, fun_mk hl h1 h2, h3, h2⟩
    · cases h
def isNil : Option (Option Value) → Bool
  | some none => true
  | _ => false
theorem isNil_eq : ∀ {x : Option (Option Value)}, isNil x = true → x = some none
  | some none, _ => rfl
  | none, h => by cases h
  | some (some _), h => by cases h
def isInt (i : Int) : Option (Option Value) → Bool
  | some (some (.int j _)) => decide (j = i)
  | _ => false
theorem isInt_eq {i : Int} {x : Option (Option Value)} (h : isInt i x = true) : ∃ t, x = some (some (.int i t)) := by
  unfold isInt at h
  split at h
  · rename_i j t
    cases of_decide_eq_true h
    exact ⟨t, rfl⟩
  · cases h
theorem gi_of {K : PySem.W.Frag} {h : Heap} {mg : Str → Option Value} {x : Str} {i : Int} (X : K.In h) (G : h.Ns mainGlobals mg) (e : isInt i (PySem.W.nsIn K mainGlobals x) = true) : GI mg x i := by
  obtain ⟨t, e⟩ := isInt_eq e
  exact ⟨t, PySem.W.mg_of X G e⟩
def isBlt (s : String) : Option (Option Value) → Bool
  | some (some (.builtin t)) => decide (t = s)
  | _ => false
theorem isBlt_eq {s : String} {x : Option (Option Value)} (h : isBlt s x = true) : x = some (some (.builtin s)) := by
  unfold isBlt at h
  split at h
  · rename_i t
    cases of_decide_eq_true h
    rfl
  · cases h
def isCls (K : PySem.W.Frag) (C : Addr) : Bool := PySem.W.plainGet K C Str.empty && (PySem.W.hasDictIn K C && (PySem.W.plainOver K C && isBlt "object.__setattr__" (PySem.W.findIn K (.ref C) "__setattr__")))
theorem isCls_eq {K : PySem.W.Frag} {C : Addr} (h : isCls K C = true) : Cls K C := by
  unfold isCls at h
  rw [Bool.and_eq_true, Bool.and_eq_true, Bool.and_eq_true] at h
  exact ⟨h.1, h.2.1, h.2.2.1, isBlt_eq h.2.2.2⟩
theorem fnD_of {K : PySem.W.Frag} {h : Heap} {mg : Str → Option Value} {x : Str} {st : Stmt} (X : K.In h) (G : h.Ns mainGlobals mg) (e : obsFn K (gRef K x) = expFn x x st) : FnD K mg x st := by
  obtain ⟨a, fd, e1, F, _, _⟩ := fun_of e
  exact ⟨a, fd, F, PySem.W.mg_of X G (gRef_eq e1)⟩
theorem mtD_of {K : PySem.W.Frag} {C : Addr} {m qual : Str} {st : Stmt} (e : obsFn K (mRef K C m) = expFn m qual st) : MtD K C m qual st := by
  obtain ⟨a, fd, e1, F, h1, h2⟩ := fun_of e
  exact ⟨a, fd, F, ⟨mRef_eq e1, h1, h2⟩⟩
theorem mkD_of {K : PySem.W.Frag} {h : Heap} {mg : Str → Option Value} {x qual : Str} {st : Stmt} (X : K.In h) (G : h.Ns mainGlobals mg) (e : obsFn K (mRef K (cA K x) "__init__") = expFn "__init__" qual st) (q : ((gRef K x).isSome && (PySem.W.makesIn K (cA K x) && PySem.W.keepIn K (.ref (cA K x)))) = true) : MkD K mg x qual (cA K x) st := by
  obtain ⟨a, fd, e1, F, h1, h2⟩ := fun_of e
  rw [Bool.and_eq_true, Bool.and_eq_true] at q
  obtain ⟨c, hc⟩ := Option.isSome_iff_exists.mp q.1
  refine ⟨a, fd, F, ⟨q.2.1, mRef_eq e1, h1, q.2.2⟩, ?_⟩
  have e2 : cA K x = c := by unfold cA; rw [hc]; rfl
  rw [e2]
  exact PySem.W.mg_of X G (gRef_eq hc)
theorem all_cons {b : Bool} {l : List Bool} (h : (b :: l).all id = true) : b = true ∧ l.all id = true := by
  rw [List.all_cons, Bool.and_eq_true] at h
  exact h
def tupAt (K : PySem.W.Frag) (a : Addr) : Option (List Value) := match K.lookup a with
  | some ⟨.type t, _, .seq its _, _⟩ => if t = "tuple" ∧ its.size ≤ sizeLine then some its.toList else none
  | _ => none
theorem tupAt_eq {K : PySem.W.Frag} {a : Addr} {vs : List Value} (h : tupAt K a = some vs) {xs : List V} (r : Vals xs vs) : KT K a xs := by
  unfold tupAt at h
  split at h
  · rename_i t od its n sl hl
    split at h
    · rename_i hc
      cases h
      obtain ⟨rfl, h2⟩ := hc
      exact ⟨_, its, n, hl, rfl, rfl, h2, r⟩
    · cases h
  · cases h
def pairAt (K : PySem.W.Frag) : Value → Option (Int × Bool)
  | .ref a => (match tupAt K a with
    | some [.int n _, .bool b] => some (n, b)
    | _ => none)
  | _ => none
theorem pairAt_eq {K : PySem.W.Frag} {v : Value} {n : Int} {b : Bool} (h : pairAt K v = some (n, b)) : ∃ a, v = .ref a ∧ KT K a [.int n, .bl b] := by
  unfold pairAt at h
  split at h
  · rename_i a
    split at h
    · rename_i n' t b' hl
      cases h
      exact ⟨a, rfl, tupAt_eq hl (.cons ⟨t, rfl⟩ (.cons rfl .nil))⟩
    · cases h
  · cases h
def tupObs (K : PySem.W.Frag) (x : Str) : Option (List (Option (Int × Bool))) := match gRef K x with
  | some a => (match tupAt K a with
    | some l => some (l.map (pairAt K))
    | none => none)
  | none => none
theorem refs_of {K : PySem.W.Frag} : ∀ {l : List Value} {es : List (Int × Bool)}, l.map (pairAt K) = es.map some → ∃ fs : List V, Vals fs l ∧ fs.length = es.length ∧ ∀ (i : Nat) (e : Int × Bool), es[i]? = some e → ∃ t, fs[i]? = some (.ref t) ∧ KT K t [.int e.1, .bl e.2]
  | [], [], _ => ⟨[], .nil, rfl, fun i e h => by cases h⟩
  | [], _ :: _, h => by cases h
  | _ :: _, [], h => by cases h
  | v :: l, e :: es, h => by
    rw [List.map_cons, List.map_cons] at h
    obtain ⟨h1, h2⟩ := List.cons.inj h
    obtain ⟨a, rfl, ka⟩ := pairAt_eq (n := e.1) (b := e.2) h1
    obtain ⟨fs, hv, hl, hk⟩ := refs_of h2
    refine ⟨.ref a :: fs, .cons rfl hv, by rw [List.length_cons, List.length_cons, hl], fun i x hx => ?_⟩
    cases i with
    | zero =>
      cases hx
      exact ⟨a, rfl, ka⟩
    | succ i => exact hk i x hx
theorem forms_obs {K : PySem.W.Frag} {h : Heap} {mg : Str → Option Value} (X : K.In h) (G : h.Ns mainGlobals mg) (e : tupObs K "FORMS" = some [some (0, true), some (1, false), some (3, true), some (3, false), some (4, false), some (1, false), some (0, false), some (0, false), some (0, false), some (1, false), some (1, false), some (0, false), some (0, true)]) :
    ∃ fa fs, GR mg "FORMS" fa ∧ KT K fa fs ∧ fs.length = 13 ∧ (∃ t, fs[0]? = some (.ref t) ∧ KT K t [.int 0, .bl true]) ∧ (∃ t, fs[1]? = some (.ref t) ∧ KT K t [.int 1, .bl false]) ∧ (∃ t, fs[2]? = some (.ref t) ∧ KT K t [.int 3, .bl true]) ∧ (∃ t, fs[3]? = some (.ref t) ∧ KT K t [.int 3, .bl false]) ∧ (∃ t, fs[4]? = some (.ref t) ∧ KT K t [.int 4, .bl false]) ∧ (∃ t, fs[5]? = some (.ref t) ∧ KT K t [.int 1, .bl false]) ∧ (∃ t, fs[6]? = some (.ref t) ∧ KT K t [.int 0, .bl false]) ∧ (∃ t, fs[7]? = some (.ref t) ∧ KT K t [.int 0, .bl false]) ∧ (∃ t, fs[8]? = some (.ref t) ∧ KT K t [.int 0, .bl false]) ∧ (∃ t, fs[9]? = some (.ref t) ∧ KT K t [.int 1, .bl false]) ∧ (∃ t, fs[10]? = some (.ref t) ∧ KT K t [.int 1, .bl false]) ∧ (∃ t, fs[11]? = some (.ref t) ∧ KT K t [.int 0, .bl false]) ∧ (∃ t, fs[12]? = some (.ref t) ∧ KT K t [.int 0, .bl true]) := by
  unfold tupObs at e
  split at e
  · rename_i a ha
    split at e
    · rename_i l hl
      obtain ⟨fs, hv, hlen, hk⟩ := refs_of (K := K) (l := l) (es := [(0, true), (1, false), (3, true), (3, false), (4, false), (1, false), (0, false), (0, false), (0, false), (1, false), (1, false), (0, false), (0, true)]) (Option.some.inj e)
      exact ⟨a, fs, PySem.W.mg_of X G (gRef_eq ha), tupAt_eq hl hv, hlen, hk 0 _ rfl, hk 1 _ rfl, hk 2 _ rfl, hk 3 _ rfl, hk 4 _ rfl, hk 5 _ rfl, hk 6 _ rfl, hk 7 _ rfl, hk 8 _ rfl, hk 9 _ rfl, hk 10 _ rfl, hk 11 _ rfl, hk 12 _ rfl⟩
    · cases e
  · cases e
def fnsObs (K : PySem.W.Frag) : List FnO := [obsFn K (gRef K "change_mark"), obsFn K (gRef K "keep_mark"), obsFn K (gRef K "move_mark"), obsFn K (gRef K "ask_the_same"), obsFn K (gRef K "lies_within"), obsFn K (gRef K "takes_of"), obsFn K (gRef K "breaks_into"), obsFn K (gRef K "gainsay"), obsFn K (gRef K "clashing_pairs"), obsFn K (gRef K "asked_by"), obsFn K (gRef K "brought_by"), obsFn K (gRef K "bare_words"), obsFn K (gRef K "puts_of"), obsFn K (gRef K "takers_of"), obsFn K (gRef K "carry_out"), obsFn K (gRef K "gone_words"), obsFn K (gRef K "start_of"), obsFn K (gRef K "followed"), obsFn K (gRef K "agrees_with_all"), obsFn K (gRef K "agreeing_sets"), obsFn K (gRef K "weight_of"), obsFn K (gRef K "weightiest"), obsFn K (gRef K "are_words"), obsFn K (gRef K "told_in_pairs"), obsFn K (gRef K "told_words"), obsFn K (gRef K "answers"), obsFn K (gRef K "answer_call"), obsFn K (mRef K (cA K "Mark") "__init__"), obsFn K (mRef K (cA K "Carried") "__init__"), obsFn K (mRef K (cA K "Proof") "__init__"), obsFn K (mRef K (cA K "Proof") "begins"), obsFn K (mRef K (cA K "Proof") "add_reader"), obsFn K (mRef K (cA K "Proof") "change"), obsFn K (mRef K (cA K "Proof") "keep"), obsFn K (mRef K (cA K "Proof") "move"), obsFn K (mRef K (cA K "Proof") "withdraw"), obsFn K (mRef K (cA K "Proof") "clashes"), obsFn K (mRef K (cA K "Proof") "carry"), obsFn K (mRef K (cA K "Proof") "shown"), obsFn K (mRef K (cA K "Proof") "who"), obsFn K (mRef K (cA K "Proof") "tell_mark"), obsFn K (mRef K (cA K "Proof") "gone"), obsFn K (mRef K (cA K "Proof") "test"), obsFn K (mRef K (cA K "Proof") "has_reader"), obsFn K (mRef K (cA K "Proof") "has_mark"), obsFn K (mRef K (cA K "Proof") "stands_open"), obsFn K (mRef K (cA K "Proof") "has_words"), obsFn K (mRef K (cA K "Proof") "change_fits"), obsFn K (mRef K (cA K "Proof") "move_fits"), obsFn K (mRef K (cA K "Proof") "open_marks"), obsFn K (mRef K (cA K "Proof") "add_mark"), obsFn K (mRef K (cA K "Proof") "close_mark"), obsFn K (mRef K (cA K "Proof") "follow_mark")]
def fnsExp : List FnO := [expFn "change_mark" "change_mark" s_change_mark, expFn "keep_mark" "keep_mark" s_keep_mark, expFn "move_mark" "move_mark" s_move_mark, expFn "ask_the_same" "ask_the_same" s_ask_the_same, expFn "lies_within" "lies_within" s_lies_within, expFn "takes_of" "takes_of" s_takes_of, expFn "breaks_into" "breaks_into" s_breaks_into, expFn "gainsay" "gainsay" s_gainsay, expFn "clashing_pairs" "clashing_pairs" s_clashing_pairs, expFn "asked_by" "asked_by" s_asked_by, expFn "brought_by" "brought_by" s_brought_by, expFn "bare_words" "bare_words" s_bare_words, expFn "puts_of" "puts_of" s_puts_of, expFn "takers_of" "takers_of" s_takers_of, expFn "carry_out" "carry_out" s_carry_out, expFn "gone_words" "gone_words" s_gone_words, expFn "start_of" "start_of" s_start_of, expFn "followed" "followed" s_followed, expFn "agrees_with_all" "agrees_with_all" s_agrees_with_all, expFn "agreeing_sets" "agreeing_sets" s_agreeing_sets, expFn "weight_of" "weight_of" s_weight_of, expFn "weightiest" "weightiest" s_weightiest, expFn "are_words" "are_words" s_are_words, expFn "told_in_pairs" "told_in_pairs" s_told_in_pairs, expFn "told_words" "told_words" s_told_words, expFn "answers" "answers" s_answers, expFn "answer_call" "answer_call" s_answer_call, expFn "__init__" "Mark.__init__" s_Mark___init__, expFn "__init__" "Carried.__init__" s_Carried___init__, expFn "__init__" "Proof.__init__" s_Proof___init__, expFn "begins" "Proof.begins" s_Proof_begins, expFn "add_reader" "Proof.add_reader" s_Proof_add_reader, expFn "change" "Proof.change" s_Proof_change, expFn "keep" "Proof.keep" s_Proof_keep, expFn "move" "Proof.move" s_Proof_move, expFn "withdraw" "Proof.withdraw" s_Proof_withdraw, expFn "clashes" "Proof.clashes" s_Proof_clashes, expFn "carry" "Proof.carry" s_Proof_carry, expFn "shown" "Proof.shown" s_Proof_shown, expFn "who" "Proof.who" s_Proof_who, expFn "tell_mark" "Proof.tell_mark" s_Proof_tell_mark, expFn "gone" "Proof.gone" s_Proof_gone, expFn "test" "Proof.test" s_Proof_test, expFn "has_reader" "Proof.has_reader" s_Proof_has_reader, expFn "has_mark" "Proof.has_mark" s_Proof_has_mark, expFn "stands_open" "Proof.stands_open" s_Proof_stands_open, expFn "has_words" "Proof.has_words" s_Proof_has_words, expFn "change_fits" "Proof.change_fits" s_Proof_change_fits, expFn "move_fits" "Proof.move_fits" s_Proof_move_fits, expFn "open_marks" "Proof.open_marks" s_Proof_open_marks, expFn "add_mark" "Proof.add_mark" s_Proof_add_mark, expFn "close_mark" "Proof.close_mark" s_Proof_close_mark, expFn "follow_mark" "Proof.follow_mark" s_Proof_follow_mark]
def bsObs (K : PySem.W.Frag) : List Bool := [isNil (PySem.W.nsIn K mainGlobals "all"), isNil (PySem.W.nsIn K mainGlobals "enumerate"), isNil (PySem.W.nsIn K mainGlobals "len"), isNil (PySem.W.nsIn K mainGlobals "list"), isNil (PySem.W.nsIn K mainGlobals "max"), isNil (PySem.W.nsIn K mainGlobals "min"), isNil (PySem.W.nsIn K mainGlobals "range"), isNil (PySem.W.nsIn K mainGlobals "sum"), isInt 0 (PySem.W.nsIn K mainGlobals "CHANGE"), isInt 1 (PySem.W.nsIn K mainGlobals "KEEP"), isInt 2 (PySem.W.nsIn K mainGlobals "MOVE"), isInt 0 (PySem.W.nsIn K mainGlobals "STANDS_OPEN"), isInt 1 (PySem.W.nsIn K mainGlobals "CARRIED_OUT"), isInt 2 (PySem.W.nsIn K mainGlobals "LOST"), isInt 3 (PySem.W.nsIn K mainGlobals "WITHDRAWN"), isInt (-1) (PySem.W.nsIn K mainGlobals "NOBODY"), isInt 99999 (PySem.W.nsIn K mainGlobals "GREATEST_WORD"), isInt 1000 (PySem.W.nsIn K mainGlobals "GREATEST_WEIGHT"), isInt 100 (PySem.W.nsIn K mainGlobals "MOST_WORDS"), isInt 20 (PySem.W.nsIn K mainGlobals "MOST_CHANGE_WORDS"), isInt 8 (PySem.W.nsIn K mainGlobals "MOST_READERS"), isInt 10 (PySem.W.nsIn K mainGlobals "MOST_OPEN_MARKS"), isInt 60 (PySem.W.nsIn K mainGlobals "MOST_MARKS"), isInt (-1) (PySem.W.nsIn K mainGlobals "UNFIT"), isInt (-2) (PySem.W.nsIn K mainGlobals "MISSING"), isInt (-4) (PySem.W.nsIn K mainGlobals "HINDERED"), isInt (-5) (PySem.W.nsIn K mainGlobals "FULL"), isInt (-6) (PySem.W.nsIn K mainGlobals "NO_WORD"), isInt 0 (PySem.W.nsIn K mainGlobals "WAS_THERE"), isInt 1 (PySem.W.nsIn K mainGlobals "WAS_BROUGHT"), isInt 0 (PySem.W.nsIn K mainGlobals "BEGINS_CALL"), isInt 1 (PySem.W.nsIn K mainGlobals "READER_CALL"), isInt 2 (PySem.W.nsIn K mainGlobals "CHANGE_CALL"), isInt 3 (PySem.W.nsIn K mainGlobals "KEEP_CALL"), isInt 4 (PySem.W.nsIn K mainGlobals "MOVE_CALL"), isInt 5 (PySem.W.nsIn K mainGlobals "WITHDRAW_CALL"), isInt 6 (PySem.W.nsIn K mainGlobals "CLASHES_CALL"), isInt 7 (PySem.W.nsIn K mainGlobals "CARRY_CALL"), isInt 8 (PySem.W.nsIn K mainGlobals "SHOWN_CALL"), isInt 9 (PySem.W.nsIn K mainGlobals "WHO_CALL"), isInt 10 (PySem.W.nsIn K mainGlobals "MARK_CALL"), isInt 11 (PySem.W.nsIn K mainGlobals "GONE_CALL"), isCls K (cA K "Mark"), ((gRef K "Mark").isSome && (PySem.W.makesIn K (cA K "Mark") && PySem.W.keepIn K (.ref (cA K "Mark")))), isNil (PySem.W.findIn K (.ref (cA K "Mark")) "reader"), isNil (PySem.W.findIn K (.ref (cA K "Mark")) "kind"), isNil (PySem.W.findIn K (.ref (cA K "Mark")) "start"), isNil (PySem.W.findIn K (.ref (cA K "Mark")) "end"), isNil (PySem.W.findIn K (.ref (cA K "Mark")) "gap"), isNil (PySem.W.findIn K (.ref (cA K "Mark")) "words"), isNil (PySem.W.findIn K (.ref (cA K "Mark")) "state"), isNil (PySem.W.findIn K (.ref (cA K "Mark")) "closed_in"), isCls K (cA K "Carried"), ((gRef K "Carried").isSome && (PySem.W.makesIn K (cA K "Carried") && PySem.W.keepIn K (.ref (cA K "Carried")))), isNil (PySem.W.findIn K (.ref (cA K "Carried")) "text"), isNil (PySem.W.findIn K (.ref (cA K "Carried")) "gaps"), isCls K (cA K "Proof"), ((gRef K "Proof").isSome && (PySem.W.makesIn K (cA K "Proof") && PySem.W.keepIn K (.ref (cA K "Proof")))), isNil (PySem.W.findIn K (.ref (cA K "Proof")) "text"), isNil (PySem.W.findIn K (.ref (cA K "Proof")) "weights"), isNil (PySem.W.findIn K (.ref (cA K "Proof")) "marks"), isNil (PySem.W.findIn K (.ref (cA K "Proof")) "number"), isNil (PySem.W.findIn K (.ref (cA K "Proof")) "losses")]
def obsK (K : PySem.W.Frag) : List FnO × (Bool × Option (List (Option (Int × Bool)))) := (fnsObs K, ((bsObs K).all id, tupObs K "FORMS"))
def expK : List FnO × (Bool × Option (List (Option (Int × Bool)))) := (fnsExp, (true, some [some (0, true), some (1, false), some (3, true), some (3, false), some (4, false), some (1, false), some (0, false), some (0, false), some (0, false), some (1, false), some (1, false), some (0, false), some (0, true)]))
theorem facts_of {K : PySem.W.Frag} {h : Heap} {mg : Str → Option Value} (X : K.In h) (G : h.Ns mainGlobals mg) (e : obsK K = expK) : Facts K mg (cA K "Mark") (cA K "Carried") (cA K "Proof") := by
  have e1 : fnsObs K = fnsExp := congrArg Prod.fst e
  have e2 : (bsObs K).all id = true := congrArg (fun x => x.2.1) e
  have e3 : tupObs K "FORMS" = _ := congrArg (fun x => x.2.2) e
  clear e
  unfold fnsObs fnsExp at e1
  unfold bsObs at e2
  obtain ⟨e_d_change_mark, e1⟩ := List.cons.inj e1
  obtain ⟨e_d_keep_mark, e1⟩ := List.cons.inj e1
  obtain ⟨e_d_move_mark, e1⟩ := List.cons.inj e1
  obtain ⟨e_d_ask_the_same, e1⟩ := List.cons.inj e1
  obtain ⟨e_d_lies_within, e1⟩ := List.cons.inj e1
  obtain ⟨e_d_takes_of, e1⟩ := List.cons.inj e1
  obtain ⟨e_d_breaks_into, e1⟩ := List.cons.inj e1
  obtain ⟨e_d_gainsay, e1⟩ := List.cons.inj e1
  obtain ⟨e_d_clashing_pairs, e1⟩ := List.cons.inj e1
  obtain ⟨e_d_asked_by, e1⟩ := List.cons.inj e1
  obtain ⟨e_d_brought_by, e1⟩ := List.cons.inj e1
  obtain ⟨e_d_bare_words, e1⟩ := List.cons.inj e1
  obtain ⟨e_d_puts_of, e1⟩ := List.cons.inj e1
  obtain ⟨e_d_takers_of, e1⟩ := List.cons.inj e1
  obtain ⟨e_d_carry_out, e1⟩ := List.cons.inj e1
  obtain ⟨e_d_gone_words, e1⟩ := List.cons.inj e1
  obtain ⟨e_d_start_of, e1⟩ := List.cons.inj e1
  obtain ⟨e_d_followed, e1⟩ := List.cons.inj e1
  obtain ⟨e_d_agrees_with_all, e1⟩ := List.cons.inj e1
  obtain ⟨e_d_agreeing_sets, e1⟩ := List.cons.inj e1
  obtain ⟨e_d_weight_of, e1⟩ := List.cons.inj e1
  obtain ⟨e_d_weightiest, e1⟩ := List.cons.inj e1
  obtain ⟨e_d_are_words, e1⟩ := List.cons.inj e1
  obtain ⟨e_d_told_in_pairs, e1⟩ := List.cons.inj e1
  obtain ⟨e_d_told_words, e1⟩ := List.cons.inj e1
  obtain ⟨e_d_answers, e1⟩ := List.cons.inj e1
  obtain ⟨e_d_answer_call, e1⟩ := List.cons.inj e1
  obtain ⟨e_k_Mark, e1⟩ := List.cons.inj e1
  obtain ⟨e_k_Carried, e1⟩ := List.cons.inj e1
  obtain ⟨e_k_Proof, e1⟩ := List.cons.inj e1
  obtain ⟨e_m_Proof_begins, e1⟩ := List.cons.inj e1
  obtain ⟨e_m_Proof_add_reader, e1⟩ := List.cons.inj e1
  obtain ⟨e_m_Proof_change, e1⟩ := List.cons.inj e1
  obtain ⟨e_m_Proof_keep, e1⟩ := List.cons.inj e1
  obtain ⟨e_m_Proof_move, e1⟩ := List.cons.inj e1
  obtain ⟨e_m_Proof_withdraw, e1⟩ := List.cons.inj e1
  obtain ⟨e_m_Proof_clashes, e1⟩ := List.cons.inj e1
  obtain ⟨e_m_Proof_carry, e1⟩ := List.cons.inj e1
  obtain ⟨e_m_Proof_shown, e1⟩ := List.cons.inj e1
  obtain ⟨e_m_Proof_who, e1⟩ := List.cons.inj e1
  obtain ⟨e_m_Proof_tell_mark, e1⟩ := List.cons.inj e1
  obtain ⟨e_m_Proof_gone, e1⟩ := List.cons.inj e1
  obtain ⟨e_m_Proof_test, e1⟩ := List.cons.inj e1
  obtain ⟨e_m_Proof_has_reader, e1⟩ := List.cons.inj e1
  obtain ⟨e_m_Proof_has_mark, e1⟩ := List.cons.inj e1
  obtain ⟨e_m_Proof_stands_open, e1⟩ := List.cons.inj e1
  obtain ⟨e_m_Proof_has_words, e1⟩ := List.cons.inj e1
  obtain ⟨e_m_Proof_change_fits, e1⟩ := List.cons.inj e1
  obtain ⟨e_m_Proof_move_fits, e1⟩ := List.cons.inj e1
  obtain ⟨e_m_Proof_open_marks, e1⟩ := List.cons.inj e1
  obtain ⟨e_m_Proof_add_mark, e1⟩ := List.cons.inj e1
  obtain ⟨e_m_Proof_close_mark, e1⟩ := List.cons.inj e1
  obtain ⟨e_m_Proof_follow_mark, e1⟩ := List.cons.inj e1
  clear e1
  obtain ⟨q_b_all, e2⟩ := all_cons e2
  obtain ⟨q_b_enumerate, e2⟩ := all_cons e2
  obtain ⟨q_b_len, e2⟩ := all_cons e2
  obtain ⟨q_b_list, e2⟩ := all_cons e2
  obtain ⟨q_b_max, e2⟩ := all_cons e2
  obtain ⟨q_b_min, e2⟩ := all_cons e2
  obtain ⟨q_b_range, e2⟩ := all_cons e2
  obtain ⟨q_b_sum, e2⟩ := all_cons e2
  obtain ⟨q_g_CHANGE, e2⟩ := all_cons e2
  obtain ⟨q_g_KEEP, e2⟩ := all_cons e2
  obtain ⟨q_g_MOVE, e2⟩ := all_cons e2
  obtain ⟨q_g_STANDS_OPEN, e2⟩ := all_cons e2
  obtain ⟨q_g_CARRIED_OUT, e2⟩ := all_cons e2
  obtain ⟨q_g_LOST, e2⟩ := all_cons e2
  obtain ⟨q_g_WITHDRAWN, e2⟩ := all_cons e2
  obtain ⟨q_g_NOBODY, e2⟩ := all_cons e2
  obtain ⟨q_g_GREATEST_WORD, e2⟩ := all_cons e2
  obtain ⟨q_g_GREATEST_WEIGHT, e2⟩ := all_cons e2
  obtain ⟨q_g_MOST_WORDS, e2⟩ := all_cons e2
  obtain ⟨q_g_MOST_CHANGE_WORDS, e2⟩ := all_cons e2
  obtain ⟨q_g_MOST_READERS, e2⟩ := all_cons e2
  obtain ⟨q_g_MOST_OPEN_MARKS, e2⟩ := all_cons e2
  obtain ⟨q_g_MOST_MARKS, e2⟩ := all_cons e2
  obtain ⟨q_g_UNFIT, e2⟩ := all_cons e2
  obtain ⟨q_g_MISSING, e2⟩ := all_cons e2
  obtain ⟨q_g_HINDERED, e2⟩ := all_cons e2
  obtain ⟨q_g_FULL, e2⟩ := all_cons e2
  obtain ⟨q_g_NO_WORD, e2⟩ := all_cons e2
  obtain ⟨q_g_WAS_THERE, e2⟩ := all_cons e2
  obtain ⟨q_g_WAS_BROUGHT, e2⟩ := all_cons e2
  obtain ⟨q_g_BEGINS_CALL, e2⟩ := all_cons e2
  obtain ⟨q_g_READER_CALL, e2⟩ := all_cons e2
  obtain ⟨q_g_CHANGE_CALL, e2⟩ := all_cons e2
  obtain ⟨q_g_KEEP_CALL, e2⟩ := all_cons e2
  obtain ⟨q_g_MOVE_CALL, e2⟩ := all_cons e2
  obtain ⟨q_g_WITHDRAW_CALL, e2⟩ := all_cons e2
  obtain ⟨q_g_CLASHES_CALL, e2⟩ := all_cons e2
  obtain ⟨q_g_CARRY_CALL, e2⟩ := all_cons e2
  obtain ⟨q_g_SHOWN_CALL, e2⟩ := all_cons e2
  obtain ⟨q_g_WHO_CALL, e2⟩ := all_cons e2
  obtain ⟨q_g_MARK_CALL, e2⟩ := all_cons e2
  obtain ⟨q_g_GONE_CALL, e2⟩ := all_cons e2
  obtain ⟨q_cl_Mark, e2⟩ := all_cons e2
  obtain ⟨q_mk_Mark, e2⟩ := all_cons e2
  obtain ⟨q_n_Mark_reader, e2⟩ := all_cons e2
  obtain ⟨q_n_Mark_kind, e2⟩ := all_cons e2
  obtain ⟨q_n_Mark_start, e2⟩ := all_cons e2
  obtain ⟨q_n_Mark_end, e2⟩ := all_cons e2
  obtain ⟨q_n_Mark_gap, e2⟩ := all_cons e2
  obtain ⟨q_n_Mark_words, e2⟩ := all_cons e2
  obtain ⟨q_n_Mark_state, e2⟩ := all_cons e2
  obtain ⟨q_n_Mark_closed_in, e2⟩ := all_cons e2
  obtain ⟨q_cl_Carried, e2⟩ := all_cons e2
  obtain ⟨q_mk_Carried, e2⟩ := all_cons e2
  obtain ⟨q_n_Carried_text, e2⟩ := all_cons e2
  obtain ⟨q_n_Carried_gaps, e2⟩ := all_cons e2
  obtain ⟨q_cl_Proof, e2⟩ := all_cons e2
  obtain ⟨q_mk_Proof, e2⟩ := all_cons e2
  obtain ⟨q_n_Proof_text, e2⟩ := all_cons e2
  obtain ⟨q_n_Proof_weights, e2⟩ := all_cons e2
  obtain ⟨q_n_Proof_marks, e2⟩ := all_cons e2
  obtain ⟨q_n_Proof_number, e2⟩ := all_cons e2
  obtain ⟨q_n_Proof_losses, e2⟩ := all_cons e2
  clear e2
  exact {
    b_all := PySem.W.mg_none_of X G (isNil_eq q_b_all)
    b_enumerate := PySem.W.mg_none_of X G (isNil_eq q_b_enumerate)
    b_len := PySem.W.mg_none_of X G (isNil_eq q_b_len)
    b_list := PySem.W.mg_none_of X G (isNil_eq q_b_list)
    b_max := PySem.W.mg_none_of X G (isNil_eq q_b_max)
    b_min := PySem.W.mg_none_of X G (isNil_eq q_b_min)
    b_range := PySem.W.mg_none_of X G (isNil_eq q_b_range)
    b_sum := PySem.W.mg_none_of X G (isNil_eq q_b_sum)
    g_CHANGE := gi_of X G q_g_CHANGE
    g_KEEP := gi_of X G q_g_KEEP
    g_MOVE := gi_of X G q_g_MOVE
    g_STANDS_OPEN := gi_of X G q_g_STANDS_OPEN
    g_CARRIED_OUT := gi_of X G q_g_CARRIED_OUT
    g_LOST := gi_of X G q_g_LOST
    g_WITHDRAWN := gi_of X G q_g_WITHDRAWN
    g_NOBODY := gi_of X G q_g_NOBODY
    g_GREATEST_WORD := gi_of X G q_g_GREATEST_WORD
    g_GREATEST_WEIGHT := gi_of X G q_g_GREATEST_WEIGHT
    g_MOST_WORDS := gi_of X G q_g_MOST_WORDS
    g_MOST_CHANGE_WORDS := gi_of X G q_g_MOST_CHANGE_WORDS
    g_MOST_READERS := gi_of X G q_g_MOST_READERS
    g_MOST_OPEN_MARKS := gi_of X G q_g_MOST_OPEN_MARKS
    g_MOST_MARKS := gi_of X G q_g_MOST_MARKS
    g_UNFIT := gi_of X G q_g_UNFIT
    g_MISSING := gi_of X G q_g_MISSING
    g_HINDERED := gi_of X G q_g_HINDERED
    g_FULL := gi_of X G q_g_FULL
    g_NO_WORD := gi_of X G q_g_NO_WORD
    g_WAS_THERE := gi_of X G q_g_WAS_THERE
    g_WAS_BROUGHT := gi_of X G q_g_WAS_BROUGHT
    g_BEGINS_CALL := gi_of X G q_g_BEGINS_CALL
    g_READER_CALL := gi_of X G q_g_READER_CALL
    g_CHANGE_CALL := gi_of X G q_g_CHANGE_CALL
    g_KEEP_CALL := gi_of X G q_g_KEEP_CALL
    g_MOVE_CALL := gi_of X G q_g_MOVE_CALL
    g_WITHDRAW_CALL := gi_of X G q_g_WITHDRAW_CALL
    g_CLASHES_CALL := gi_of X G q_g_CLASHES_CALL
    g_CARRY_CALL := gi_of X G q_g_CARRY_CALL
    g_SHOWN_CALL := gi_of X G q_g_SHOWN_CALL
    g_WHO_CALL := gi_of X G q_g_WHO_CALL
    g_MARK_CALL := gi_of X G q_g_MARK_CALL
    g_GONE_CALL := gi_of X G q_g_GONE_CALL
    cl_Mark := isCls_eq q_cl_Mark
    n_Mark_reader := isNil_eq q_n_Mark_reader
    n_Mark_kind := isNil_eq q_n_Mark_kind
    n_Mark_start := isNil_eq q_n_Mark_start
    n_Mark_end := isNil_eq q_n_Mark_end
    n_Mark_gap := isNil_eq q_n_Mark_gap
    n_Mark_words := isNil_eq q_n_Mark_words
    n_Mark_state := isNil_eq q_n_Mark_state
    n_Mark_closed_in := isNil_eq q_n_Mark_closed_in
    cl_Carried := isCls_eq q_cl_Carried
    n_Carried_text := isNil_eq q_n_Carried_text
    n_Carried_gaps := isNil_eq q_n_Carried_gaps
    cl_Proof := isCls_eq q_cl_Proof
    n_Proof_text := isNil_eq q_n_Proof_text
    n_Proof_weights := isNil_eq q_n_Proof_weights
    n_Proof_marks := isNil_eq q_n_Proof_marks
    n_Proof_number := isNil_eq q_n_Proof_number
    n_Proof_losses := isNil_eq q_n_Proof_losses
    d_change_mark := fnD_of X G e_d_change_mark
    d_keep_mark := fnD_of X G e_d_keep_mark
    d_move_mark := fnD_of X G e_d_move_mark
    d_ask_the_same := fnD_of X G e_d_ask_the_same
    d_lies_within := fnD_of X G e_d_lies_within
    d_takes_of := fnD_of X G e_d_takes_of
    d_breaks_into := fnD_of X G e_d_breaks_into
    d_gainsay := fnD_of X G e_d_gainsay
    d_clashing_pairs := fnD_of X G e_d_clashing_pairs
    d_asked_by := fnD_of X G e_d_asked_by
    d_brought_by := fnD_of X G e_d_brought_by
    d_bare_words := fnD_of X G e_d_bare_words
    d_puts_of := fnD_of X G e_d_puts_of
    d_takers_of := fnD_of X G e_d_takers_of
    d_carry_out := fnD_of X G e_d_carry_out
    d_gone_words := fnD_of X G e_d_gone_words
    d_start_of := fnD_of X G e_d_start_of
    d_followed := fnD_of X G e_d_followed
    d_agrees_with_all := fnD_of X G e_d_agrees_with_all
    d_agreeing_sets := fnD_of X G e_d_agreeing_sets
    d_weight_of := fnD_of X G e_d_weight_of
    d_weightiest := fnD_of X G e_d_weightiest
    d_are_words := fnD_of X G e_d_are_words
    d_told_in_pairs := fnD_of X G e_d_told_in_pairs
    d_told_words := fnD_of X G e_d_told_words
    d_answers := fnD_of X G e_d_answers
    d_answer_call := fnD_of X G e_d_answer_call
    k_Mark := mkD_of X G e_k_Mark q_mk_Mark
    k_Carried := mkD_of X G e_k_Carried q_mk_Carried
    k_Proof := mkD_of X G e_k_Proof q_mk_Proof
    m_Proof_begins := mtD_of e_m_Proof_begins
    m_Proof_add_reader := mtD_of e_m_Proof_add_reader
    m_Proof_change := mtD_of e_m_Proof_change
    m_Proof_keep := mtD_of e_m_Proof_keep
    m_Proof_move := mtD_of e_m_Proof_move
    m_Proof_withdraw := mtD_of e_m_Proof_withdraw
    m_Proof_clashes := mtD_of e_m_Proof_clashes
    m_Proof_carry := mtD_of e_m_Proof_carry
    m_Proof_shown := mtD_of e_m_Proof_shown
    m_Proof_who := mtD_of e_m_Proof_who
    m_Proof_tell_mark := mtD_of e_m_Proof_tell_mark
    m_Proof_gone := mtD_of e_m_Proof_gone
    m_Proof_test := mtD_of e_m_Proof_test
    m_Proof_has_reader := mtD_of e_m_Proof_has_reader
    m_Proof_has_mark := mtD_of e_m_Proof_has_mark
    m_Proof_stands_open := mtD_of e_m_Proof_stands_open
    m_Proof_has_words := mtD_of e_m_Proof_has_words
    m_Proof_change_fits := mtD_of e_m_Proof_change_fits
    m_Proof_move_fits := mtD_of e_m_Proof_move_fits
    m_Proof_open_marks := mtD_of e_m_Proof_open_marks
    m_Proof_add_mark := mtD_of e_m_Proof_add_mark
    m_Proof_close_mark := mtD_of e_m_Proof_close_mark
    m_Proof_follow_mark := mtD_of e_m_Proof_follow_mark
    t_FORMS := forms_obs X G e3 }
set_option maxHeartbeats 0 in
theorem q_obs : ∀ (w : World) os, (endQ w os).map (fun s => obsK (fragOf s.abs.heap)) = some expK := by
  intro w os
  kernel_rfl
def saysK (_ : World) (h : Heap) : Prop := ∃ K : PySem.W.Frag, K.In h ∧ obsK K = expK
end Pm
namespace Pm
open PySem PySem.Spec PyProof.Rows L2
theorem forms_of {K : PySem.W.Frag} {fs : List V} (h : KT K fa fs ∧ fs.length = 13 ∧ (∃ t, fs[0]? = some (.ref t) ∧ KT K t [.int 0, .bl true]) ∧ (∃ t, fs[1]? = some (.ref t) ∧ KT K t [.int 1, .bl false]) ∧ (∃ t, fs[2]? = some (.ref t) ∧ KT K t [.int 3, .bl true]) ∧ (∃ t, fs[3]? = some (.ref t) ∧ KT K t [.int 3, .bl false]) ∧ (∃ t, fs[4]? = some (.ref t) ∧ KT K t [.int 4, .bl false]) ∧ (∃ t, fs[5]? = some (.ref t) ∧ KT K t [.int 1, .bl false]) ∧ (∃ t, fs[6]? = some (.ref t) ∧ KT K t [.int 0, .bl false]) ∧ (∃ t, fs[7]? = some (.ref t) ∧ KT K t [.int 0, .bl false]) ∧ (∃ t, fs[8]? = some (.ref t) ∧ KT K t [.int 0, .bl false]) ∧ (∃ t, fs[9]? = some (.ref t) ∧ KT K t [.int 1, .bl false]) ∧ (∃ t, fs[10]? = some (.ref t) ∧ KT K t [.int 1, .bl false]) ∧ (∃ t, fs[11]? = some (.ref t) ∧ KT K t [.int 0, .bl false]) ∧ (∃ t, fs[12]? = some (.ref t) ∧ KT K t [.int 0, .bl true])) : Forms K fa fs := by
  obtain ⟨hk, _, f0, f1, f2, f3, f4, f5, f6, f7, f8, f9, f10, f11, f12⟩ := h
  refine ⟨hk, fun c n k hsh => ?_⟩
  have hc : c = 0 ∨ c = 1 ∨ c = 2 ∨ c = 3 ∨ c = 4 ∨ c = 5 ∨ c = 6 ∨ c = 7 ∨ c = 8 ∨ c = 9 ∨ c = 10 ∨ c = 11 ∨ c = 12 := by
    refine Classical.byContradiction fun hno => ?_
    simp only [not_or] at hno
    obtain ⟨n0, n1, n2, n3, n4, n5, n6, n7, n8, n9, n10, n11, n12⟩ := hno
    unfold PySi42.shape at hsh
    rw [if_neg n0, if_neg n1, if_neg n2, if_neg n3, if_neg n4, if_neg n5, if_neg n6, if_neg n7, if_neg n8, if_neg n9, if_neg n10, if_neg n11, if_neg n12] at hsh
    cases hsh
  have one : ∀ (i a b : Nat) (bb : Bool), (∃ t, fs[i]? = some (.ref t) ∧ KT K t [.int (a : Nat), .bl bb]) → decide (b = 1) = bb → some (a, b) = some (n, k) → ∃ t, atI fs (i : Int) = some (.ref t) ∧ KT K t [.int n, .bl (decide (k = 1))] := by
    rintro i a b bb ⟨t, h1, h2⟩ hb e
    cases e
    exact ⟨t, atI_nat h1, by rw [hb]; exact h2⟩
  rcases hc with rfl | rfl | rfl | rfl | rfl | rfl | rfl | rfl | rfl | rfl | rfl | rfl | rfl
  · exact one 0 0 1 true f0 rfl hsh
  · exact one 1 1 0 false f1 rfl hsh
  · exact one 2 3 1 true f2 rfl hsh
  · exact one 3 3 0 false f3 rfl hsh
  · exact one 4 4 0 false f4 rfl hsh
  · exact one 5 1 0 false f5 rfl hsh
  · exact one 6 0 0 false f6 rfl hsh
  · exact one 7 0 0 false f7 rfl hsh
  · exact one 8 0 0 false f8 rfl hsh
  · exact one 9 1 0 false f9 rfl hsh
  · exact one 10 1 0 false f10 rfl hsh
  · exact one 11 0 0 false f11 rfl hsh
  · exact one 12 0 1 true f12 rfl hsh
theorem all_mk {P : Program} {w : World} {K : PySem.W.Frag} {mg : Str → Option Value} {fa CM CC CP : Addr} (hfa : mg "answers" = some (.ref fa)) (T : Facts K mg CM CC CP) :
    ∃ fd : FuncData, (∀ (s : Shared) (us : List Value), us.length = (["calls"] : List Str).length → BindsTo s fd ⟨us, []⟩ ((["calls"] : List Str).zip us)) ∧ ∀ base : Heap, K.In base → base.Ns mainGlobals mg → FnOk P w K mg base CX0 21 fa fd ["calls"] (spAns K) := by
  obtain ⟨f, fd, F, hf⟩ := T.d_answers
  have e := hfa.symm.trans hf
  cases e
  refine ⟨fd, fun s us hu => ?_, fun base _ _ => ?_⟩
  · obtain ⟨oc, od, kV, doc, pm, an, cdv, ct, osl, rfl, _⟩ := F.ex
    match us, hu with
    | [_], _ => exact .of_eq rfl
  · let G : Env1 := ⟨P, w, K, mg, base⟩
    have T : Facts G.K G.mg CM CC CP := T
    have F_lies_within : Fn G "lies_within" ["gap", "start", "end"] 1 spLies := fn_of_d T.d_lies_within (fun f fd F => ok_lies F) (fun _ _ _ _ _ _ us hl => match us, hl with | [_, _, _], _ => rfl)
    have F_ask_the_same : Fn G "ask_the_same" ["one", "other"] 1 (spSame CM) := fn_of_d T.d_ask_the_same (fun f fd F => ok_same T F) (fun _ _ _ _ _ _ us hl => match us, hl with | [_, _], _ => rfl)
    have F_takes_of : Fn G "takes_of" ["mark", "start", "end"] 1 (spTakes CM) := fn_of_d T.d_takes_of (fun f fd F => ok_takes T F) (fun _ _ _ _ _ _ us hl => match us, hl with | [_, _, _], _ => rfl)
    have F_breaks_into : Fn G "breaks_into" ["mark", "start", "end"] 2 (spBreaks CM) := fn_of_d T.d_breaks_into (fun f fd F => ok_breaks T F_takes_of F_lies_within F) (fun _ _ _ _ _ _ us hl => match us, hl with | [_, _, _], _ => rfl)
    have F_gainsay : Fn G "gainsay" ["one", "other"] 3 (spGain CM) := fn_of_d T.d_gainsay (fun f fd F => ok_gain T F_ask_the_same F_breaks_into F) (fun _ _ _ _ _ _ us hl => match us, hl with | [_, _], _ => rfl)
    have K_Mark : Md G "Mark" CM ["self", "reader", "kind", "start", "end", "gap", "words"] 1 (spInitM CM) := md_of_d T.k_Mark (fun f fd F => ok_initM T F) (fun _ _ _ _ _ _ us hl => match us, hl with | [_, _, _, _, _, _, _], _ => rfl)
    have F_change_mark : Fn G "change_mark" ["reader", "start", "end", "words"] 4 (spChM CM) := fn_of_d T.d_change_mark (fun f fd F => ok_chM T K_Mark F) (fun _ _ _ _ _ _ us hl => match us, hl with | [_, _, _, _], _ => rfl)
    have F_keep_mark : Fn G "keep_mark" ["reader", "start", "end"] 4 (spKeM CM) := fn_of_d T.d_keep_mark (fun f fd F => ok_keM T K_Mark F) (fun _ _ _ _ _ _ us hl => match us, hl with | [_, _, _], _ => rfl)
    have F_move_mark : Fn G "move_mark" ["reader", "start", "end", "gap"] 4 (spMoM CM) := fn_of_d T.d_move_mark (fun f fd F => ok_moM T K_Mark F) (fun _ _ _ _ _ _ us hl => match us, hl with | [_, _, _, _], _ => rfl)
    have F_clashing_pairs : Fn G "clashing_pairs" ["marks", "numbers"] 4 (spPairs CM) := fn_of_d T.d_clashing_pairs (fun f fd F => ok_pairs T F_gainsay F) (fun _ _ _ _ _ _ us hl => match us, hl with | [_, _], _ => rfl)
    have F_asked_by : Fn G "asked_by" ["mark"] 1 (spAsked CM) := fn_of_d T.d_asked_by (fun f fd F => ok_asked T F) (fun _ _ _ _ _ _ us hl => match us, hl with | [_], _ => rfl)
    have K_Carried : Md G "Carried" CC ["self", "text", "gaps"] 1 (spInitC CC) := md_of_d T.k_Carried (fun f fd F => ok_initC T F) (fun _ _ _ _ _ _ us hl => match us, hl with | [_, _, _], _ => rfl)
    have F_brought_by : Fn G "brought_by" ["bringer", "words"] 1 spBrought := fn_of_d T.d_brought_by (fun f fd F => ok_brought T F) (fun _ _ _ _ _ _ us hl => match us, hl with | [_, _], _ => rfl)
    have F_bare_words : Fn G "bare_words" ["text"] 1 spBare := fn_of_d T.d_bare_words (fun f fd F => ok_bare T F) (fun _ _ _ _ _ _ us hl => match us, hl with | [_], _ => rfl)
    have F_puts_of : Fn G "puts_of" ["text", "marks", "numbers"] 2 (spPuts CM) := fn_of_d T.d_puts_of (fun f fd F => ok_puts T F_brought_by F) (fun _ _ _ _ _ _ us hl => match us, hl with | [_, _, _], _ => rfl)
    have F_takers_of : Fn G "takers_of" ["marks", "numbers"] 1 (spTakers CM) := fn_of_d T.d_takers_of (fun f fd F => ok_takers T F) (fun _ _ _ _ _ _ us hl => match us, hl with | [_, _], _ => rfl)
    have F_carry_out : Fn G "carry_out" ["text", "marks", "numbers"] 4 (spCarry CM CC) := fn_of_d T.d_carry_out (fun f fd F => ok_carry T F_puts_of F_takers_of K_Carried F) (fun _ _ _ _ _ _ us hl => match us, hl with | [_, _, _], _ => rfl)
    have F_gone_words : Fn G "gone_words" ["text", "marks", "numbers"] 2 (spGone CM) := fn_of_d T.d_gone_words (fun f fd F => ok_gone T F_takers_of F) (fun _ _ _ _ _ _ us hl => match us, hl with | [_, _, _], _ => rfl)
    have F_start_of : Fn G "start_of" ["words", "text"] 1 spStart := fn_of_d T.d_start_of (fun f fd F => ok_start T F) (fun _ _ _ _ _ _ us hl => match us, hl with | [_, _], _ => rfl)
    have F_followed : Fn G "followed" ["mark", "text", "carried"] 5 (spFoll CM CC) := fn_of_d T.d_followed (fun f fd F => ok_foll T F_change_mark F_keep_mark F_move_mark F_start_of F) (fun _ _ _ _ _ _ us hl => match us, hl with | [_, _, _], _ => rfl)
    have F_agrees_with_all : Fn G "agrees_with_all" ["marks", "number", "chosen"] 4 (spAgree CM) := fn_of_d T.d_agrees_with_all (fun f fd F => ok_agree T F_gainsay F) (fun _ _ _ _ _ _ us hl => match us, hl with | [_, _, _], _ => rfl)
    have F_agreeing_sets : Fn G "agreeing_sets" ["marks", "numbers"] 5 (spSets CM) := fn_of_d T.d_agreeing_sets (fun f fd F => ok_sets T F_agrees_with_all F) (fun _ _ _ _ _ _ us hl => match us, hl with | [_, _], _ => rfl)
    have F_weight_of : Fn G "weight_of" ["marks", "weights", "numbers"] 1 (spWeight CM) := fn_of_d T.d_weight_of (fun f fd F => ok_weight T F) (fun _ _ _ _ _ _ us hl => match us, hl with | [_, _, _], _ => rfl)
    have F_weightiest : Fn G "weightiest" ["marks", "weights", "numbers"] 6 (spBest CM) := fn_of_d T.d_weightiest (fun f fd F => ok_best T F_agreeing_sets F_weight_of F) (fun _ _ _ _ _ _ us hl => match us, hl with | [_, _, _], _ => rfl)
    have F_are_words : Fn G "are_words" ["numbers"] 1 spWords := fn_of_d T.d_are_words (fun f fd F => ok_words T F) (fun _ _ _ _ _ _ us hl => match us, hl with | [_], _ => rfl)
    have F_told_in_pairs : Fn G "told_in_pairs" ["pairs"] 1 spTold := fn_of_d T.d_told_in_pairs (fun f fd F => ok_told T F) (fun _ _ _ _ _ _ us hl => match us, hl with | [_], _ => rfl)
    have F_told_words : Fn G "told_words" ["text"] 2 spTWords := fn_of_d T.d_told_words (fun f fd F => ok_twords T F_bare_words F) (fun _ _ _ _ _ _ us hl => match us, hl with | [_], _ => rfl)
    have M_Proof_has_reader : Mt G CP "has_reader" ["self", "reader"] 1 (spHasR CM CP) := mt_of_d T.cl_Proof T.m_Proof_has_reader (fun f fd F => ok_hasR T F) (fun _ _ _ _ _ _ us hl => match us, hl with | [_, _], _ => rfl)
    have M_Proof_has_mark : Mt G CP "has_mark" ["self", "number"] 1 (spHasM CM CP) := mt_of_d T.cl_Proof T.m_Proof_has_mark (fun f fd F => ok_hasM T F) (fun _ _ _ _ _ _ us hl => match us, hl with | [_, _], _ => rfl)
    have M_Proof_stands_open : Mt G CP "stands_open" ["self", "number"] 1 (spOpen CM CP) := mt_of_d T.cl_Proof T.m_Proof_stands_open (fun f fd F => ok_open T F) (fun _ _ _ _ _ _ us hl => match us, hl with | [_, _], _ => rfl)
    have M_Proof_has_words : Mt G CP "has_words" ["self", "start", "end"] 1 (spHasW CM CP) := mt_of_d T.cl_Proof T.m_Proof_has_words (fun f fd F => ok_hasW T F) (fun _ _ _ _ _ _ us hl => match us, hl with | [_, _, _], _ => rfl)
    have M_Proof_change_fits : Mt G CP "change_fits" ["self", "start", "end", "words"] 2 (spChF CM CP) := mt_of_d T.cl_Proof T.m_Proof_change_fits (fun f fd F => ok_chF T F_are_words F) (fun _ _ _ _ _ _ us hl => match us, hl with | [_, _, _, _], _ => rfl)
    have M_Proof_move_fits : Mt G CP "move_fits" ["self", "start", "end", "gap"] 2 (spMoF CM CP) := mt_of_d T.cl_Proof T.m_Proof_move_fits (fun f fd F => ok_moF T M_Proof_has_words F) (fun _ _ _ _ _ _ us hl => match us, hl with | [_, _, _, _], _ => rfl)
    have M_Proof_open_marks : Mt G CP "open_marks" ["self"] 2 (spOpens CM CP) := mt_of_d T.cl_Proof T.m_Proof_open_marks (fun f fd F => ok_opens T M_Proof_stands_open F) (fun _ _ _ _ _ _ us hl => match us, hl with | [_], _ => rfl)
    have M_Proof_add_mark : Mt G CP "add_mark" ["self", "mark"] 3 (spAdd CM CP) := mt_of_d T.cl_Proof T.m_Proof_add_mark (fun f fd F => ok_add T M_Proof_open_marks F) (fun _ _ _ _ _ _ us hl => match us, hl with | [_, _], _ => rfl)
    have M_Proof_close_mark : Mt G CP "close_mark" ["self", "number", "state"] 1 (spClose CM CP) := mt_of_d T.cl_Proof T.m_Proof_close_mark (fun f fd F => ok_close T F) (fun _ _ _ _ _ _ us hl => match us, hl with | [_, _, _], _ => rfl)
    have M_Proof_follow_mark : Mt G CP "follow_mark" ["self", "number", "carried"] 6 (spFolM CM CC CP) := mt_of_d T.cl_Proof T.m_Proof_follow_mark (fun f fd F => ok_folM T F_followed M_Proof_close_mark F) (fun _ _ _ _ _ _ us hl => match us, hl with | [_, _, _], _ => rfl)
    have M_Proof_begins : Mt G CP "begins" ["self", "words"] 2 (spBegins CM CP) := mt_of_d T.cl_Proof T.m_Proof_begins (fun f fd F => ok_begins T F_are_words F_brought_by F) (fun _ _ _ _ _ _ us hl => match us, hl with | [_, _], _ => rfl)
    have M_Proof_add_reader : Mt G CP "add_reader" ["self", "weight"] 1 (spReader CM CP) := mt_of_d T.cl_Proof T.m_Proof_add_reader (fun f fd F => ok_reader T F) (fun _ _ _ _ _ _ us hl => match us, hl with | [_, _], _ => rfl)
    have M_Proof_change : Mt G CP "change" ["self", "reader", "start", "end", "words"] 5 (spChange CM CP) := mt_of_d T.cl_Proof T.m_Proof_change (fun f fd F => ok_change T M_Proof_has_reader M_Proof_change_fits M_Proof_add_mark F_change_mark F) (fun _ _ _ _ _ _ us hl => match us, hl with | [_, _, _, _, _], _ => rfl)
    have M_Proof_keep : Mt G CP "keep" ["self", "reader", "start", "end"] 5 (spKeep CM CP) := mt_of_d T.cl_Proof T.m_Proof_keep (fun f fd F => ok_keep T M_Proof_has_reader M_Proof_has_words M_Proof_add_mark F_keep_mark F) (fun _ _ _ _ _ _ us hl => match us, hl with | [_, _, _, _], _ => rfl)
    have M_Proof_move : Mt G CP "move" ["self", "reader", "start", "end", "gap"] 5 (spMove CM CP) := mt_of_d T.cl_Proof T.m_Proof_move (fun f fd F => ok_move T M_Proof_has_reader M_Proof_move_fits M_Proof_add_mark F_move_mark F) (fun _ _ _ _ _ _ us hl => match us, hl with | [_, _, _, _, _], _ => rfl)
    have M_Proof_withdraw : Mt G CP "withdraw" ["self", "number"] 2 (spWith CM CP) := mt_of_d T.cl_Proof T.m_Proof_withdraw (fun f fd F => ok_with T M_Proof_has_mark M_Proof_stands_open F) (fun _ _ _ _ _ _ us hl => match us, hl with | [_, _], _ => rfl)
    have M_Proof_clashes : Mt G CP "clashes" ["self"] 5 (spClash CM CP) := mt_of_d T.cl_Proof T.m_Proof_clashes (fun f fd F => ok_clash T F_told_in_pairs F_clashing_pairs M_Proof_open_marks F) (fun _ _ _ _ _ _ us hl => match us, hl with | [_], _ => rfl)
    have M_Proof_carry : Mt G CP "carry" ["self"] 8 (spCarryM CM CP) := mt_of_d T.cl_Proof T.m_Proof_carry (fun f fd F => ok_carryM T M_Proof_open_marks F_weightiest F_carry_out F_gone_words M_Proof_close_mark M_Proof_follow_mark F_weight_of F) (fun _ _ _ _ _ _ us hl => match us, hl with | [_], _ => rfl)
    have M_Proof_shown : Mt G CP "shown" ["self"] 3 (spShown CM CP) := mt_of_d T.cl_Proof T.m_Proof_shown (fun f fd F => ok_shown T F_told_words F) (fun _ _ _ _ _ _ us hl => match us, hl with | [_], _ => rfl)
    have M_Proof_who : Mt G CP "who" ["self", "place"] 1 (spWho CM CP) := mt_of_d T.cl_Proof T.m_Proof_who (fun f fd F => ok_who T F) (fun _ _ _ _ _ _ us hl => match us, hl with | [_, _], _ => rfl)
    have M_Proof_tell_mark : Mt G CP "tell_mark" ["self", "number"] 2 (spTell CM CP) := mt_of_d T.cl_Proof T.m_Proof_tell_mark (fun f fd F => ok_tell T M_Proof_has_mark F_asked_by F) (fun _ _ _ _ _ _ us hl => match us, hl with | [_, _], _ => rfl)
    have M_Proof_gone : Mt G CP "gone" ["self"] 2 (spGoneM CM CP) := mt_of_d T.cl_Proof T.m_Proof_gone (fun f fd F => ok_goneM T F_told_in_pairs F) (fun _ _ _ _ _ _ us hl => match us, hl with | [_], _ => rfl)
    have M_Proof_test : Mt G CP "test" ["self", "numbers"] 6 (spTest CM CP) := mt_of_d T.cl_Proof T.m_Proof_test (fun f fd F => ok_test T M_Proof_has_mark M_Proof_stands_open F_clashing_pairs F_told_words F_carry_out F) (fun _ _ _ _ _ _ us hl => match us, hl with | [_, _], _ => rfl)
    have K_Proof : Md G "Proof" CP ["self"] 1 (spInitP CP (Rp CM CP)) := md_of_d T.k_Proof (fun f fd F => ok_initP T F) (fun _ _ _ _ _ _ us hl => match us, hl with | [_], _ => rfl)
    have F_answer_call : Fn G "answer_call" ["proof", "call", "numbers", "row"] 20 (spCall (Rp CM CP) SInv) := fn_of_d T.d_answer_call (fun f fd F => ok_call T ⟨M_Proof_begins, M_Proof_add_reader, M_Proof_change, M_Proof_keep, M_Proof_move, M_Proof_withdraw, M_Proof_clashes, M_Proof_carry, M_Proof_shown, M_Proof_who, M_Proof_tell_mark, M_Proof_gone, M_Proof_test⟩ F) (fun _ _ _ _ _ _ us hl => match us, hl with | [_, _, _, _], _ => rfl)
    obtain ⟨ft, fs, hg, hforms⟩ := T.t_FORMS
    exact ok_answers (G := G) ⟨T.b_len, hg, forms_of hforms⟩ K_Proof F_answer_call (fun H H' p st keep R h => R.frame h) SInv.init (fun left st q h => h.step q) F
end Pm
open PySem PySem.W PyProof.Rows
theorem Pm.left_ok : LeftO PySem.Challenge.pw_proofmarks_s01_answers Pm.viewQ [] (fun s => xlAt Pm.viewQ [] s && recOk [] s) (fun s => Pm.obsK (Pm.fragOf s.heap)) (fun _ => Pm.expK) 5530 := Pm.left_q Pm.q_obs
set_option maxRecDepth 100000 in
set_option maxHeartbeats 0 in
theorem PySem.Challenge.cw_proofmarks_s01_answers_holds : PySem.Challenge.rw_proofmarks_s01_answers.Holds := by
  refine holds_os (q := Pm.viewQ) (loose := []) (Xt := fun s => xlAt Pm.viewQ [] s && recOk [] s) (XP := XL Pm.viewQ []) (Yf := fun s => Pm.obsK (Pm.fragOf s.heap)) (Ya := fun _ => Pm.expK) (YP := Pm.saysK) (N := 5530) Pm.left_ok
    (fun w s e => ⟨_, Pm.frag_in s.heap, e⟩) (fun w h h' Y k => by obtain ⟨K, X, e⟩ := Y; exact ⟨K, Frag.In.keeps X k, e⟩)
    (fun s e => xl_of s (Bool.and_eq_true_iff.mp e).1) XL.keeps (by rfl) (by rfl) (by rfl) (fun s e => recFacts_of (Bool.and_eq_true_iff.mp e).2) os_shapes (by decide +kernel) (by decide +kernel) ⟨rfl, rfl, rfl, rfl, rfl, by decide +kernel⟩ ⟨[.list [.int 6]], by decide +kernel, by decide +kernel⟩ ?_
  refine L2.walk_specE (k := 21) (CX := L2.CX0) (ps := ["calls"]) (sp := Pm.spAns) (by decide +kernel) rfl ⟨rfl, by decide, by decide⟩ ?F ?S (fun _ _ _ _ z => z)
  case F =>
    intro w mg fa h Y G hmg
    obtain ⟨K, X, e⟩ := Y
    exact ⟨K, X, Pm.all_mk hmg (Pm.facts_of X G e)⟩
  case S =>
    intro K H xs a hO hwi hask hx
    cases hx with
    | cons h1 h2 =>
      cases h2
      cases h1 with
      | lst hs ha =>
        have e := L2.ints_dw a.1 _ ha
        subst e
        have q : ((Codec.inLen 0 29900 a.1 && a.1.all (Codec.inInt 0 4294967295)) && true) = true := hwi
        rw [Bool.and_eq_true, Bool.and_eq_true] at q
        refine ⟨_, a.1, rfl, hs, (Codec.inNat_iff.mp q.1.1).2, fun z hz => ?_, hask, fun H' p hp => .lst (L2.SqL.of hp) (L2.dw_ints _)⟩
        have h1 := List.all_eq_true.mp q.1.2 z hz
        unfold Codec.inInt at h1
        simp at h1
        exact h1.1
