import PyProof.Rows.All
import Wide.All
import OpenK.AllK
import Wide.FinOn
import PyProof.EqAt
import PyProof.EqKinds
import HandS.Base
import HandS.Comp
import HandS.Dict
import HandS.DictTup
import HandS.DictComp
import PyProof.DictMoreH
import PyProof.DictCompW
import PyProof.Rows.SortKeyStr
import KE.KSortTup
import KE.KDictList
import KE.KDictSum
import HandS.Iter
import HandS.SortOrd
import HandS.ForMost
import HandS.Exc
import HandS.ExcOwn
import HandS.ExcValue
import HandS.IsInst
import PyProof.ReprReads
import PyProof.ReprRoads
import PyProof.ExcRepr
import KE.KExcStr
import HandS.ExcIs
import HandS.Evl
import HandS.TryMany
import HandS.WordsExc
import HandS.Small
import HandS.TupAny
import HandS.Walk
import HandS.Deep
import HandS.Wide
import HandS.Steps
import HandS.TupLe
import HandS.More
import HandS.Zip
import HandS.SortRule
import KE.KDictPairs
import PyProof.FString5
import HandS.CallLocal
import PyProof.Rows.SortStr
import PyProof.Rows.SortLt
import PySem.Challenge.RW_homeshold_k14_epochs_and_seals
set_option Elab.async false
set_option linter.all false
set_option maxRecDepth 100000
def PySem.W.Fast.tw1263185721915171801 : Nat := 0
def PySem.W.Fast.tw12540366473852795023 : Nat := 0
def PySem.W.Fast.tw1795246429626007185 : Nat := 0
def PySem.W.Fast.tw10628386727466317509 : Nat := 0
def PySem.W.Fast.tw13458396763779168556 : Nat := 0
section
open PySem PySem.W PyProof.Rows
set_option maxHeartbeats 0
open_top TOP for PySem.Challenge.rw_homeshold_k14_epochs_and_seals
end
namespace Hk
open PySem PySem.Spec PyProof.Rows L2
section
variable {X : Cx} {pins : List (Addr × Obj)} {σ : L2.St} {H : Hp} {s : Shared}
/-- a block of a comprehension writes the key and the value -/
theorem dt_set {E : Value → Shared → Prop} {D b : Addr} {kvs : List (List L2.Key × V)} {k : List L2.Key} {v : V} {r : Value} {Q : Unit → Shared → Prop} (hu : X.A.units + 1 < cLine) (J : Inv X pins σ H s) (eD : H D = some (.dT kvs)) (lz : kvs.length < sizeLine)
    (eb : H b = some (.tup (k.map kV))) (rv : RelV v r) (h : ∀ s', Inv X pins σ (upd H D (.dT (putK kvs k v))) s' → Q () s') : wpAny (model X.prog X.w) X.A (dictSet D (.ref b) r) Q E s := by
  obtain ⟨lk, hd, xs, pr, at_⟩ := dt_of J.hok eD
  have lx : xs.length ≤ sizeLine := by have := Paired.length pr; omega
  have lp : (putK kvs k v).length ≤ sizeLine := by have := length_putK kvs k v; omega
  refine wpAny_dictSet_heap (hsz := lx) (show X.A.units < cLine from Nat.lt_of_succ_lt hu) (key_of J.hok eb) at_ fun hp' at' sb => h _ ?_
  obtain ⟨ob, es, ep, g1, g2, g3, g4, _, g5⟩ := at'
  exact d_write J (by rw [eD]; exact True.intro) sb ⟨ob, g1⟩ ⟨lp, hd, _, (pr.put k eb rv).keeps (fun c ys ec => by rw [upd_ne (ne_of ec eD (fun z => nomatch z))]; exact ec), ob, es, ep, g1, g2, g3, g4, g5⟩
/-- the parts of such a comprehension, read in each block -/
structure DtP (X : Cx) (kx vx tg : Expr) (ifs : List Expr) (scope : Scope) (g : TG) (tt : TT) (tk tv : TE) : Prop where
  g : ∀ (s : Shared) (H : Hp) (C : Addr) (cl : List (Str × Addr)) (fp : List Addr), PG (X.blk s H scope (compEnvC scope cl C X.env) fp) tg g
  t : ∀ (s : Shared) (H : Hp) (C : Addr) (cl : List (Str × Addr)) (fp : List Addr), PTs (X.blk s H scope (compEnvC scope cl C X.env) fp) ifs tt
  k : ∀ (s : Shared) (H : Hp) (C : Addr) (cl : List (Str × Addr)) (fp : List Addr), PE (X.blk s H scope (compEnvC scope cl C X.env) fp) kx tk
  v : ∀ (s : Shared) (H : Hp) (C : Addr) (cl : List (Str × Addr)) (fp : List Addr), PE (X.blk s H scope (compEnvC scope cl C X.env) fp) vx tv
end
end Hk
namespace Hk
open PySem PySem.Spec PyProof.Rows L2
abbrev dcc (kx vx ta ia tb ib : Expr) (fa fb : List Expr) (sc : Scope) (p : Pos) : Expr := .DictComp kx vx [⟨ta, ia, fa, 0⟩, ⟨tb, ib, fb, 0⟩] sc p
theorem turn_far (kx vx ta ia tb ib : Expr) (fa fb : List Expr) (sc : Scope) (p : Pos) (it acc : Value) (env : Env) :
    compTurn (dcc kx vx ta ia tb ib fa fb sc p) 0 it acc env = (do
      standAt ia.pos
      match ← pyNext it with
      | none => pure (.done .next)
      | some v =>
        letOwnedTupleGo ta it v
        assign ta env v
        let mut good := true
        for c in fa do
          if good then good ← isTrue c env (eval c env)
        if good then
          let y ← eval ib env
          standAt ib.pos
          let y ← foldedSetIterable ib env y
          let _ ← runOwn (.compStart (dcc kx vx ta ia tb ib fa fb sc p) 1 (← holding [y] (pyIter y)) acc env) env
        again (.compLoop (dcc kx vx ta ia tb ib fa fb sc p) 0 it acc env)) := by rfl
theorem turn_near (kx vx ta ia tb ib : Expr) (fa fb : List Expr) (sc : Scope) (p : Pos) (it : Value) (D : Addr) (env : Env) :
    compTurn (dcc kx vx ta ia tb ib fa fb sc p) 1 it (.ref D) env = (do
      standAt ib.pos
      match ← pyNext it with
      | none => pure (.done .next)
      | some v =>
        letOwnedTupleGo tb it v
        assign tb env v
        let mut good := true
        for c in fb do
          if good then good ← isTrue c env (eval c env)
        if good then
          (do
            let y ← eval kx env
            let z ← holding [y] (eval vx env)
            standAt { kx.pos with endLine := vx.pos.endLine, endCol := vx.pos.endCol }
            holding [y, z] (dictSet D y z))
        again (.compLoop (dcc kx vx ta ia tb ib fa fb sc p) 1 it (.ref D) env)) := by rfl
section
variable {prog : Program} {wd : World} {A : Around} {R : Result → Shared → Prop} {s : Shared} {kx vx ta ia tb ib : Expr} {fa fb : List Expr} {sc : Scope} {p : Pos} {it acc : Value} {D : Addr} {env : Env}
abbrev eR (prog : Program) (wd : World) (A : Around) (env : Env) (R : Result → Shared → Prop) : Value → Shared → Prop := notedBy (model prog wd) A env fun e u => R (.error e) u
abbrev fW (fs : List Expr) (env : Env) : Sem Bool := forIn fs true fun c r => if r = true then do let ok ← isTrue c env (eval c env); pure (ForInStep.yield ok) else pure (ForInStep.yield r)
/-- the far loop -/
theorem loop_far (hs : ∀ x, foldedSetIterable ib env x = pure x) (I : Nat → Shared → Prop)
    (turn : ∀ n s, I n s → wpAny (model prog wd) A (pyNext it) (fun r s1 => match r with
      | none => R (.ok .next) s1
      | some v => wpAny (model prog wd) A (letOwnedTupleGo ta it v) (fun _ s2 => wpAny (model prog wd) A (assign ta env v) (fun _ s3 =>
          wpAny (model prog wd) A (fW fa env) (fun ok s4 =>
            if ok = true then wpAny (model prog wd) A (eval ib env) (fun x s5 => wpAny (model prog wd) A (pyIter x) (fun jt s6 =>
              codeAny (model prog wd) A (.compStart (dcc kx vx ta ia tb ib fa fb sc p) 1 jt acc env) (fun r u => match r with
                | .ok _ => ∃ m, m < n ∧ I m u
                | .error _ => False) s6) (eR prog wd A env R) s5) (eR prog wd A env R) s4
            else ∃ m, m < n ∧ I m s4) (eR prog wd A env R) s3) (eR prog wd A env R) s2) (eR prog wd A env R) s1) (eR prog wd A env R) s)
    (n : Nat) (h : I n s) : codeAny (model prog wd) A (.compLoop (dcc kx vx ta ia tb ib fa fb sc p) 0 it acc env) R s := by
  refine codeAny_loop rfl I (fun n s hI => ?_) n h
  show wpAny _ A ((compTurn (dcc kx vx ta ia tb ib fa fb sc p) 0 it acc env).onRaise (fun e => do noteFrame e env; theTreesLotGoes e)) _ _ s
  refine wpAny_noted ?_
  rw [turn_far]
  refine wpAny_bind (wpAny_standAt (wpAny_bind (wpAny_mono (turn n s hI) (fun r s1 h1 => ?_) fun _ _ z => z)))
  cases r with
  | none => exact wpAny_pure h1
  | some v =>
    refine wpAny_bind (wpAny_mono h1 (fun _ s2 h2 => ?_) fun _ _ z => z)
    refine wpAny_bind (wpAny_mono h2 (fun _ s3 h3 => wpAny_bind (wpAny_mono h3 (fun ok s4 h4 => ?_) fun _ _ z => z)) fun _ _ z => z)
    cases ok with
    | false => exact wpAny_pure ⟨rfl, h4⟩
    | true =>
      refine wpAny_bind (wpAny_mono h4 (fun x s5 h5 => ?_) fun _ _ z => z)
      refine wpAny_bind (wpAny_standAt (wpAny_bind (wpAny_of_eq (hs x) (wpAny_bind (wpAny_holding (wpAny_mono h5 (fun jt s6 h6 => ?_) fun _ _ z => z))))))
      refine wpAny_bind (wpAny_runOwn ?_)
      rw [Around.mark_none]
      refine codeAny_mono h6 fun r u hr => ?_
      cases r with
      | error e => exact hr.elim
      | ok f =>
        first
          | exact wpAny_pure ⟨rfl, hr⟩
          | exact wpAny_bind (wpAny_pure (wpAny_pure ⟨rfl, hr⟩))
/-- the near loop -/
theorem loop_near (I : Nat → Shared → Prop)
    (turn : ∀ n s, I n s → wpAny (model prog wd) A (pyNext it) (fun r s1 => match r with
      | none => R (.ok .next) s1
      | some v => wpAny (model prog wd) A (letOwnedTupleGo tb it v) (fun _ s2 => wpAny (model prog wd) A (assign tb env v) (fun _ s3 =>
          wpAny (model prog wd) A (fW fb env) (fun ok s4 =>
            if ok = true then wpAny (model prog wd) A (eval kx env) (fun y s5 => wpAny (model prog wd) A (eval vx env) (fun z s6 =>
              wpAny (model prog wd) A (dictSet D y z) (fun _ s7 => ∃ m, m < n ∧ I m s7) (eR prog wd A env R) s6) (eR prog wd A env R) s5) (eR prog wd A env R) s4
            else ∃ m, m < n ∧ I m s4) (eR prog wd A env R) s3) (eR prog wd A env R) s2) (eR prog wd A env R) s1) (eR prog wd A env R) s)
    (n : Nat) (h : I n s) : codeAny (model prog wd) A (.compLoop (dcc kx vx ta ia tb ib fa fb sc p) 1 it (.ref D) env) R s := by
  refine codeAny_loop rfl I (fun n s hI => ?_) n h
  show wpAny _ A ((compTurn (dcc kx vx ta ia tb ib fa fb sc p) 1 it (.ref D) env).onRaise (fun e => do noteFrame e env; theTreesLotGoes e)) _ _ s
  refine wpAny_noted ?_
  rw [turn_near]
  refine wpAny_bind (wpAny_standAt (wpAny_bind (wpAny_mono (turn n s hI) (fun r s1 h1 => ?_) fun _ _ z => z)))
  cases r with
  | none => exact wpAny_pure h1
  | some v =>
    refine wpAny_bind (wpAny_mono h1 (fun _ s2 h2 => ?_) fun _ _ z => z)
    refine wpAny_bind (wpAny_mono h2 (fun _ s3 h3 => wpAny_bind (wpAny_mono h3 (fun ok s4 h4 => ?_) fun _ _ z => z)) fun _ _ z => z)
    cases ok with
    | false => exact wpAny_pure ⟨rfl, h4⟩
    | true =>
      exact wpAny_bind (wpAny_bind (wpAny_mono h4 (fun y s5 h5 => wpAny_bind (wpAny_holding (wpAny_mono h5 (fun z s6 h6 => wpAny_bind (wpAny_standAt (wpAny_holding (wpAny_mono h6 (fun _ s7 h7 => wpAny_pure ⟨rfl, h7⟩) fun _ _ z => z)))) fun _ _ z => z))) fun _ _ z => z))
theorem start_near (h0 : codeAny (model prog wd) A (.compLoop (dcc kx vx ta ia tb ib fa fb sc p) 1 it acc env) R s)
    (h : wpAny (model prog wd) A (pyIter it) (fun jt u => codeAny (model prog wd) A (.compLoop (dcc kx vx ta ia tb ib fa fb sc p) 1 jt acc env) R u) (eR prog wd A env R) s) :
    codeAny (model prog wd) A (.compStart (dcc kx vx ta ia tb ib fa fb sc p) 1 it acc env) R s := by
  refine codeAny_of_tree ?_
  show wpAny _ _ ((compStart (dcc kx vx ta ia tb ib fa fb sc p) 1 it acc env).onRaise (fun e => do noteFrame e env; standAt theWindowsPlace)) _ _ s
  refine wpAny_notedAt ?_
  unfold compStart
  show wpAny _ _ (ask >>= _) _ _ s
  refine wpAny_bind (wpAny_askSetting (wpAny_ite ?_))
  split
  · first
      | exact wpAny_bind (wpAny_pure (wpAny_pure ⟨rfl, h0⟩))
      | exact wpAny_pure ⟨rfl, h0⟩
  · first
      | exact wpAny_bind (wpAny_rule (wpAny_bind (wpAny_standAt (wpAny_bind (wpAny_mono h (fun jt u hu => wpAny_pure ⟨rfl, hu⟩) fun _ _ z => z)))))
      | (refine wpAny_bind (wpAny_rule ?_); show wpAny _ _ (standAt ib.pos >>= _) _ _ s; exact wpAny_bind (wpAny_standAt (wpAny_bind (wpAny_mono h (fun jt u hu => wpAny_pure ⟨rfl, hu⟩) fun _ _ z => z))))
end
section
variable {X : Cx} {pins : List (Addr × Obj)} {σ : L2.St} {H : Hp} {s : Shared}
/-- what the near clause does from a heap on: `Nx` behind it -/
def nearOk (D : Addr) (J1 : It) (g1 : TG) (tt1 : TT) (tk tv : TE) (vs1 : List Nat) (τ : L2.St) (Nx : Hp → Prop) (G : Hp) : Prop := ∃ W1 : Nat → Nat → Hp → Prop, (∃ m, W1 0 m G) ∧ ∀ j k G, W1 j k G →
  (J1.stop j G ∧ Nx G) ∨ (J1.go j G ∧ ∃ Nx1 : Hp → Prop, (∀ G', Nx1 G' → ∃ k', k' < k ∧ W1 (j + 1) k' G') ∧ ∀ x G', J1.yld j G x G' → g1 x (wipe τ vs1) G' fun τ3 G5 => wipe τ3 vs1 = wipe τ vs1 ∧ tt1 τ3 G5 fun ok G6 =>
    if ok = true then tk τ3 G6 fun y G7 => tv τ3 G7 fun z G8 => ∃ b kvs k, y = .ref b ∧ G8 b = some (.tup (k.map kV)) ∧ G8 D = some (.dT kvs) ∧ kvs.length < sizeLine ∧ Nx1 (upd G8 D (.dT (putK kvs k z))) else Nx1 G6)
def tD2 (wi : TI) (g : TG) (tt : TT) (wi1 : TI) (g1 : TG) (tt1 : TT) (tk tv : TE) (vs vs1 : List Nat) : TE := fun σ H Q => wi σ H fun It G => ∀ D, G D = none → ∃ W : Nat → Nat → Hp → Prop, (∃ m, W 0 m (upd G D (.dT []))) ∧ ∀ i m H, W i m H →
  (It.stop i H ∧ Q (.ref D) H) ∨ (It.go i H ∧ ∃ Nx : Hp → Prop, (∀ H', Nx H' → ∃ m', m' < m ∧ W (i + 1) m' H') ∧ ∀ x H', It.yld i H x H' → g x (wipe σ vs) H' fun τ H2 => wipe τ vs = wipe σ vs ∧ tt τ H2 fun ok H3 =>
    if ok = true then wi1 τ H3 fun J1 H4 => nearOk D J1 g1 tt1 tk tv vs1 τ Nx H4 else Nx H3)
structure NearP (X : Cx) (tb ib : Expr) (fb : List Expr) (scope : Scope) (wi1 : TI) (g1 : TG) (tt1 : TT) : Prop where
  i : ∀ (s : Shared) (H : Hp) (C : Addr) (cl : List (Str × Addr)) (fp : List Addr), PI (X.blk s H scope (compEnvC scope cl C X.env) fp) tb ib wi1
  g : ∀ (s : Shared) (H : Hp) (C : Addr) (cl : List (Str × Addr)) (fp : List Addr), PG (X.blk s H scope (compEnvC scope cl C X.env) fp) tb g1
  t : ∀ (s : Shared) (H : Hp) (C : Addr) (cl : List (Str × Addr)) (fp : List Addr), PTs (X.blk s H scope (compEnvC scope cl C X.env) fp) fb tt1
  f : ∀ env x, foldedSetIterable ib env x = pure x
theorem d2_core {Q : VK} {kx vx ta ia tb ib : Expr} {fa fb : List Expr} {scope : Scope} {own : List (Str × Nat)} {vs1 : List Nat} {pos pos' : Pos} {wi wi1 : TI} {g g1 : TG} {tt tt1 : TT} {tk tv : TE} {use : Option (Value → Sem Unit)} {Qf : Value → Shared → Prop}
    (hu : X.A.units + 1 < cLine) (hc : X.calm = true) (nd : X.N.Nodup) (J : Inv X pins σ H s) (pi : PI X ta ia wi) (ok : BlkOk X.N X.env.scope scope own) (hv : ∀ i ∈ vs1, i ∈ own.map (·.2)) (P : DtP X kx vx ta fa scope g tt tk tv) (P1 : NearP X tb ib fb scope wi1 g1 tt1)
    (fl : ∀ x, foldedSetIterable ia X.env x = pure x) (h : tD2 wi g tt wi1 g1 tt1 tk tv (own.map (·.2)) vs1 σ H Q)
    (back : ∀ D C s' m H', Inv X pins σ H' s' → Q (.ref D) H' → s'.heap.Ns C m → FpOk X pins H' C → compPost (model X.prog X.w) X.A X.xe use Qf (.ref D) C (.ok .next) s') :
    wpAny (model X.prog X.w) X.A (comprehension (dcc kx vx ta ia tb ib fa fb scope pos) scope X.env pos' newDict false (eval ia X.env) use) Qf X.xe s := by
  have frees : ∀ y ∈ scope.names, y.2 = .free → ∃ c, X.env.cells.lookup y.1 = some c := fun y hy e => by
    rcases ok.free y hy e with k | k
    all_goals exact J.ok.has _ (by first | exact .inl k | exact .inr k)
  refine wpAny_comprehension_free (use := use) rfl fl (closure_ok frees) ok.kind (fun y hy e => by rw [ok.uniq y hy, e]) (thn (pi.run pins s σ H _ J h) fun xv t1 hx => thn hx fun itv t2 got => ?_)
  obtain ⟨it, fp, tn, It, G2, rfl, J2, T, st2, f2, q⟩ := got
  refine wpAny_newObj_type (newEnv_comp ?_)
  generalize eD : t2.heap.objs.size = D
  obtain ⟨W, ⟨m0, w0⟩, turn⟩ := q D (J2.hok.fresh (Nat.le_of_eq eD))
  generalize e3 : ({ t2 with heap := t2.heap.push { cls := .type "dict", data := .dict #[] } } : Shared) = t3
  have q3 : t3.heap = t2.heap.push { cls := .type "dict", data := .dict #[] } := by rw [← e3]
  have J3 : Inv X pins σ (upd G2 D (.dT [])) t3 := by
    rw [← e3]
    exact J2.laid (t' := t2.toks) (fun b o e => Heap.get?_push_of_some _ e) (Nat.le_of_eq eD) (by rw [← eD]; exact dt_empty t2.heap J2.big)
  have below : ∀ b ∈ fp, b < t2.heap.objs.size := fun b hb => (T.obj _ _ st2 b hb).elim fun o z => Heap.lt_size z.1
  have f3 : ∀ b ∈ fp, FpOk X pins (upd G2 D (.dT [])) b ∧ b < t3.heap.objs.size := fun b hb => ⟨⟨by rw [upd_ne (by rw [← eD]; exact Nat.ne_of_lt (below b hb))]; exact (f2 b hb).1, (f2 b hb).2⟩, by rw [q3, Heap.size_push]; exact Nat.lt_succ_of_lt (below b hb)⟩
  have st3 : tn 0 t3.heap := T.keep _ _ _ st2 fun b _ o e => by rw [q3]; exact Heap.get?_push_of_some _ e
  have J4 := block_start J3 ok nd f3
  have pg := P.g t3 (upd G2 D (.dT [])) t3.heap.objs.size (cellsFrom (t3.heap.objs.size + 1) scope.names (cloFrom X.env.cells scope.names [])) fp
  have pt := P.t t3 (upd G2 D (.dT [])) t3.heap.objs.size (cellsFrom (t3.heap.objs.size + 1) scope.names (cloFrom X.env.cells scope.names [])) fp
  have pk := P.k t3 (upd G2 D (.dT [])) t3.heap.objs.size (cellsFrom (t3.heap.objs.size + 1) scope.names (cloFrom X.env.cells scope.names [])) fp
  have pv := P.v t3 (upd G2 D (.dT [])) t3.heap.objs.size (cellsFrom (t3.heap.objs.size + 1) scope.names (cloFrom X.env.cells scope.names [])) fp
  have pi1 := P1.i t3 (upd G2 D (.dT [])) t3.heap.objs.size (cellsFrom (t3.heap.objs.size + 1) scope.names (cloFrom X.env.cells scope.names [])) fp
  have pg1 := P1.g t3 (upd G2 D (.dT [])) t3.heap.objs.size (cellsFrom (t3.heap.objs.size + 1) scope.names (cloFrom X.env.cells scope.names [])) fp
  have pt1 := P1.t t3 (upd G2 D (.dT [])) t3.heap.objs.size (cellsFrom (t3.heap.objs.size + 1) scope.names (cloFrom X.env.cells scope.names [])) fp
  show codeAny _ _ (.compStart (dcc kx vx ta ia tb ib fa fb scope pos) 0 (.ref it) (.ref D) (compEnvC scope (cellsFrom (t3.heap.objs.size + 1) scope.names (cloFrom X.env.cells scope.names [])) t3.heap.objs.size X.env)) (compPost (model X.prog X.w) X.A X.xe use Qf (.ref D) t3.heap.objs.size) { t3 with heap := pushCells (t3.heap.push { cls := .type "dict", data := .dict #[] }) scope.names }
  have nofp : ∀ b ∈ fp, (upd G2 D (.dT [])) b = none := fun b hb => (f3 b hb).1.1
  generalize ec : compEnvC scope (cellsFrom (t3.heap.objs.size + 1) scope.names (cloFrom X.env.cells scope.names [])) t3.heap.objs.size X.env = ce at J4 pg pt pk pv pi1 pg1 pt1 ⊢
  have eloc : ce.locals = t3.heap.objs.size := by rw [← ec]; rfl
  generalize eG3 : upd G2 D (.dT []) = G3 at J3 J4 pg pt pk pv pi1 pg1 pt1 w0 nofp f3
  generalize e4 : ({ t3 with heap := pushCells (t3.heap.push { cls := .type "dict", data := .dict #[] }) scope.names } : Shared) = t4 at J4 ⊢
  have st4 : tn 0 t4.heap := T.keep _ _ _ st3 fun b _ o e => by rw [← e4]; exact pushCells_keeps _ _ _ _ (Heap.get?_push_of_some _ e)
  have stay : ∀ {τ : L2.St} {G : Hp} {u : Shared}, Inv (X.blk t3 G3 scope ce fp) [] τ G u → (∀ b ∈ fp, G b = none) → ∀ b ∈ fp, FpOk (X.blk t3 G3 scope ce fp) [] G b := fun {τ G u} J' hn b hb =>
    ⟨hn b hb, (J'.ok.exf b hb).1, J'.ok.exfs b hb, .inl hb, fun x c e => (J'.ok.exf b hb).2 x c e, fun p hp => absurd (show p ∈ ([] : List (Addr × Obj)) ++ [] from hp) (by simp)⟩
  have lp : codeAny (model X.prog X.w) X.A (.compLoop (dcc kx vx ta ia tb ib fa fb scope pos) 0 (.ref it) (.ref D) ce) (compPost (model X.prog X.w) X.A X.xe use Qf (.ref D) t3.heap.objs.size) t4 := by
    refine loop_far (P1.f ce) (fun n u => ∃ i G, Inv (X.blk t3 G3 scope ce fp) [] (wipe σ (own.map (·.2))) G u ∧ tn i u.heap ∧ (∀ b ∈ fp, G b = none) ∧ W i n G) (fun n t5 => ?_) m0 ⟨0, G3, J4, st4, nofp, w0⟩
    rintro ⟨i, G5, J5, st5, n5, w5⟩
    rcases turn i n G5 w5 with ⟨stop, qq⟩ | ⟨go, Nx, hNx, step⟩
    · refine thnF (T.done (X.blk t3 G3 scope ce fp) rfl rfl rfl hc i [] t5 _ G5 (fun _ _ => False) J5 (stay J5 n5) st5 stop) fun r t6 ⟨hr, J6⟩ => ?_
      subst hr
      have J7 : Inv X pins σ G5 t6 := J3.call' (ch := fp) J6.os J6.base J6.hok J6.bare fun b hb => ⟨(f3 b hb).1.2.2.2.1, (f3 b hb).1.2.1, (f3 b hb).1.2.2.2.2.1, (f3 b hb).1.2.2.2.2.2⟩
      obtain ⟨m, hm, _⟩ := J6.loc
      have hm : t6.heap.Ns ce.locals m := hm
      have nC : G5 ce.locals = none := J6.free
      rw [eloc] at hm nC
      exact back D t3.heap.objs.size t6 m G5 J7 qq hm (J3.fpOk (Nat.le_refl _) nC)
    · refine thnF (T.item (X.blk t3 G3 scope ce fp) rfl rfl rfl hc i [] t5 _ G5 (fun _ _ => False) J5 (stay J5 n5) st5 go) fun r t6 ⟨u, hr, h6⟩ => ?_
      subst hr
      refine thnF h6 fun _ t7 ⟨x, G7, J7, r7, y7, st7, n7⟩ => ?_
      have J7' := J7.pinned (stay J7 n7) (T.obj _ _ st7)
      refine thnF (pg.run _ t7 _ G7 x u _ J7' r7 (step x G7 y7)) fun _ t8 ⟨τ, G8, J8, w8, q8⟩ => ?_
      refine thnF (pt.run _ t8 τ G8 _ J8 q8) fun b t9 ⟨G9, J9, q9⟩ => ?_
      have knows : ∀ (j : Nat) v, (wipe σ (own.map (·.2)))[j]? = some (some v) → τ[j]? = some (some v) := fun j v e => by
        rw [← w8] at e
        exact (wipe_some e).1
      have fin : ∀ {τ' : L2.St} {u : Shared} {G : Hp}, Inv (X.blk t3 G3 scope ce fp) ([] ++ pinsAt fp t7.heap) τ' G u → (wipe σ (own.map (·.2))).length = τ'.length → (∀ (j : Nat) v, (wipe σ (own.map (·.2)))[j]? = some (some v) → τ'[j]? = some (some v)) → Nx G → ∃ m, m < n ∧ ∃ i G, Inv (X.blk t3 G3 scope ce fp) [] (wipe σ (own.map (·.2))) G u ∧ tn i u.heap ∧ (∀ b ∈ fp, G b = none) ∧ W i m G := fun {τ' u G} J' l1 l2 nx => by
        obtain ⟨m', hm, w'⟩ := hNx G nx
        have pin : ∀ b ∈ fp, ∀ o, t7.heap.get? b = some o → u.heap.get? b = some o ∧ G b = none := fun b hb o e => (J'.pin (b, o) (List.mem_append_right _ (List.mem_append_right _ (mem_pinsAt hb e)))).elim fun z1 z2 => ⟨z1, z2.1⟩
        exact ⟨m', hm, i + 1, G, (J'.unpinned (pins := [])).weak l1 l2, T.keep _ _ _ st7 fun b hb o e => (pin b hb o e).1, fun b hb => (T.obj _ _ st7 b hb).elim fun o z => (pin b hb o z.1).2, w'⟩
      cases b
      · simp only [Bool.false_eq_true, if_false] at q9 ⊢
        exact fin J9 (by rw [← w8, wipe_length]) knows q9
      · simp only [if_true] at q9 ⊢
        refine thnF (pi1.run _ t9 τ G9 _ J9 q9) fun xv t10 hx => thnF hx fun itv t11 h11 => ?_
        obtain ⟨it1, fp1, tn1, J1, G11, rfl, J11, T1, st11, f11, W1, ⟨m1, w1⟩, turn1⟩ := h11
        have stay1 : ∀ {G : Hp}, (∀ b ∈ fp1, G b = none) → ∀ b ∈ fp1, FpOk (X.blk t3 G3 scope ce fp) ([] ++ pinsAt fp t7.heap) G b := fun hn b hb => ⟨hn b hb, (f11 b hb).2⟩
        have lp1 : codeAny (model X.prog X.w) X.A (.compLoop (dcc kx vx ta ia tb ib fa fb scope pos) 1 (.ref it1) (.ref D) ce) (fun r u => match r with
              | .ok _ => ∃ m, m < n ∧ ∃ i G, Inv (X.blk t3 G3 scope ce fp) [] (wipe σ (own.map (·.2))) G u ∧ tn i u.heap ∧ (∀ b ∈ fp, G b = none) ∧ W i m G
              | .error _ => False) t11 := by
          refine loop_near (fun k u => ∃ j G, Inv (X.blk t3 G3 scope ce fp) ([] ++ pinsAt fp t7.heap) (wipe τ vs1) G u ∧ tn1 j u.heap ∧ (∀ b ∈ fp1, G b = none) ∧ W1 j k G) (fun k t12 => ?_) m1 ⟨0, G11, J11.weak (wipe_length _ _) (fun j v e => (wipe_some e).1), st11, fun b hb => (f11 b hb).1, w1⟩
          rintro ⟨j, G12, J12, st12, n12, w12⟩
          rcases turn1 j k G12 w12 with ⟨stop1, nx1⟩ | ⟨go1, Nx1, hNx1, step1⟩
          · refine thnF (T1.done (X.blk t3 G3 scope ce fp) rfl rfl rfl hc j _ t12 (wipe τ vs1) G12 (fun _ _ => False) J12 (stay1 n12) st12 stop1) fun r t13 ⟨hr, J13⟩ => ?_
            subst hr
            refine fin J13 (by rw [← w8, wipe_length, wipe_length]) (fun j v e => ?_) nx1
            rw [← w8] at e
            obtain ⟨e1, e2⟩ := wipe_some e
            rw [wipe_out fun z => e2 (hv j z)]
            exact e1
          · refine thnF (T1.item (X.blk t3 G3 scope ce fp) rfl rfl rfl hc j _ t12 (wipe τ vs1) G12 (fun _ _ => False) J12 (stay1 n12) st12 go1) fun r t13 ⟨u1, hr, h13⟩ => ?_
            subst hr
            refine thnF h13 fun _ t14 ⟨x1, G14, J14, r14, y14, st14, n14⟩ => ?_
            have J14' := J14.pinned (stay1 n14) (T1.obj _ _ st14)
            refine thnF (pg1.run _ t14 (wipe τ vs1) G14 x1 u1 _ J14' r14 (step1 x1 G14 y14)) fun _ t15 ⟨τ15, G15, J15, w15, q15⟩ => ?_
            refine thnF (pt1.run _ t15 τ15 G15 _ J15 q15) fun b1 t16 ⟨G16, J16, q16⟩ => ?_
            have fin1 : ∀ {u : Shared} {G : Hp}, Inv (X.blk t3 G3 scope ce fp) (([] ++ pinsAt fp t7.heap) ++ pinsAt fp1 t14.heap) τ15 G u → Nx1 G → ∃ m, m < k ∧ ∃ j G, Inv (X.blk t3 G3 scope ce fp) ([] ++ pinsAt fp t7.heap) (wipe τ vs1) G u ∧ tn1 j u.heap ∧ (∀ b ∈ fp1, G b = none) ∧ W1 j m G := fun {u G} J' nx => by
              obtain ⟨m', hm, w'⟩ := hNx1 G nx
              have pin : ∀ b ∈ fp1, ∀ o, t14.heap.get? b = some o → u.heap.get? b = some o ∧ G b = none := fun b hb o e => (J'.pin (b, o) (List.mem_append_right _ (List.mem_append_right _ (mem_pinsAt hb e)))).elim fun z1 z2 => ⟨z1, z2.1⟩
              exact ⟨m', hm, j + 1, G, J'.unpinned.weak (by rw [← w15, wipe_length]) (fun j v e => by rw [← w15] at e; exact (wipe_some e).1), T1.keep _ _ _ st14 fun b hb o e => (pin b hb o e).1, fun b hb => (T1.obj _ _ st14 b hb).elim fun o z => (pin b hb o z.1).2, w'⟩
            cases b1
            · simp only [Bool.false_eq_true, if_false] at q16 ⊢
              exact fin1 J16 q16
            · simp only [if_true] at q16 ⊢
              refine thnF (pk.run _ t16 τ15 G16 _ J16 q16) fun z t17 ⟨yk, G17, J17, r17, q17⟩ => ?_
              refine thnF (pv.run _ t17 τ15 G17 _ J17 q17) fun z2 t18 ⟨yv, G18, J18, r18, b, kvs, k, eb, hb, hD, lz, nx⟩ => ?_
              subst eb
              cases (show z = Value.ref b from r17)
              exact dt_set (X := X.blk t3 G3 scope ce fp) hu J18 hD lz hb r18 fun t19 J19 => fin1 J19 nx
        exact start_near lp1 (T1.self X.A 0 _ _ _ st11 lp1)
  exact codeAny_compStart_dict lp (T.self X.A 0 _ _ _ st4 lp)
theorem pe_d2 {kx vx ta ia tb ib : Expr} {fa fb : List Expr} {scope : Scope} {own : List (Str × Nat)} (vs1 : List Nat) {pos : Pos} {wi wi1 : TI} {g g1 : TG} {tt tt1 : TT} {tk tv : TE} (hu : X.A.units + 1 < cLine) (hc : X.calm = true) (nd : X.N.Nodup) (pi : PI X ta ia wi) (ok : BlkOk X.N X.env.scope scope own) (hv : ∀ i ∈ vs1, i ∈ own.map (·.2))
    (P : DtP X kx vx ta fa scope g tt tk tv) (P1 : NearP X tb ib fb scope wi1 g1 tt1) (fl : ∀ x, foldedSetIterable ia X.env x = pure x := by intro _; rfl) : PE X (dcc kx vx ta ia tb ib fa fb scope pos) (tD2 wi g tt wi1 g1 tt1 tk tv (own.map (·.2)) vs1) := by
  refine ⟨fun pins s σ H Q J h => ?_⟩
  rw [arm_eval_DictComp]
  refine d2_core hu hc nd J pi ok hv P P1 fl h fun D C s' m H' J' q hn f => ⟨m, hn, fun h'' sb => ?_⟩
  exact ⟨.ref D, H', J'.turned (t' := s'.toks) (fun b o hb e => (sb.2 b hb).trans e) f.1 f.2.1 f.2.2.2.1 f.2.2.2.2.1 f.2.2.2.2.2, rfl, q⟩
end
end Hk
namespace Hk
open PySem PySem.Spec PyProof.Rows L2
abbrev SI : Type := Str × Int
/-- by the text, then by the integer -/
def ltSI (p q : SI) : Bool := if p.1 = q.1 then decide (p.2 < q.2) else decide (p.1.cps.toList < q.1.cps.toList)
theorem str_ext {x y : Str} (h : x.cps.toList = y.cps.toList) : x = y := by
  cases x with
  | mk a => cases y with
    | mk b =>
      congr 1
      exact Array.toList_inj.mp h
theorem ltSI_iff {p q : SI} : ltSI p q = true ↔ p.1.cps.toList < q.1.cps.toList ∨ (p.1 = q.1 ∧ p.2 < q.2) := by
  unfold ltSI
  by_cases e : p.1 = q.1
  · rw [if_pos e, decide_eq_true_eq]
    constructor
    · exact fun h => .inr ⟨e, h⟩
    · rintro (h | h)
      · rw [e] at h
        exact absurd h (List.lt_irrefl _)
      · exact h.2
  · rw [if_neg e, decide_eq_true_eq]
    constructor
    · exact fun h => .inl h
    · rintro (h | h)
      · exact h
      · exact absurd h.1 e
theorem ltSI_no {p q : SI} : ltSI p q = false ↔ ¬ (p.1.cps.toList < q.1.cps.toList ∨ (p.1 = q.1 ∧ p.2 < q.2)) := by
  rw [← ltSI_iff]
  cases ltSI p q <;> simp
theorem lt_tri (a b : List Nat) : a < b ∨ a = b ∨ b < a := by
  rcases Classical.em (a < b) with h | h
  · exact .inl h
  · rcases Classical.em (b < a) with h2 | h2
    · exact .inr (.inr h2)
    · exact .inr (.inl (List.le_antisymm (List.not_lt.mp h2) (List.not_lt.mp h)))
theorem ltSI_irr (p : SI) : ltSI p p = false := ltSI_no.mpr fun h => by
  rcases h with h | h
  · exact List.lt_irrefl _ h
  · omega
theorem ltSI_trans {p q r : SI} (h1 : ltSI p q = true) (h2 : ltSI q r = true) : ltSI p r = true := by
  rw [ltSI_iff] at *
  rcases h1 with h1 | ⟨e1, h1⟩ <;> rcases h2 with h2 | ⟨e2, h2⟩
  · exact .inl (List.lt_trans h1 h2)
  · exact .inl (by rw [← e2]; exact h1)
  · exact .inl (by rw [e1]; exact h2)
  · exact .inr ⟨e1.trans e2, by omega⟩
theorem ltSI_tri (p q : SI) : ltSI p q = true ∨ p = q ∨ ltSI q p = true := by
  rcases lt_tri p.1.cps.toList q.1.cps.toList with h | h | h
  · exact .inl (ltSI_iff.mpr (.inl h))
  · have e := str_ext h
    rcases Int.lt_trichotomy p.2 q.2 with h | h | h
    · exact .inl (ltSI_iff.mpr (.inr ⟨e, h⟩))
    · exact .inr (.inl (Prod.ext e h))
    · exact .inr (.inr (ltSI_iff.mpr (.inr ⟨e.symm, h⟩)))
  · exact .inr (.inr (ltSI_iff.mpr (.inl h)))
theorem ltSI_asym {p q : SI} (h : ltSI p q = true) : ltSI q p = false := by
  cases z : ltSI q p with
  | false => rfl
  | true =>
    have := ltSI_trans h z
    rw [ltSI_irr] at this
    cases this
theorem swo_si {α : Type} (k : α → SI) : SrtO.Swo fun v u => ltSI (k v) (k u) := by
  refine ⟨fun x y h => ltSI_asym h, fun x y z h1 h2 => ?_⟩
  cases h : ltSI (k z) (k x) with
  | false => rfl
  | true =>
    rcases ltSI_tri (k x) (k y) with q | q | q
    · have b := ltSI_trans h q
      rw [h2] at b
      cases b
    · rw [q, h2] at h
      cases h
    · rw [h1] at q
      cases q
/-- a tuple of a text and an integer -/
def IsSI (h : Heap) (v : Value) (p : SI) : Prop := ∃ (a : Addr) (o : Obj) (t u : Tok) (n : Nat), v = .ref a ∧ h.get? a = some o ∧ o.cls = .type "tuple" ∧ o.data = .seq #[.str p.1 t, .int p.2 u] n
theorem IsSI.keeps {h h' : Heap} {v : Value} {p : SI} (x : IsSI h v p) (k : ∀ b o, h.get? b = some o → o.cls = .type "tuple" → h'.get? b = some o) : IsSI h' v p := by
  obtain ⟨a, o, t, u, n, e, ho, hc, hd⟩ := x
  exact ⟨a, o, t, u, n, e, k a o ho hc, hc, hd⟩
/-- what pair stands there -/
def siOf (h : Heap) (v : Value) : SI := match v with
  | .ref a => match h.get? a with
    | some o => match o.data with
      | .seq xs _ => match xs.toList with
        | [.str z _, .int i _] => (z, i)
        | _ => default
      | _ => default
    | none => default
  | _ => default
theorem IsSI.of {h : Heap} {v : Value} {p : SI} (x : IsSI h v p) : siOf h v = p := by
  obtain ⟨a, o, t, u, n, rfl, ho, hc, hd⟩ := x
  simp only [siOf, ho, hd]
section
variable {prog : Program} {w : World} {A : Around} {s : Shared}
theorem si_cmp {vs : List Value} {k : Value → SI} (hp : ∀ v ∈ vs, IsSI s.heap v (k v)) : SrtO.Cmp prog w A s (tuples' true) (fun p => p.1 ∈ vs) (SrtO.lt2 fun v u => ltSI (k v) (k u)) := by
  intro p q hm hm'
  have h1 := hp _ hm
  have h2 := hp _ hm'
  show wpAny (model prog w) A (keyLt' (tuples' true) p.1 q.1) (fun r s' => s' = s ∧ r = ltSI (k p.1) (k q.1)) (fun _ _ => False) s
  generalize k p.1 = x at h1 ⊢
  generalize k q.1 = y at h2 ⊢
  obtain ⟨a, o, t, u, n, e, ho, hc, hd⟩ := h1
  obtain ⟨a', o', t', u', n', e', ho', hc', hd'⟩ := h2
  rw [e, e']
  refine PySem.W.kat_lt ho hd ho' hd' ?_
  show PySem.W.KatLex prog w A true (decide (2 < 2)) _ [(.str x.1 t, .str y.1 t'), (.int x.2 u, .int y.2 u')] 0 s
  refine PySem.W.kat_cons (SeqAt.EqAt.str_str x.1 t y.1 t' prog w _ _ ?_)
  refine PySem.W.kat_go (fun e1 => ?_) (fun e1 => ?_)
  · have ex : x.1 = y.1 := eq_of_beq e1
    have ef : ltSI x y = decide (x.2 < y.2) := by unfold ltSI; rw [if_pos ex]
    refine PySem.W.kat_yes (PySem.W.kat_cons (SeqAt.EqAt.int_int x.2 u y.2 u' prog w _ _ ?_))
    refine PySem.W.kat_go (fun e2 => ?_) (fun e2 => ?_)
    · have ey : x.2 = y.2 := eq_of_beq e2
      exact PySem.W.kat_yes (PySem.W.kat_nil ⟨rfl, by rw [ef, ey]; simp⟩)
    · refine PySem.W.kat_no (PySem.W.kat_one _ _ (PyProof.Rows.lt_int ?_))
      exact (show s = s ∧ decide (x.2 < y.2) = ltSI x y from ⟨rfl, ef.symm⟩)
  · have ex : ¬ x.1 = y.1 := fun q => by
      rw [q] at e1
      simp at e1
    have ef : ltSI x y = decide (x.1.cps.toList < y.1.cps.toList) := by unfold ltSI; rw [if_neg ex]
    exact PySem.W.kat_no (oneLt_str (show s = s ∧ decide (x.1.cps.toList < y.1.cps.toList) = ltSI x y from ⟨rfl, ef.symm⟩))
theorem si_firsts {h : Heap} {k : Value → SI} : ∀ vs : List Value, (∀ v ∈ vs, IsSI h v (k v)) → ∃ fs : List Value, PySem.W.KatTups h vs fs ∧ fs.length = vs.length ∧ ∀ f ∈ fs, ∃ (z : Str) (t : Tok), f = Value.str z t
  | [], _ => ⟨[], PySem.W.KatTups.nil, rfl, fun f hf => nomatch hf⟩
  | v :: vs, x => by
    obtain ⟨fs, g, hl, hi⟩ := si_firsts vs fun u hu => x u (List.mem_cons_of_mem _ hu)
    obtain ⟨a, o, t, u, n, e, ho, hc, hd⟩ := x v (List.mem_cons_self ..)
    refine ⟨.str (k v).1 t :: fs, ⟨⟨a, o, _, n, e, ho, hc, hd, rfl⟩, g⟩, by rw [List.length_cons, List.length_cons, hl], fun f hf => ?_⟩
    rcases List.mem_cons.mp hf with rfl | hf
    · exact ⟨_, _, rfl⟩
    · exact hi f hf
theorem si_sortable {a : Addr} {vs : List Value} {k : Value → SI} (h0 : 0 < vs.length) (hp : ∀ v ∈ vs, IsSI s.heap v (k v)) (ha : ∀ o, s.heap.get? a = some o → o.cls ≠ .type "tuple") : SrtO.SortableO prog w A s a vs fun v u => ltSI (k v) (k u) := by
  intro h' keep
  have hp' : ∀ v ∈ vs, IsSI h' v (k v) := fun v hm => (hp v hm).keeps fun b o e c => keep b o (fun z => by subst z; exact ha o e c) e
  obtain ⟨fs, h1, h2, h3⟩ := si_firsts vs hp'
  refine ⟨tuples' true, fun Q E hq => ?_, si_cmp hp'⟩
  refine PySem.W.kat_kind (T := .type "str") h1 (by omega) (fun f hm => ?_) (by rfl) ?_
  · obtain ⟨x, t, rfl⟩ := h3 f hm
    exact PySem.W.Looks.now
  · have e : (Value.type "str" != Value.type "tuple") = true := by first | decide +kernel | rfl | decide
    rw [e]
    exact hq
end
section
variable {prog : Program} {w : World} {d : Addr} {o : Obj} {es : Array DictEntry} {ep : Nat}
theorem walks_dt {A : Around} (hh : A.handled = none) (I : Addr) (hne : d ≠ I) (hdat : o.data = .dict es ep) :
    Walks prog w A I [I, d] [I] es.size (fun i v => ∃ en, es[i]? = some en ∧ v = en.key) (fun i h => h.IsKeyIter I d i es.size ep ∧ h.get? d = some o) where
  sub := fun b hb => by simp at hb; simp [hb]
  frame := fun _ _ _ st hk => ⟨st.1.at fun o e => hk I (by simp) o e, hk d (by simp) _ st.2⟩
  item := fun i s Q E hi st hQ => by
    have hx : es[i]? = some es[i] := Array.getElem?_eq_getElem hi
    exact next_key_item st.1 st.2 hdat rfl hx fun h' hit hs => hQ _ h' s.toks ⟨_, hx, rfl⟩ ⟨hit, hs.2 d hne ▸ st.2⟩ fun b o hb e => (hs.2 b (fun h => hb (by simp [h]))).trans e
  done := fun s Q E st hQ => next_key_end hh st.1 st.2 hdat rfl (Nat.le_refl _) fun h' he => hQ h' s.toks fun b o hb e => he b o (fun h => hb (by simp [h])) e
  self := fun _ _ _ _ st hQ => wpAny_pyIter_keyiter st.1 hQ
theorem kdl_dt (lo : (d == sysModules) = false) (hx : o.ExactDict) (hdat : o.data = .dict es ep) :
    PySem.W.KdlSrc prog w "dict" d d es.size (fun i v => ∃ en, es[i]? = some en ∧ v = en.key) (fun h => h.get? d = some o) where
  type := fun _ hm => ⟨o, hm, hx.1⟩
  there := fun _ hm => ⟨Heap.lt_size hm, Heap.lt_size hm⟩
  keep := fun _ _ hm hk => hk d (.inl rfl) o hm
  notList := by decide
  notTuple := by decide
  hint := fun _ _ _ _ hm hq => PySem.W.kdl_hint_dict ⟨o, hm, hx.1⟩ hq
  iter := fun _ _ hh hm => ⟨_, _, (fun _ _ hq => iter_keys lo hm hx hdat hq), walks_dt hh _ (Nat.ne_of_lt (Heap.lt_size hm)) hdat, ⟨⟨_, Heap.get?_push_size _ rfl, rfl, rfl⟩, Heap.get?_push_of_some _ hm⟩⟩
end
abbrev keySI (p : SI) : List L2.Key := [Sum.inr p.1, Sum.inl p.2]
def adOf : Value → Addr
  | .ref a => a
  | _ => 0
section
variable {X : Cx}
/-- sorted(d): the keys' own tuples, in a new list -/
def rSortDT : List V → Hp → VK → Prop := fun xs H Q => ∃ (a : Addr) (kvs : List (List L2.Key × V)) (ks : List SI), xs = [.ref a] ∧ H a = some (.dT kvs) ∧ kvs.map (·.1) = ks.map keySI ∧
  ∀ (zs : List (Addr × SI)) (p : Addr), (zs.map (·.2)).Perm ks → (zs.map (·.2)).Pairwise (fun x y => ltSI y x = false) → (∀ z ∈ zs, H z.1 = some (.tup [.str z.2.1, .int z.2.2])) → H p = none → Q (.ref p) (upd H p (.lst (zs.map fun z => V.ref z.1)))
theorem vals_refs : ∀ zs : List (Addr × SI), Vals (zs.map fun z => V.ref z.1) (zs.map fun z => Value.ref z.1)
  | [] => .nil
  | z :: zs => .cons rfl (vals_refs zs)
theorem cr_sortDT (hc : X.calm = true) : CallR X (.builtin "sorted") rSortDT := by
  intro pins s σ H xs us Q I r h
  obtain ⟨a, kvs, ks, rfl, ha, hks, q⟩ := h
  obtain rfl := Vals.ref1 r
  obtain ⟨z, lo, xs', rel, o, es, ep, ho, hx, hdat, hes, his, hn⟩ := dt_of I.hok ha
  have l1 : kvs.length = xs'.length := Paired.length rel
  have l2 : es.size = xs'.length := size_of_entries hes
  have l3 : kvs.length = ks.length := by
    have e := congrArg List.length hks
    rw [List.length_map, List.length_map] at e
    exact e
  have h16 : es.size ≤ sizeLine := by omega
  refine Calls.call_function_entry PyProof.Rows.kind_sorted PyProof.Rows.plain_sorted PyProof.Rows.entry_sorted (PyProof.Rows.args_sorted1 _) ?_
  unfold Builtin.«sorted»
  refine wpAny_bind (m := checkCount "sorted" 1 1 _) (wpAny_pure ?_)
  refine wpAny_bind (PySem.W.kdu_collect (A := X.A.in1) (kdl_dt lo hx hdat) (I.ok.hd hc) ho h16 fun h' tk acc hk hacc => ?_)
  -- each of them is a pair that is tracked
  have pr : ∀ (j : Nat) (v : Value), acc.toList[j]? = some v → ∃ (p : SI) (b : Addr), ks[j]? = some p ∧ v = .ref b ∧ H b = some (.tup [.str p.1, .int p.2]) := by
    intro j v hj
    obtain ⟨en, he, rfl⟩ := hacc.2 j v (by rw [← Array.getElem?_toList]; exact hj)
    rw [entry_at hes j] at he
    cases hxj : xs'[j]? with
    | none =>
      rw [hxj] at he
      exact nomatch (show (none : Option DictEntry) = some en from he)
    | some x =>
      rw [hxj] at he
      have een : entryOfKey (tupleKind (mixKind X.prog X.w)) x = en := Option.some.inj he
      obtain ⟨e0, he0, r1, r2, r3⟩ := L2.DX.pget rel hxj
      have k0 : (kvs.map (·.1))[j]? = some e0.1 := by rw [List.getElem?_map, he0]; rfl
      rw [hks, List.getElem?_map] at k0
      cases hkj : ks[j]? with
      | none =>
        rw [hkj] at k0
        cases k0
      | some p =>
        rw [hkj] at k0
        have k1 : keySI p = e0.1 := Option.some.inj k0
        refine ⟨p, x.2.1, rfl, by rw [← een]; rfl, ?_⟩
        rw [r2, ← k1]
        rfl
  have hS : ∀ v ∈ acc.toList, ∃ (p : SI) (b : Addr), v = .ref b ∧ H b = some (.tup [.str p.1, .int p.2]) ∧ IsSI s.heap v p := by
    intro v hv
    obtain ⟨j, hj⟩ := List.mem_iff_getElem?.mp hv
    obtain ⟨p, b, _, rfl, hb⟩ := pr j v hj
    refine ⟨p, b, rfl, hb, ?_⟩
    obtain ⟨_, its, rv, ot, hot, hct, nt, hdt⟩ := (show ObjOk X.prog X.w H s.heap b (.tup [.str p.1, .int p.2]) from I.hok b _ hb)
    obtain ⟨u1, u2, rfl, ⟨t1, rfl⟩, ⟨t2, rfl⟩⟩ := vals2 rv
    exact ⟨b, ot, t1, t2, nt, rfl, hot, hct, hdt⟩
  have hks2 : acc.toList.map (siOf s.heap) = ks := by
    refine List.ext_getElem? fun j => ?_
    rw [List.getElem?_map]
    cases hj : acc.toList[j]? with
    | none =>
      have e1 : acc.size ≤ j := by rw [← Array.length_toList]; exact List.getElem?_eq_none_iff.mp hj
      rw [hacc.1] at e1
      rw [List.getElem?_eq_none (by omega)]
      rfl
    | some v =>
      obtain ⟨p, b, e1, rfl, hb⟩ := pr j v hj
      obtain ⟨p', b', e2, hb', si⟩ := hS _ (List.mem_of_getElem? hj)
      cases e2
      rw [hb] at hb'
      have e3 : p = p' := by
        have e4 := HO.tup.inj (Option.some.inj hb')
        injection e4 with e5 e6
        injection e6 with e7 e8
        exact Prod.ext (V.str.inj e5) (V.int.inj e7)
      rw [e1, e3]
      exact congrArg some si.of
  have hz : acc.toList.length ≤ sizeLine := by rw [Array.length_toList, hacc.1]; exact h16
  have I1 : Inv X pins σ H { s with heap := h', toks := tk } := I.kept hk
  refine wpAny_bind (wpAny_newList ?_ hz)
  have hoL : (h'.push (seqObj "list" acc.toList.toArray 0)).get? h'.objs.size = some (seqObj "list" acc.toList.toArray 0) := Heap.get?_push_size _ rfl
  have kb : ∀ b ob, s.heap.get? b = some ob → (h'.push (seqObj "list" acc.toList.toArray 0)).get? b = some ob := fun b ob e => Heap.get?_push_of_some _ (hk b ob e)
  show wpAny _ _ _ _ _ { s with heap := h'.push (seqObj "list" acc.toList.toArray 0), toks := tk }
  refine wpAny_bind (wpAny_holding (wpAny_call_entry PyProof.Rows.slot_list_sort ⟨_, hoL, rfl⟩ PyProof.Rows.entry_list_sort
    (SrtO.list_sort_ord (s := { s with heap := h'.push (seqObj "list" acc.toList.toArray 0), toks := tk }) (swo_si (siOf s.heap)) hoL hz (fun h2 => si_sortable (by omega) (fun v hv => ?_) fun ob e c => ?_) fun out hs hb => ⟨_, rfl, ?_⟩)
    (PyProof.Rows.args_list_sort _)))
  · obtain ⟨p, b, e, _, si⟩ := hS v hv
    rw [si.of]
    exact si.keeps fun b ob e _ => kb b ob e
  · have e' : some ob = some (seqObj "list" acc.toList.toArray 0) := e.symm.trans hoL
    cases e'
    exact absurd (Value.type.inj c) (by decide)
  obtain ⟨e', he'⟩ := PyProof.Rows.sortedHeap_at (vs := acc.toList) (out := out.toArray) hoL
  have ho3 : ∀ v ∈ out, ∃ (p : SI) (b : Addr), v = .ref b ∧ H b = some (.tup [.str p.1, .int p.2]) ∧ IsSI s.heap v p := fun v hv => hS v (hb.perm.mem_iff.mp hv)
  have hout : (out.map fun v => (adOf v, siOf s.heap v)).map (fun z => Value.ref z.1) = out := by
    rw [List.map_map]
    refine (List.map_congr_left fun v hv => ?_).trans (List.map_id _)
    obtain ⟨p, b, rfl, _⟩ := ho3 v hv
    rfl
  have hlen : ((out.map fun v => (adOf v, siOf s.heap v)).map fun z => V.ref z.1).length ≤ sizeLine := by
    rw [List.length_map, List.length_map, hb.perm.length_eq]
    exact hz
  refine wpAny_pure ⟨_, rfl, .ref h'.objs.size, upd H h'.objs.size (.lst ((out.map fun v => (adOf v, siOf s.heap v)).map fun z => V.ref z.1)), I1.laid (t' := tk) (fun b u e => ?_) (Nat.le_refl _)
    (show ObjOk X.prog X.w _ _ _ (.lst _) from ⟨hlen, out, e', ?_, he'⟩), rfl, q _ _ ?_ ?_ ?_ (I1.hok.fresh (Nat.le_refl _))⟩
  · have hb : b < h'.objs.size := Heap.lt_size e
    rw [PyProof.Rows.sortedHeap_old (Nat.ne_of_lt hb) (by rw [size_push']; exact Nat.lt_succ_of_lt hb)]
    exact Heap.get?_push_of_some _ e
  · have := vals_refs (out.map fun v => (adOf v, siOf s.heap v))
    rw [hout] at this
    exact this
  · rw [List.map_map, ← hks2]
    exact hb.perm.map _
  · rw [List.map_map, List.pairwise_map]
    exact hs
  · intro z hz'
    obtain ⟨v, hv, rfl⟩ := List.mem_map.mp hz'
    obtain ⟨p, b, rfl, hb2, si⟩ := ho3 v hv
    rw [si.of]
    exact hb2
end
end Hk
namespace PySem
open Sem (wp)
open Builtin Builtin.Str Builtin.BaseException Builtin.Exceptions
open PySem.W (Looks Frag findIn subIn looks_findIn looks_subIn)
section
variable {prog : Program} {w : World} {K : Frag} {C e t0 : Addr} {h₀ : Heap}
/-- an exception of the class C without arguments -/
def HxExc (C e t0 : Addr) (h : Heap) : Prop := (∃ o vs, h.get? e = some o ∧ o.cls = .ref C ∧ o.data = .fields vs ∧ vs[0]? = some (.ref t0) ∧ o.dict = none) ∧ ∃ o n, h.get? t0 = some o ∧ o.cls = .type "tuple" ∧ o.data = .seq #[] n
theorem HxExc.mono {h h' : Heap} (x : HxExc C e t0 h) (k : ∀ b o, h.get? b = some o → h'.get? b = some o) : HxExc C e t0 h' := by
  obtain ⟨⟨o, vs, h1, h2⟩, o', n, h3, h4⟩ := x
  exact ⟨⟨o, vs, k _ _ h1, h2⟩, o', n, k _ _ h3, h4⟩
/-- the class's name -/
def HxName (K : Frag) (C : Addr) (nm : Str) : Prop := ∃ o cd, K.lookup C = some o ∧ o.data = .cls cd ∧ Str.ofString ((cd.name.toString.cutAt '.').getLastD "") = nm
/-- where the class's repr is the base's -/
structure HxRepr (K : Frag) (C : Addr) (nm : Str) : Prop where
  name : HxName K C nm
  find : findIn K (.ref C) "__repr__" = some (some (.builtin "BaseException.__repr__"))
  sub : subIn K (.ref C) (.type "BaseException") = some true
end
end PySem
namespace Hu
open PySem PySem.Spec PyProof.Rows L2
/-- data: dct us is {'a': [us], 1: None}, exc an error of the one class -/
inductive U where
  | non | bl (b : Bool) | int (i : Int) | str (z : Str) | tup (us : List U) | lst (us : List U) | dct (us : List U) | exc
/-- an error of the class C as it stands at a, its arguments at t -/
def ExN (C t a : Addr) : HO := .ext fun h => ∃ o vs, h.get? a = some o ∧ o.cls = .ref C ∧ o.data = .fields vs ∧ vs[0]? = some (.ref t) ∧ o.dict = none
/-- a block's row -/
def blkS : U → Bool
  | .tup [.tup [.int _, .int _], .str _] => true
  | _ => false
/-- what may be told as blocks: these stand locked, so that a dict can be made of them -/
def isB (us : List U) : Bool := us.all blkS
/-- how a tuple of this data stands at a -/
def Tu (H : Hp) (a : Addr) (xs : List V) (us : List U) : Prop := if isB us = true then ∃ o : Obj, o.dict = none ∧ H a = some (.frz o (.tup xs)) else H a = some (.tup xs)
theorem Tu.got {H : Hp} {a : Addr} {xs : List V} {us : List U} (h : Tu H a xs us) : ∃ o, H a = some o ∧ (o = .tup xs ∨ ∃ b, o = .frz b (.tup xs)) := by
  unfold Tu at h
  split at h
  · obtain ⟨o, _, h⟩ := h
    exact ⟨_, h, .inr ⟨o, rfl⟩⟩
  · exact ⟨_, h, .inl rfl⟩
theorem Tu.mv {H H' : Hp} {a : Addr} {xs : List V} {us : List U} (k : ∀ o, H a = some o → H' a = some o) (h : Tu H a xs us) : Tu H' a xs us := by
  unfold Tu at h ⊢
  split at h
  · rename_i q
    obtain ⟨o, d, h⟩ := h
    rw [if_pos q]
    exact ⟨o, d, k _ h⟩
  · rename_i q
    rw [if_neg q]
    exact k _ h
theorem Tu.one {H : Hp} {a : Addr} {xs xs' : List V} {us us' : List U} (h : Tu H a xs us) (h' : Tu H a xs' us') : xs = xs' := by
  obtain ⟨o, e, q⟩ := h.got
  obtain ⟨o', e', q'⟩ := h'.got
  rw [e] at e'
  cases e'
  rcases q with rfl | ⟨b, rfl⟩
  · rcases q' with q' | ⟨b, q'⟩ <;> cases q'
    rfl
  · rcases q' with q' | ⟨b', q'⟩ <;> cases q'
    rfl
theorem Tu.ne {H : Hp} {a : Addr} {xs : List V} {us : List U} {u : HO} (h : Tu H a xs us) (e : H a = .some u) (n : u ≠ .tup xs) (n' : ∀ b, u ≠ .frz b (.tup xs)) : False := by
  obtain ⟨o, e', q⟩ := h.got
  rw [e'] at e
  cases e
  rcases q with q | ⟨b, q⟩
  · exact n q
  · exact n' b q
theorem Tu.st {K : PySem.W.Frag} {H : Hp} {a : Addr} {xs : List V} {us : List U} (h : Tu H a xs us) : SqT K H a xs := by
  obtain ⟨o, e, q⟩ := h.got
  rcases q with rfl | ⟨b, rfl⟩
  · exact .inl (.inl e)
  · exact .inl (.inr ⟨b, e⟩)
theorem Tu.ok {P : Program} {wd : World} {h₀ : Heap} {H : Hp} {a : Addr} {xs : List V} {us : List U} (h : Tu H a xs us) (ok : HOk P wd H h₀) : ObjOk P wd H h₀ a (.tup xs) := by
  obtain ⟨ho, e, q⟩ := h.got
  have := ok a _ e
  rcases q with rfl | ⟨b, rfl⟩
  · exact this
  · exact this.2
theorem Tu.plain {H : Hp} {a : Addr} {xs : List V} {us : List U} (h : Tu H a xs us) (q : isB us = false) : H a = .some (.tup xs) := by
  unfold Tu at h
  rwa [if_neg (by rw [q]; decide)] at h
theorem Tu.of {H : Hp} {a : Addr} {xs : List V} {us : List U} (h : H a = .some (.tup xs)) (q : isB us = false) : Tu H a xs us := by
  unfold Tu
  rwa [if_neg (by rw [q]; decide)]
theorem Tu.lock {H : Hp} {a : Addr} {xs : List V} {us : List U} (h : Tu H a xs us) (q : isB us = true) : ∃ o : Obj, o.dict = none ∧ H a = .some (.frz o (.tup xs)) := by
  unfold Tu at h
  rwa [if_pos q] at h
mutual
/-- the value v is the data u; all that it stands in is tracked, and isn't w -/
inductive At (w C : Addr) (H : Hp) : V → U → Prop
  | non : At w C H .non .non
  | bl (b : Bool) : At w C H (.bl b) (.bl b)
  | int (i : Int) : At w C H (.int i) (.int i)
  | str (z : Str) : At w C H (.str z) (.str z)
  | tup {a : Addr} {xs : List V} {us : List U} : Tu H a xs us → a ≠ w → AtL w C H xs us → At w C H (.ref a) (.tup us)
  | lst {a : Addr} {xs : List V} {us : List U} : H a = some (.lst xs) → a ≠ w → AtL w C H xs us → At w C H (.ref a) (.lst us)
  | dct {a b : Addr} {xs : List V} {us : List U} : H a = some (.dK [(.inr "a", .ref b), (.inl 1, .non)]) → a ≠ w → H b = some (.lst xs) → b ≠ w → AtL w C H xs us → At w C H (.ref a) (.dct us)
  | exc {a t : Addr} : H a = some (ExN C t a) → a ≠ w → H t = some (.tup []) → t ≠ w → At w C H (.ref a) .exc
inductive AtL (w C : Addr) (H : Hp) : List V → List U → Prop
  | nil : AtL w C H [] []
  | cons {v : V} {u : U} {vs : List V} {us : List U} : At w C H v u → AtL w C H vs us → AtL w C H (v :: vs) (u :: us)
end
section
variable {w C : Addr} {H H' : Hp}
mutual
theorem At.keep (k : ∀ b o, b ≠ w → H b = some o → H' b = some o) : ∀ {u : U} {v : V}, At w C H v u → At w C H' v u
  | _, _, .non => .non
  | _, _, .bl b => .bl b
  | _, _, .int i => .int i
  | _, _, .str z => .str z
  | _, _, .tup h n l => .tup (Tu.mv (fun o e => k _ o n e) h) n (AtL.keep k l)
  | _, _, .lst h n l => .lst (k _ _ n h) n (AtL.keep k l)
  | _, _, .dct h n h2 n2 l => .dct (k _ _ n h) n (k _ _ n2 h2) n2 (AtL.keep k l)
  | _, _, .exc h n h2 n2 => .exc (k _ _ n h) n (k _ _ n2 h2) n2
theorem AtL.keep (k : ∀ b o, b ≠ w → H b = some o → H' b = some o) : ∀ {us : List U} {vs : List V}, AtL w C H vs us → AtL w C H' vs us
  | _, _, .nil => .nil
  | _, _, .cons x l => .cons (x.keep k) (AtL.keep k l)
end
mutual
theorem At.one : ∀ {u u' : U} {v : V}, At w C H v u → At w C H v u' → u = u'
  | _, _, _, .non, y => by cases y; rfl
  | _, _, _, .bl b, y => by cases y; rfl
  | _, _, _, .int i, y => by cases y; rfl
  | _, _, _, .str z, y => by cases y; rfl
  | _, _, _, .tup h n l, y => by
    cases y with
    | tup h' _ l' => have := h.one h'; subst this; rw [AtL.one l l']
    | lst h' _ _ => exact (h.ne h' (fun z => by cases z) (fun _ z => by cases z)).elim
    | dct h' _ _ _ _ => exact (h.ne h' (fun z => by cases z) (fun _ z => by cases z)).elim
    | exc h' _ _ _ => exact (h.ne h' (fun z => by cases z) (fun _ z => by cases z)).elim
  | _, _, _, .lst h n l, y => by
    cases y with
    | tup h' _ l' => exact (h'.ne h (fun z => by cases z) (fun _ z => by cases z)).elim
    | lst h' _ l' => rw [h] at h'; cases h'; rw [AtL.one l l']
    | dct h' _ _ _ _ => rw [h] at h'; cases h'
    | exc h' _ _ _ => rw [h] at h'; cases h'
  | _, _, _, .dct h n h2 n2 l, y => by
    cases y with
    | tup h' _ l' => exact (h'.ne h (fun z => by cases z) (fun _ z => by cases z)).elim
    | lst h' _ l' => rw [h] at h'; cases h'
    | dct h' _ h2' _ l' =>
      rw [h] at h'
      cases h'
      rw [h2] at h2'
      cases h2'
      rw [AtL.one l l']
    | exc h' _ _ _ => rw [h] at h'; cases h'
  | _, _, _, .exc h n _ _, y => by
    cases y with
    | tup h' _ l' => exact (h'.ne h (fun z => by cases z) (fun _ z => by cases z)).elim
    | lst h' _ l' => rw [h] at h'; cases h'
    | dct h' _ _ _ _ => rw [h] at h'; cases h'
    | exc h' _ _ _ => rfl
theorem AtL.one : ∀ {us us' : List U} {vs : List V}, AtL w C H vs us → AtL w C H vs us' → us = us'
  | _, _, _, .nil, y => by cases y; rfl
  | _, _, _, .cons x l, y => by
    cases y with
    | cons x' l' => rw [At.one x x', AtL.one l l']
end
theorem AtL.length : ∀ {us : List U} {vs : List V}, AtL w C H vs us → vs.length = us.length
  | _, _, .nil => rfl
  | _, _, .cons x l => by rw [List.length_cons, List.length_cons, AtL.length l]
theorem AtL.get : ∀ {us : List U} {vs : List V} {i : Nat} {u : U}, AtL w C H vs us → us[i]? = some u → ∃ v, vs[i]? = some v ∧ At w C H v u
  | _, _, _, _, .nil, e => by simp at e
  | _, _, 0, _, .cons x l, e => by
    have := Option.some.inj e
    subst this
    exact ⟨_, rfl, x⟩
  | _, _, i + 1, _, .cons x l, e => AtL.get (i := i) l e
theorem AtL.append : ∀ {us us' : List U} {vs vs' : List V}, AtL w C H vs us → AtL w C H vs' us' → AtL w C H (vs ++ vs') (us ++ us')
  | _, _, _, _, .nil, y => y
  | _, _, _, _, .cons x l, y => .cons x (AtL.append l y)
theorem AtL.take : ∀ {us : List U} {vs : List V} (n : Nat), AtL w C H vs us → AtL w C H (vs.take n) (us.take n)
  | _, _, 0, _ => .nil
  | _, _, _ + 1, .nil => .nil
  | _, _, n + 1, .cons x l => .cons x (AtL.take n l)
theorem AtL.drop : ∀ {us : List U} {vs : List V} (n : Nat), AtL w C H vs us → AtL w C H (vs.drop n) (us.drop n)
  | _, _, 0, l => l
  | _, _, _ + 1, .nil => .nil
  | _, _, n + 1, .cons x l => AtL.drop n l
end
mutual
def dep : U → Nat
  | .tup us | .lst us => depL us + 1
  | .dct us => depL us + 2
  | .exc => 3
  | _ => 0
def depL : List U → Nat
  | [] => 0
  | u :: us => max (dep u) (depL us)
end
end Hu
namespace Hu
open PySem PySem.Spec PyProof.Rows L2
section
variable {P : Program} {wd : World} {K : PySem.W.Frag} {w C : Addr} {H : Hp} {h₀ : Heap} {nm : Str}
/-- an empty tuple -/
def Emp (h : Heap) (b : Addr) : Prop := ∃ o m, h.get? b = some o ∧ o.cls = .type "tuple" ∧ o.data = .seq #[] m
def Inn (w C : Addr) (H : Hp) (h : Heap) (n : Nat) (bs : List Addr) : Prop := ∀ b ∈ bs, (∃ u, At w C H (.ref b) u ∧ dep u ≤ n) ∨ Emp h b
theorem Inn.mono {n m : Nat} {bs : List Addr} (x : Inn w C H h₀ n bs) (l : n ≤ m) : Inn w C H h₀ m bs := fun b hb => by
  rcases x b hb with ⟨u, a, d⟩ | e
  · exact .inl ⟨u, a, Nat.le_trans d l⟩
  · exact .inr e
theorem Inn.append {n : Nat} {bs cs : List Addr} (x : Inn w C H h₀ n bs) (y : Inn w C H h₀ n cs) : Inn w C H h₀ n (bs ++ cs) := fun b hb =>
  (List.mem_append.mp hb).elim (x b) (y b)
theorem Inn.cons {n : Nat} {bs : List Addr} {a : Addr} {u : U} (x : Inn w C H h₀ n bs) (y : At w C H (.ref a) u) (l : n ≤ dep u) : Inn w C H h₀ (dep u) (a :: bs) := fun b hb => by
  rcases List.mem_cons.mp hb with e | hb
  · subst e
    exact .inl ⟨u, y, Nat.le_refl _⟩
  · exact (x.mono l) b hb
end
end Hu
namespace Hu
open PySem PySem.Spec PyProof.Rows L2
end Hu
namespace Hu
open PySem PySem.Spec PyProof.Rows L2
/-- the class of the errors among the values: how isinstance asks them, what repr tells -/
structure Xc (K : PySem.W.Frag) (mg : Str → Option Value) (x : Str) (C : Addr) (nm : Str) : Prop where
  g : mg x = some (.ref C)
  x : PySem.W.excIn K C [.type "ValueError", .type "Exception", .type "BaseException", .type "object"] "ValueError.__new__" = true
  k : PySem.W.keepIn K (.ref C) = true
  c : L2.ExcC K C
  r : HxRepr K C nm
  ki : PySem.W.kitOne K (.ref C) (.type "int") = some false
  kb : PySem.W.kitOne K (.ref C) (.type "bool") = some false
  ks : PySem.W.kitOne K (.ref C) (.type "str") = some false
  kt : PySem.W.kitOne K (.ref C) (.type "tuple") = some false
def tyU : U → String
  | .non => "NoneType"
  | .bl _ => "bool"
  | .int _ => "int"
  | .str _ => "str"
  | .tup _ => "tuple"
  | .lst _ => "list"
  | .dct _ => "dict"
  | .exc => "?"
def isS (S T : String) : Bool := S == T || (S == "bool" && T == "int")
/-- isinstance(u, T), T one of int, bool, str, tuple -/
def isT (u : U) (T : String) : Bool := isS (tyU u) T
theorem kit_is {S T : String} (hS : S ∈ ["NoneType", "bool", "int", "str", "tuple", "list", "dict"]) (hT : T ∈ ["int", "bool", "str", "tuple"]) : kitB S T = some (isS S T) := by
  have : (["NoneType", "bool", "int", "str", "tuple", "list", "dict"].all fun S => ["int", "bool", "str", "tuple"].all fun T => decide (kitB S T = some (isS S T))) = true := by decide +kernel
  exact of_decide_eq_true (List.all_eq_true.mp (List.all_eq_true.mp this S hS) T hT)
theorem ExN.inst {P : Program} {wd : World} {H : Hp} {h : Heap} {C a t : Addr} (ok : HOk P wd H h) (e : H a = some (ExN C t a)) : ∃ o, PySem.W.InstAt h a o C none := by
  obtain ⟨⟨o, vs, h1, h2, h3, _, h5⟩, _, _⟩ := ok a _ e
  refine ⟨o, ?_⟩
  obtain ⟨oc, od, oda, osl⟩ := o
  dsimp only at h2 h3 h5
  subst h2 h3 h5
  exact ⟨h1, rfl, rfl, trivial⟩
section
variable {X : Cx} {w C : Addr} {nm x : Str}
/-- isinstance(v, T) -/
theorem call_isiU (T : String) (E : Xc X.K X.mg x C nm) (hT : T ∈ ["int", "bool", "str", "tuple"]) :
    CallR X (.builtin "isinstance") (fun xs H Q => ∃ (v : V) (u : U) (w : Addr), xs = [v, .ty T] ∧ At w C H v u ∧ Q (.bl (isT u T)) H) := by
  intro pins s σ H xs us Q I r h
  obtain ⟨v, u, w, rfl, hat, q⟩ := h
  have plain : ∀ S, TyX X.K H v (.type S) → kitB S T = some (isT u T) → wpAny (model X.prog X.w) X.A (call (.builtin "isinstance") us) (EP X pins σ Q) X.xe s := fun S ty kb =>
    call_isi pins s σ H _ us Q I r ⟨v, .ty T, .type S, .type T, isT u T, rfl, .ty T, ty, kit_ty kb, q⟩
  cases hat with
  | non => exact plain _ (.base .non) (kit_is (by simp) hT)
  | bl b => exact plain _ (.base (.bl b)) (kit_is (by simp) hT)
  | int i => exact plain _ (.base (.int i)) (kit_is (by simp) hT)
  | str z => exact plain _ (.base (.str z)) (kit_is (by simp) hT)
  | tup h _ _ =>
    obtain ⟨ho, e, q⟩ := h.got
    rcases q with rfl | ⟨b, rfl⟩
    · exact plain _ (.base (.tup e)) (kit_is (by simp) hT)
    · exact plain _ (.fTuple e) (kit_is (by simp) hT)
  | lst h _ _ => exact plain _ (.base (.lst h)) (kit_is (by simp) hT)
  | dct h _ _ _ _ => exact plain _ (.base (.dK h)) (kit_is (by simp) hT)
  | exc h n _ _ =>
    obtain ⟨u1, u2, rfl, r1, r2⟩ := vals2 r
    cases r1
    cases r2
    obtain ⟨o, J⟩ := ExN.inst I.hok h
    have c := E.c
    have e : PySem.W.kitOne X.K (.ref C) (.type T) = some false ∧ isT .exc T = false := by
      simp only [List.mem_cons, List.not_mem_nil, or_false] at hT
      rcases hT with rfl | rfl | rfl | rfl
      · exact ⟨E.ki, by decide +kernel⟩
      · exact ⟨E.kb, by decide +kernel⟩
      · exact ⟨E.ks, by decide +kernel⟩
      · exact ⟨E.kt, by decide +kernel⟩
    rw [e.2] at q
    exact PySem.W.kia_one (PySem.W.handS_kitx_exc c.hg c.hk c.hs c.hd c.ha c.hn c.ht c.hm) I.kIn J e.1 (fun z => nomatch z) fun tk => ⟨.bl false, H, I.tok tk, rfl, q⟩
end
end Hu
namespace Hs
open PySem PySem.Spec PyProof.Rows L2
def topS (i : Nat) : Stmt := PySem.Challenge.pw_homeshold_k14_epochs_and_seals.main.body.getD i (.Pass ⟨0, 0, 0, 0⟩)
abbrev lHat : Stmt := topS 149
abbrev sDraw : Stmt := topS 150
/-- all that was tracked stands as it was, but for what stands at w -/
def Keep (w : Addr) (H H' : Hp) : Prop := ∀ b o, b ≠ w → H b = some o → H' b = some o
theorem Keep.refl (w : Addr) (H : Hp) : Keep w H H := fun _ _ _ h => h
theorem Keep.trans {w : Addr} {H H1 H2 : Hp} (a : Keep w H H1) (b : Keep w H1 H2) : Keep w H H2 := fun c o n h => b c o n (a c o n h)
theorem Keep.of_same {w : Addr} {H H' : Hp} (s : Same H H') : Keep w H H' := fun b o _ h => s b o h
theorem Keep.updw {w : Addr} {H : Hp} {o : HO} : Keep w H (upd H w o) := fun b u n h => by
  rw [upd_ne n]
  exact h
theorem same_upd {H : Hp} {p : Addr} {o : HO} (h : H p = none) : Same H (upd H p o) := fun b x e => by
  rw [upd_ne (ne_of_none e h)]
  exact e
theorem Keep.new {w : Addr} {H : Hp} {p : Addr} {o : HO} (h : H p = none) : Keep w H (upd H p o) := .of_same (same_upd h)
/-- where a hat stands -/
structure WA where
  (w : Addr)
/-- a hat: what is left of a cell's digits, and a mix -/
structure Well (H : Hp) (a : WA) : Prop where
  ex : ∃ x y : Int, H a.w = some (.lst [.int x, .int y]) ∧ 0 ≤ x ∧ 0 ≤ y
/-- what a draw leaves -/
structure Drawn (a : WA) (H H' : Hp) : Prop where
  keep : Keep a.w H H'
  well : Well H' a
variable {a : WA} {H H' H1 H2 : Hp} {p : Addr} {o : HO}
theorem Drawn.refl (h : Well H a) : Drawn a H H := ⟨.refl _ _, h⟩
theorem Drawn.trans (x : Drawn a H H1) (y : Drawn a H1 H2) : Drawn a H H2 := ⟨x.keep.trans y.keep, y.well⟩
theorem Well.same (h : Well H a) (s : Same H H') : Well H' a := by
  obtain ⟨x, y, h1, h2⟩ := h.ex
  exact ⟨x, y, s _ _ h1, h2⟩
theorem Drawn.same (x : Drawn a H H1) (y : Same H1 H2) : Drawn a H H2 := ⟨x.keep.trans (.of_same y), x.well.same y⟩
theorem Drawn.new (x : Drawn a H H1) (h : H1 p = none) : Drawn a H (upd H1 p o) := x.same (same_upd h)
theorem Well.at (h : Well H a) : ∃ o, H a.w = some o := by
  obtain ⟨x, y, h1, _⟩ := h.ex
  exact ⟨_, h1⟩
theorem Well.ne (h : Well H a) (n : H p = none) : p ≠ a.w ∧ True := by
  obtain ⟨x, y, h1, h2⟩ := h.ex
  exact ⟨(ne_of_none h1 n).symm, trivial⟩
theorem Drawn.free (e : Drawn a H H') (hw : Well H a) (h : H' p = Option.none) : H p = Option.none := by
  by_cases q : p = a.w
  · subst q
    obtain ⟨o, h1⟩ := e.well.at
    rw [h1] at h
    cases h
  · cases z : H p with
    | none => rfl
    | some o =>
      rw [e.keep p o q z] at h
      cases h
/-- what is new since H is written -/
theorem Drawn.put (x : Drawn a H H1) (hw : Well H a) (n : H p = none) : Drawn a H (upd H1 p o) := by
  obtain ⟨n1, _⟩ := hw.ne n
  refine ⟨fun b u nb e => ?_, ?_⟩
  · rw [upd_ne (ne_of_none e n)]
    exact x.keep b u nb e
  · obtain ⟨y, z, h1, h2⟩ := x.well.ex
    exact ⟨y, z, by rw [upd_ne n1.symm]; exact h1, h2⟩
/-- the names of the built-ins that the text leaves alone -/
structure Bt (mg : Str → Option Value) : Prop where
  int : mg "int" = none
  len : mg "len" = none
  range : mg "range" = none
  all : mg "all" = none
  isi : mg "isinstance" = none
  tup : mg "tuple" = none
  lst : mg "list" = none
  str : mg "str" = none
  max : mg "max" = none
  boo : mg "bool" = none
  sum : mg "sum" = none
  rep : mg "repr" = none
  enu : mg "enumerate" = none
section
variable {P : Program} {w : World} {K : PySem.W.Frag} {mg : Str → Option Value} {base : Heap}
open Evl
theorem fmod_lt {a b : Int} (h : 0 < b) : 0 ≤ a.fmod b ∧ a.fmod b < b := by
  rw [Int.fmod_eq_emod_of_nonneg _ (Int.le_of_lt h)]
  exact ⟨Int.emod_nonneg _ (by omega), Int.emod_lt_of_pos _ h⟩
theorem nz {j : Int} (h : decide (j = 0) = false) : j ≠ 0 := of_decide_eq_false h
/-- a def of the text, found by its name -/
structure Df (K : PySem.W.Frag) (mg : Str → Option Value) (x : Str) (st : Stmt) (ps : List Str) (f : Addr) (fd : FuncData) : Prop where
  F : Fun K x x st f fd
  b : Binds K fd ps []
  g : mg x = some (.ref f)
theorem boot_int2 : bootBuiltins "int" = some (.type "int") := by decide +kernel
theorem ev_int1 {σ : L2.St} {H : Hp} {te : TE} {i : Int} (h : Ev te σ H (.int i)) : Ev (tCB (fun xs H Q => (∃ i, xs = [V.int i] ∧ Q (.int i) H) ∨ ∃ k, xs = [V.bl k] ∧ Q (.int (if k then 1 else 0)) H) (tCons te tNil)) σ H (.int i) := ev_cb (ea_cons h ea_nil) fun H1 _ Q q => .inl ⟨i, rfl, q H1 (Ex.refl H1)⟩
theorem rv_mulW {H : Hp} {i j : Int} {a b : Nat} (ha : i.natAbs < 2 ^ a) (hb : j.natAbs < 2 ^ b) (h0 : 0 < a) (h1 : 0 < b) (h : a + b ≤ 1000000) : RV (rI CMulW fun i j => .int (i * j)) (.int i) (.int j) H (.int (i * j)) := fun H1 _ Q q => ⟨i, j, rfl, rfl, wide_mul ha hb h0 h1 h, q H1 (Ex.refl H1)⟩
theorem rv_mul1 {H : Hp} {i j : Int} (h1 : -(2 ^ 64) < i) (h2 : i < 2 ^ 64) : RV (rI CMul fun i j => .int (i * j)) (.int i) (.int j) H (.int (i * j)) := fun H1 _ Q q => ⟨i, j, rfl, rfl, .inl ⟨h1, h2⟩, q H1 (Ex.refl H1)⟩
theorem rv_mul2 {H : Hp} {i j : Int} (h1 : -(2 ^ 64) < j) (h2 : j < 2 ^ 64) : RV (rI CMul fun i j => .int (i * j)) (.int i) (.int j) H (.int (i * j)) := fun H1 _ Q q => ⟨i, j, rfl, rfl, .inr ⟨h1, h2⟩, q H1 (Ex.refl H1)⟩
theorem rv_modN {H : Hp} {i j : Int} (h : j ≠ 0) : RV (rI (fun _ j => j ≠ 0) fun i j => .int (i.fmod j)) (.int i) (.int j) H (.int (i.fmod j)) := fun H1 _ Q q => ⟨i, j, rfl, rfl, h, q H1 (Ex.refl H1)⟩
theorem rv_fdivW {H : Hp} {i j : Int} {b : Nat} (h : 0 < j) (hb : j.natAbs < 2 ^ b) (h0 : 0 < b) (h9 : b ≤ 9000) : RV (rI CDivW fun i j => .int (i / j)) (.int i) (.int j) H (.int (i / j)) := fun H1 _ Q q => ⟨i, j, rfl, rfl, wide_div h hb h0 h9, q H1 (Ex.refl H1)⟩
theorem ev_hat {σ : L2.St} {H : Hp} {w : Addr} {K : PySem.W.Frag} {to : TE} {x y : V} (h : H w = some (.lst [x, y])) (ho : Ev to σ H (.ref w)) : Ev (tOp (rIxL K) to (tC (.int 0))) σ H x ∧ Ev (tOp (rIxL K) to (tC (.int 1))) σ H y :=
  ⟨ev_op ho ev_c (rv_ixL (SqL.of h) rfl), ev_op ho ev_c (rv_ixL (SqL.of h) rfl)⟩
def spDraw : Sp := fun vs H Q _ => ∃ (wl : WA) (m : Int), vs = [.ref wl.w, .int m] ∧ Well H wl ∧ 0 < m ∧ m < 2 ^ 62 ∧ ∀ (d : Int) (H' : Hp), 0 ≤ d → d < m → Drawn wl H H' → Q (.int d) H'
theorem scDraw : FnScope ["hat", "many", "digit"] ["hat", "many"] (defScope sDraw) := ⟨rfl, rfl, rfl, by decide +kernel, rfl, by decide +kernel, by decide +kernel⟩
theorem ok_draw {f : Addr} {fd : FuncData} (F : Fun K "_law_draw" "_law_draw" sDraw f fd) (B : Bt mg) : FnOk P w K mg base CX0 1 f fd ["hat", "many"] spDraw := by
  refine F.ok scDraw (fun vs H Q E h => ?_) (fun cdv A outer s H vs Q E hr h => ?_)
  · obtain ⟨n, m, rfl, _⟩ := h
    rfl
  obtain ⟨⟨wl⟩, m, rfl, W, m0, m1, k⟩ := h
  have hI := B.int
  refine ⟨_, pss_cons (ps_if (pt_cmpR op_gt (pe_ix ix_list (pv 0) pe_int (fun _ _ => rfl)) pe_int (nomark _))
      (pss_cons (ps_set (i := 2) scDraw.nd rfl (.inl rfl) (pe_op op_modN (pe_callTy call_int1 (by rfl) hI boot_int2 (pa_cons (pe_ix ix_list (pv 0) pe_int (fun _ _ => rfl)) pa_nil)) (pv 1)))
      (pss_cons (ps_asg (pe_op op_fdivW (pe_ix ix_list (pv 0) pe_int (fun _ _ => rfl)) (pv 1)) (pg_sub (pv 0) pe_int set_list))
      (pss_one (ps_ret (pv 2))))) pss_nil)
    (pss_cons (ps_asg (pe_op op_modN (pe_op op_add (pe_op op_mul (pe_callTy call_int1 (by rfl) hI boot_int2 (pa_cons (pe_ix ix_list (pv 0) pe_int (fun _ _ => rfl)) pa_nil)) pe_int) pe_int) pe_int) (pg_sub (pv 0) pe_int set_list))
    (pss_cons (ps_asg (pe_op op_modN (pe_op op_add (pe_op op_mul (pe_callTy call_int1 (by rfl) hI boot_int2 (pa_cons (pe_ix ix_list (pv 0) pe_int (fun _ _ => rfl)) pa_nil)) (pe_op op_add (pe_op op_modN (pe_op op_fdivW (pe_ix ix_list (pv 0) pe_int (fun _ _ => rfl)) pe_int) pe_int) pe_int)) pe_int) pe_int) (pg_sub (pv 0) pe_int set_list))
    (pss_one (ps_ret (pe_op op_modN (pe_op op_fdivW (pe_ix ix_list (pv 0) pe_int (fun _ _ => rfl)) pe_int) (pv 1)))))), ?_⟩
  obtain ⟨a, b, h1, a0, b0⟩ := W.ex
  dsimp only at h1
  have gt := fun (σ : L2.St) (e : σ[0]? = some (some (V.ref wl))) => (ev_hat (K := K) (σ := σ) h1 (ev_var e))
  refine q_when (b := decide (a > 0)) (et_test (ev_op (gt _ rfl).1 ev_c rv_I0)) (fun q H1 e1 => ?_) (fun q H1 e1 => ?_)
  · have h2 := e1 _ _ h1
    refine q_asg (ev_op (ev_int1 (ev_hat (K := K) h2 (ev_var rfl)).1) (ev_var rfl) (rv_modN (by omega))) fun H2 e2 => ?_
    have h3 := e2 _ _ h2
    refine q_setL (j := 0) h3 (ev_op (ev_hat (K := K) h3 (ev_var rfl)).1 (ev_var rfl) (rv_fdivW (b := 62) m0 (by omega) (by decide) (by decide))) (ev_var rfl) ev_c (by show (0 : Nat) < 2; decide) fun H3 e3 => ?_
    have E3 := (e1.trans e2).trans e3
    refine s_ret (ev_var rfl) fun H4 e4 => ?_
    have b1 := fmod_lt (a := a) m0
    refine k _ H4 b1.1 b1.2 ⟨?_, a / m, b, e4 _ _ upd_same, Int.ediv_nonneg a0 (by omega), b0⟩
    exact ((Keep.of_same E3).trans .updw).trans (.of_same e4)
  · have h2 := e1 _ _ h1
    refine q_setL (j := 1) h2 (ev_op (ev_op (ev_op (ev_int1 (ev_hat (K := K) h2 (ev_var rfl)).2) ev_c (rv_mul2 (by decide) (by decide))) ev_c rv_I0) ev_c (rv_modN (by decide))) (ev_var rfl) ev_c (by show (1 : Nat) < 2; decide) fun H2 e2 => ?_
    have b1 := fmod_lt (a := b * 48271 + 11) (b := 2147483647) (by decide)
    generalize (b * 48271 + 11).fmod 2147483647 = b' at b1
    have u2 := upd_same (H := H2) (a := wl) (o := .lst [.int a, .int b'])
    refine q_setL (j := 1) u2 (ev_op (ev_op (ev_op (ev_int1 (ev_hat (K := K) u2 (ev_var rfl)).2) (ev_op (ev_op (ev_op (ev_hat (K := K) u2 (ev_var rfl)).2 ev_c (rv_fdivW (b := 20) (by decide) (by decide) (by decide) (by decide))) ev_c (rv_modN (by decide))) ev_c rv_I0) (rv_mul1 (by omega) (by omega))) ev_c rv_I0) ev_c (rv_modN (by decide))) (ev_var rfl) ev_c (by show (1 : Nat) < 2; decide) fun H3 e3 => ?_
    generalize hb : (b' * ((b' / 1009).fmod 65521 + 69621) + 7).fmod 2147483629 = b2
    have b3 : 0 ≤ b2 ∧ b2 < 2147483629 := by rw [← hb]; exact fmod_lt (by decide)
    have u3 := upd_same (H := H3) (a := wl) (o := .lst [.int a, .int b2])
    refine s_ret (ev_op (ev_op (ev_hat (K := K) u3 (ev_var rfl)).2 ev_c (rv_fdivW (b := 20) (by decide) (by decide) (by decide) (by decide))) (ev_var rfl) (rv_modN (by omega))) fun H4 e4 => ?_
    have b4 := fmod_lt (a := b2 / 16) m0
    refine k _ H4 b4.1 b4.2 ⟨?_, a, b2, e4 _ _ u3, a0, b3.1⟩
    exact ((((Keep.of_same (e1.trans e2)).trans .updw).trans (.of_same e3)).trans .updw).trans (.of_same e4)
def spHat : Sp := fun vs H Q _ => ∃ (c k : Int), vs = [.int c, .int k] ∧ 0 ≤ k ∧ ∀ (wl : WA) (H' : Hp), H wl.w = none → Same H H' → Well H' wl → Q (.ref wl.w) H'
theorem scHat : FnScope ["cell", "k", "wide", "number"] ["cell", "k"] (defScope lHat) := ⟨rfl, rfl, rfl, by decide +kernel, rfl, by decide +kernel, by decide +kernel⟩
theorem rv_powN {H : Hp} {i j : Int} (h : CPow i j) : RV (rI CPow fun i j => .int (i ^ j.toNat)) (.int i) (.int j) H (.int (i ^ j.toNat)) := fun H1 _ Q q => ⟨i, j, rfl, rfl, h, q H1 (Ex.refl H1)⟩
theorem ok_hat {f : Addr} {fd : FuncData} (F : Fun K "_law_hat" "_law_hat" lHat f fd) (B : Bt mg) : FnOk P w K mg base CX0 1 f fd ["cell", "k"] spHat := by
  refine F.ok scHat (fun vs H Q E h => ?_) (fun cdv A outer s H vs Q E hr h => ?_)
  · obtain ⟨c, k, rfl, _⟩ := h
    rfl
  obtain ⟨c, j, rfl, j0, k⟩ := h
  have hI := B.int
  refine ⟨_, pss_cons (ps_set (i := 2) scHat.nd rfl (.inl rfl) (pe_op op_mulW (pe_op op_mulW (pe_op op_mulW (pe_op op_pow pe_int pe_int) (pe_op op_pow pe_int pe_int)) (pe_op op_pow pe_int pe_int)) (pe_op op_pow pe_int pe_int)))
    (pss_cons (ps_set (i := 3) scHat.nd rfl (.inl rfl) (pe_op op_modN (pe_callTy call_int1 (by rfl) hI boot_int2 (pa_cons (pv 0) pa_nil)) (pv 2)))
    (pss_cons (ps_if (pt_cmpR op_ge (pv 3) (pe_op op_pow pe_int pe_int) (nomark _)) (pss_one (ps_ret (pe_lst (pa_cons (pv 3) (pa_cons (pe_op op_add (pe_op op_modN (pe_callTy call_int1 (by rfl) hI boot_int2 (pa_cons (pv 3) pa_nil)) pe_int) (pv 1)) pa_nil))))) pss_nil)
    (pss_one (ps_ret (pe_lst (pa_cons pe_int (pa_cons (pe_op op_modN (pe_op op_add (pe_op op_add (pe_op op_mul (pe_op op_modN (pe_callTy call_int1 (by rfl) hI boot_int2 (pa_cons (pv 3) pa_nil)) pe_int) pe_int) (pe_op op_mul pe_int (pv 1))) pe_int) pe_int) pa_nil))))))), ?_⟩
  have c64 : CPow 10 64 := ⟨by decide, by decide, by decide⟩
  have n1 : ((10 : Int) ^ (64 : Int).toNat).natAbs < 2 ^ 213 := by decide +kernel
  have n2 : ((10 : Int) ^ (64 : Int).toNat * 10 ^ (64 : Int).toNat).natAbs < 2 ^ 426 := by decide +kernel
  have n3 : ((10 : Int) ^ (64 : Int).toNat * 10 ^ (64 : Int).toNat * 10 ^ (64 : Int).toNat).natAbs < 2 ^ 640 := by decide +kernel
  have n4 : (0 : Int) < 10 ^ (64 : Int).toNat * 10 ^ (64 : Int).toNat * 10 ^ (64 : Int).toNat * 10 ^ (64 : Int).toNat := by decide +kernel
  refine q_asg (ev_op (ev_op (ev_op (ev_op ev_c ev_c (rv_powN c64)) (ev_op ev_c ev_c (rv_powN c64)) (rv_mulW n1 n1 (by decide) (by decide) (by decide))) (ev_op ev_c ev_c (rv_powN c64)) (rv_mulW n2 n1 (by decide) (by decide) (by decide))) (ev_op ev_c ev_c (rv_powN c64)) (rv_mulW n3 n1 (by decide) (by decide) (by decide))) fun H1 e1 => ?_
  generalize (10 : Int) ^ (64 : Int).toNat * 10 ^ (64 : Int).toNat * 10 ^ (64 : Int).toNat * 10 ^ (64 : Int).toNat = wide at n4
  refine q_asg (ev_op (ev_int1 (ev_var rfl)) (ev_var rfl) (rv_modN (by omega))) fun H2 e2 => ?_
  have b1 := (fmod_lt (a := c) n4).1
  generalize c.fmod wide = n at b1
  have E2 := e1.trans e2
  refine q_when (b := decide ((10 : Int) ^ (18 : Int).toNat ≤ n)) (et_test (ev_op (ev_var rfl) (ev_op ev_c ev_c (rv_powN ⟨by decide, by decide, by decide⟩)) rv_I0)) (fun q H3 e3 => ?_) (fun q H3 e3 => ?_)
  · have b2 := fmod_lt (a := n) (b := 2147483563) (by decide)
    exact s_retL (el_lst (ea_cons (ev_var rfl) (ea_cons (ev_op (ev_op (ev_int1 (ev_var rfl)) ev_c (rv_modN (by decide))) (ev_var rfl) rv_I0) ea_nil)) (by show (2 : Nat) ≤ 100000; decide)) fun p H4 hp e4 h4 => k ⟨p⟩ H4 (fresh_back (E2.trans e3) hp) ((E2.trans e3).trans e4) ⟨_, _, h4, b1, by omega⟩
  · have b2 := fmod_lt (a := n.fmod 2147483647 * 48271 + 7919 * j + 1) (b := 2147483647) (by decide)
    have b3 := fmod_lt (a := n) (b := 2147483647) (by decide)
    exact s_retL (el_lst (ea_cons ev_c (ea_cons (ev_op (ev_op (ev_op (ev_op (ev_op (ev_int1 (ev_var rfl)) ev_c (rv_modN (by decide))) ev_c (rv_mul2 (by decide) (by decide))) (ev_op ev_c (ev_var rfl) (rv_mul1 (by decide) (by decide))) rv_I0) ev_c rv_I0) ev_c (rv_modN (by decide))) ea_nil)) (by show (2 : Nat) ≤ 100000; decide)) fun p H4 hp e4 h4 => k ⟨p⟩ H4 (fresh_back (E2.trans e3) hp) ((E2.trans e3).trans e4) ⟨_, _, h4, by decide, b2.1⟩
end
end Hs
namespace Hs
open PySem PySem.Spec PyProof.Rows L2
abbrev sIsInt : Stmt := topS 12
abbrev sFromOne : Stmt := topS 14
abbrev sPair : Stmt := topS 15
abbrev sIsSigns : Stmt := topS 16
abbrev sAscending : Stmt := topS 17
abbrev sHome : Stmt := topS 18
abbrev sHand : Stmt := topS 19
abbrev sName : Stmt := topS 20
abbrev sPiece : Stmt := topS 21
abbrev sBlockId : Stmt := topS 22
abbrev sRow : Stmt := topS 23
abbrev sStamp : Stmt := topS 24
abbrev sMembers : Stmt := topS 25
abbrev lName : Stmt := topS 152
abbrev lId : Stmt := topS 153
abbrev lStamp : Stmt := topS 155
abbrev lRow : Stmt := topS 157
abbrev lMembers : Stmt := topS 156
def okc (c : Nat) : Bool := decide (32 ≤ c) && decide (c ≤ 126)
def okz (z : Str) : Bool := (TL.tl z).all okc
theorem lt1 (a b : Nat) : decide (([a] : List Nat) < [b]) = decide (a < b) := by
  by_cases h : a < b
  · rw [decide_eq_true h]
    exact decide_eq_true (List.cons_lt_cons_iff.mpr (.inl h))
  · rw [decide_eq_false h]
    refine decide_eq_false fun q => ?_
    rcases List.cons_lt_cons_iff.mp q with q | ⟨_, q⟩
    · exact h q
    · exact absurd q (List.not_lt_nil _)
theorem not_lt1 (a b : Nat) : (!decide (([b] : List Nat) < [a])) = decide (a ≤ b) := by
  rw [lt1]
  by_cases h : b < a
  · rw [decide_eq_true h, decide_eq_false (by omega)]
    rfl
  · rw [decide_eq_false h, decide_eq_true (by omega)]
    rfl
def bit : Nat := 1000000
theorem bit_line : bit < sizeLine := by
  rw [sizeLine_eq]
  decide
theorem boot_str : bootBuiltins "str" = some (.type "str") := by decide +kernel
theorem boot_tuple' : bootBuiltins "tuple" = some (.type "tuple") := by decide +kernel
theorem boot_isi : bootBuiltins "isinstance" = some (.builtin "isinstance") := by decide +kernel
theorem boot_all' : bootBuiltins "all" = some (.builtin "all") := by decide +kernel
theorem codes_get {z : Str} {i c : Nat} (h : z.cps[i]? = some c) : (TL.tl z)[i]? = some c := by
  show z.cps.toList[i]? = some c
  rw [Array.getElem?_toList]
  exact h
section
variable {P : Program} {w : World} {K : PySem.W.Frag} {mg : Str → Option Value} {base : Heap}
def okS (c : Nat) : Bool := okc c && decide (c ≠ 37)
/-- a text of signs but the percent sign -/
def lawz (z : Str) : Prop := ∀ c ∈ TL.tl z, okS c = true
theorem lawz.ok {z : Str} (h : lawz z) : okz z = true := List.all_eq_true.mpr fun c hc => by
  have := h c hc
  unfold okS at this
  rw [Bool.and_eq_true] at this
  exact this.1
theorem sgn_tl (c : Nat) : TL.tl (⟨#[c]⟩ : Str) = [c] := rfl
theorem join_tl (zs : List Str) : TL.tl (Txt.join ("" : Str) zs) = (zs.map TL.tl).flatten := by
  rw [TL.join_eq, TL.tl_join]
  have e : TL.tl ("" : Str) = [] := rfl
  rw [e]
  generalize zs.map TL.tl = l
  induction l with
  | nil => rfl
  | cons p r ih =>
    cases r with
    | nil => simp [TL.joinL]
    | cons q r =>
      show p ++ ([] ++ TL.joinL [] (q :: r)) = _
      rw [ih]
      rfl
end
end Hs
namespace Hu
open PySem
mutual
/-- how long it is when shown, at most -/
def wt : U → Nat
  | .non => 4
  | .bl _ => 5
  | .int _ => 80
  | .str z => 2 * z.length + 2
  | .tup us => wtL us + 3
  | .lst us => wtL us + 2
  | .dct us => wtL us + 30
  | .exc => 30
def wtL : List U → Nat
  | [] => 0
  | u :: us => wt u + 2 + wtL us
end
mutual
/-- its signs are a text's or line feeds, its integers small -/
def clean : U → Prop
  | .int i => i.natAbs < 2 ^ 65
  | .str z => ∀ c ∈ TL.tl z, Hs.okS c = true ∨ c = 10
  | .tup us | .lst us | .dct us => cleanL us
  | _ => True
def cleanL : List U → Prop
  | [] => True
  | u :: us => clean u ∧ cleanL us
end
structure Fine (u : U) : Prop where
  w : wt u ≤ 1000000
  c : clean u
theorem wt_mem : ∀ {us : List U} {u : U}, u ∈ us → wt u ≤ wtL us
  | _ :: us, _, .head _ => by simp only [wtL]; omega
  | _ :: us, _, .tail _ h => by have := wt_mem h; simp only [wtL]; omega
theorem wt_len : ∀ us : List U, 2 * us.length ≤ wtL us
  | [] => Nat.zero_le _
  | u :: us => by have := wt_len us; simp only [wtL, List.length_cons]; omega
theorem clean_mem : ∀ {us : List U} {u : U}, cleanL us → u ∈ us → clean u
  | _ :: _, _, h, .head _ => h.1
  | _ :: _, _, h, .tail _ q => clean_mem h.2 q
theorem Fine.tup {us : List U} (h : Fine (.tup us)) : ∀ u ∈ us, Fine u := fun u hu => ⟨by have := h.w; have := wt_mem hu; simp only [wt] at *; omega, clean_mem (by simpa only [clean] using h.c) hu⟩
theorem Fine.len {us : List U} (h : Fine (.tup us)) : us.length ≤ 500000 := by
  have := h.w
  have := wt_len us
  simp only [wt] at *
  omega
theorem Fine.str {z : Str} (h : Fine (.str z)) : z.length ≤ 500000 := by
  have := h.w
  simp only [wt] at *
  omega
theorem isT_str {u : U} (h : isT u "str" = true) : ∃ z, u = .str z := by
  cases u with
  | str z => exact ⟨z, rfl⟩
  | _ => simp [isT, isS, tyU] at h
theorem isT_tup {u : U} (h : isT u "tuple" = true) : ∃ us, u = .tup us := by
  cases u with
  | tup us => exact ⟨us, rfl⟩
  | _ => simp [isT, isS, tyU] at h
end Hu
namespace Hs
open PySem PySem.Spec PyProof.Rows L2 Hu
section
variable {K : PySem.W.Frag} {σ : L2.St} {H H' : Hp} {ta tb tc te tl : TE} {r r' : R2} {x y z v : V} {w C : Addr} {u : U} {us : List U} {xs : List V}
open Evl
theorem ex_at (e : Ex H H') (h : At w C H v u) : At w C H' v u := h.keep fun b o _ q => e b o q
theorem ex_atl (e : Ex H H') (h : AtL w C H xs us) : AtL w C H' xs us := h.keep fun b o _ q => e b o q
theorem _root_.Hu.Tu.ex {a : Addr} (e : Ex H H') (h : Tu H a xs us) : Tu H' a xs us := Tu.mv (fun o q => e _ o q) h
theorem ev_chain {a b : Bool} (ha : Ev ta σ H x) (hb : Ev tb σ H y) (hc : Ev tc σ H z) (h1 : RV r x y H (.bl a)) (h2 : a = true → RV r' y z H (.bl b)) : Ev (tChain r r' ta tb tc) σ H (.bl (a && b)) := fun H1 e Q q =>
  ha H1 e _ fun H2 e2 => hb H2 (e.trans e2) _ fun H3 e3 => h1 H3 ((e.trans e2).trans e3) _ fun H4 e4 => ⟨a, rfl, by
    cases a with
    | false => exact q H4 ((e2.trans e3).trans e4)
    | true => exact hc H4 (((e.trans e2).trans e3).trans e4) _ fun H5 e5 => h2 rfl H5 ((((e.trans e2).trans e3).trans e4).trans e5) _ fun H6 e6 => q H6 ((((e2.trans e3).trans e4).trans e5).trans e6)⟩
abbrev rIsi (C : Addr) (T : String) : List V → Hp → VK → Prop := fun xs H Q => ∃ (v : V) (u : U) (w : Addr), xs = [v, .ty T] ∧ At w C H v u ∧ Q (.bl (isT u T)) H
theorem ev_isi {T : String} (h : Ev te σ H v) (hat : At w C H v u) : Ev (tCB (rIsi C T) (tCons te (tCons (tC (.ty T)) tNil))) σ H (.bl (isT u T)) :=
  ev_cb (ea_cons h (ea_cons ev_c ea_nil)) fun H1 e Q q => ⟨v, u, w, rfl, ex_at e hat, q H1 (Ex.refl H1)⟩
abbrev rLenQ (K : PySem.W.Frag) : List V → Hp → VK → Prop := fun xs H Q => ∃ p ys, xs = [.ref p] ∧ (SqL K H p ys ∨ SqT K H p ys) ∧ Q (.int ys.length) H
theorem ev_lenT {a : Addr} (h : Ev te σ H (.ref a)) (hx : Tu H a xs us) : Ev (tCB (rLenQ K) (tCons te tNil)) σ H (.int (xs.length : Int)) :=
  ev_cb (ea_cons h ea_nil) fun H1 e Q q => ⟨a, xs, rfl, .inr (Tu.st (Tu.ex e hx)), q H1 (Ex.refl H1)⟩
abbrev rLenZ : List V → Hp → VK → Prop := fun xs H Q => ∃ z : Str, xs = [.str z] ∧ z.length ≤ sizeLine ∧ Q (.int z.length) H
theorem ev_lenS {z : Str} (h : Ev te σ H (.str z)) (hz : z.length ≤ sizeLine) : Ev (tCB rLenZ (tCons te tNil)) σ H (.int (z.length : Int)) :=
  ev_cb (ea_cons h ea_nil) fun H1 e Q q => ⟨z, rfl, hz, q H1 (Ex.refl H1)⟩
theorem ev_ixT {a : Addr} {j : Nat} (h : Ev te σ H (.ref a)) (hx : Tu H a xs us) (hj : xs[j]? = some v) : Ev (tOp (rIxT K) te (tC (.int (j : Int)))) σ H v :=
  ev_op h ev_c (rv_ixT (Tu.st hx) (atI_nat hj))
theorem ev_lenP {a : Addr} (h : Ev te σ H (.ref a)) (hx : H a = some (.tup xs)) : Ev (tCB (rLenQ K) (tCons te tNil)) σ H (.int (xs.length : Int)) :=
  ev_cb (ea_cons h ea_nil) fun H1 e Q q => ⟨a, xs, rfl, .inr (st_of (e _ _ hx)), q H1 (Ex.refl H1)⟩
theorem ev_ixP {a : Addr} {j : Nat} (h : Ev te σ H (.ref a)) (hx : H a = some (.tup xs)) (hj : xs[j]? = some v) : Ev (tOp (rIxT K) te (tC (.int (j : Int)))) σ H v :=
  ev_op h ev_c (rv_ixT (st_of hx) (atI_nat hj))
theorem et_yes : EvT tYes σ H true := fun H1 _ Q q => q H1 (Ex.refl H1)
theorem len_fine {n : Nat} (h : n ≤ 1000000) : n ≤ sizeLine := Nat.le_trans h (Nat.le_of_lt bit_line)
/-- all([f(x) for x in a tuple]) -/
theorem ev_allT {a : Addr} {j : Nat} {vs : List Nat} {g : U → Bool} (h : Ev tl σ H (.ref a)) (hx : Tu H a xs us) (hz : us.length ≤ 500000) (hl : AtL w C H xs us) (hw : ∀ x, wipe ((wipe σ vs).set j (some x)) vs = wipe σ vs)
    (he : ∀ (x : V) (u : U), u ∈ us → At w C H x u → Ev te ((wipe σ vs).set j (some x)) H (.bl (g u))) :
    Ev (tCB (rAll K) (tCons (tLc (iTup K tl) (gName j) tYes te vs) tNil)) σ H (.bl (us.all g)) := fun H0 e Q q => h H0 e _ fun H1 e1 => ⟨a, rfl, ⟨xs, Tu.st (Tu.ex (e.trans e1) hx)⟩, fun Dl hD =>
  lc_tup (xs := xs) (fun i H' => Ex H1 H' ∧ H' Dl = some (.lst ((us.take i).map fun u => V.bl (g u)))) ⟨Ex.new hD, upd_same⟩ (fun i H' _ p => Tu.st (Tu.ex ((e.trans e1).trans p.1) hx)) (fun i x H2 hi p => by
    obtain ⟨p1, p2⟩ := p
    have hlen := AtL.length hl
    have hu : i < us.length := by
      have := (List.getElem?_eq_some_iff.mp hi).1
      omega
    obtain ⟨x', hx', hax⟩ := AtL.get hl (List.getElem?_eq_getElem hu)
    rw [hi] at hx'
    cases hx'
    refine ⟨hw x, he x us[i] (List.getElem_mem hu) hax H2 ((e.trans e1).trans p1) _ fun H3 e3 => ⟨_, e3 _ _ p2, ?_, fun q o hq => ?_, ?_⟩⟩
    · rw [List.length_map, List.length_take]
      have := bit_line
      unfold bit at this
      omega
    · rw [upd_ne (ne_of_none hq hD)]
      exact e3 _ _ (p1 _ _ hq)
    · rw [upd_same, List.take_add_one, List.getElem?_eq_getElem hu, List.map_append]
      rfl) (fun H' p => ⟨Dl, us.map g, rfl, sq_of (by
        rw [p.2, AtL.length hl, List.take_length, List.map_map]
        rfl), by
        have e2 : (us.map g).all id = us.all g := by
          rw [List.all_map]
          rfl
        rw [e2]
        exact q _ (e1.trans p.1)⟩)⟩
/-- all([f(c) for c in a string]) -/
theorem ev_allS {z : Str} {j : Nat} {vs : List Nat} {g : Nat → Bool} (h : Ev tl σ H (.str z)) (hz : z.length ≤ 500000) (hw : ∀ x, wipe ((wipe σ vs).set j (some x)) vs = wipe σ vs)
    (he : ∀ c ∈ TL.tl z, Ev te ((wipe σ vs).set j (some (.str ⟨#[c]⟩))) H (.bl (g c))) :
    Ev (tCB (rAll K) (tCons (tLc (iStr tl) (gName j) tYes te vs) tNil)) σ H (.bl ((TL.tl z).all g)) := fun H0 e Q q => h H0 e _ fun H1 e1 => ⟨z, rfl, fun Dl hD =>
  lc_it walk_str (fun i H' => Ex H1 H' ∧ H' Dl = some (.lst (((TL.tl z).take i).map fun u => V.bl (g u)))) ⟨Ex.new hD, upd_same⟩ (fun _ _ _ _ => True.intro) (fun i x H2 H2' hi p y => by
    obtain ⟨p1, p2⟩ := p
    obtain ⟨rfl, c, hc, rfl⟩ := y
    have hc' := codes_get hc
    have hl : i < (TL.tl z).length := (List.getElem?_eq_some_iff.mp hc').1
    refine ⟨hw _, he c (List.mem_of_getElem? hc') H2' ((e.trans e1).trans p1) _ fun H3 e3 => ⟨_, e3 _ _ p2, ?_, fun q o hq => ?_, ?_⟩⟩
    · rw [List.length_map, List.length_take]
      have := bit_line
      unfold bit at this
      have hq := TL.len_tl z
      omega
    · rw [upd_ne (ne_of_none hq hD)]
      exact e3 _ _ (p1 _ _ hq)
    · rw [upd_same, List.take_add_one, hc', List.map_append]
      rfl) (fun H' p => ⟨Dl, (TL.tl z).map g, rfl, sq_of (by
        rw [p.2, show z.cps.size = (TL.tl z).length from (TL.len_tl z).symm, List.take_length, List.map_map]
        rfl), by
        have e2 : ((TL.tl z).map g).all id = (TL.tl z).all g := by
          rw [List.all_map]
          rfl
        rw [e2]
        exact q _ (e1.trans p.1)⟩)⟩
end
def spJ (C : Addr) (g : U → Bool) : Sp := fun vs H Q _ => ∃ (v : V) (u : U) (w : Addr), vs = [v] ∧ At w C H v u ∧ Fine u ∧ ∀ H', Same H H' → Q (.bl (g u)) H'
structure Jd (P : Program) (w : World) (K : PySem.W.Frag) (mg : Str → Option Value) (base : Heap) (C : Addr) (k : Nat) (x : Str) (p : Str) (f : Addr) (fd : FuncData) (g : U → Bool) : Prop where
  ok : FnOk P w K mg base CX0 k f fd [p] (spJ C g)
  g : mg x = some (.ref f)
  kp : PySem.W.keepIn K (.ref f) = true
  b : Binds K fd [p] []
section
variable {P : Program} {wd : World} {K : PySem.W.Frag} {mg : Str → Option Value} {base : Heap} {C : Addr}
theorem Jd.imp {x p : Str} {k : Nat} {f : Addr} {fd : FuncData} {g g' : U → Bool} (J : Jd P wd K mg base C k x p f fd g) (h : ∀ u, Fine u → g u = g' u) : Jd P wd K mg base C k x p f fd g' :=
  ⟨J.ok.imp fun vs H Q E ⟨v, u, w, e, a, fi, q⟩ => ⟨v, u, w, e, a, fi, fun H' s => by rw [h u fi]; exact q H' s⟩, J.g, J.kp, J.b⟩
theorem spv_J {g : U → Bool} {H : Hp} {v : V} {u : U} {w : Addr} (hat : At w C H v u) (fi : Fine u) : Evl.SpV (spJ C g) [v] H (.bl (g u)) := fun H1 e Q q E => ⟨v, u, w, rfl, ex_at e hat, fi, q⟩
theorem ev_J {g : U → Bool} {H : Hp} {v : V} {u : U} {w : Addr} {σ : L2.St} {te : TE} {E : XK} (h : Evl.Ev te σ H v) (hat : At w C H v u) (fi : Fine u) : Evl.Ev (tCall (spJ C g) [] E (tCons te tNil)) σ H (.bl (g u)) :=
  Evl.ev_call (Evl.ea_cons h Evl.ea_nil) (spv_J hat fi)
theorem lenJ {g : U → Bool} {p : Str} : ∀ vs H Q E, spJ C g vs H Q E → vs.length = [p].length := fun vs H Q E h => by
  obtain ⟨v, u, w, rfl, _⟩ := h
  rfl
end
section
variable {X : Cx} {C : Addr} {CX : CXT} {E : XK}
theorem pe_J {x p : Str} {k j : Nat} {f : Addr} {fd : FuncData} {g : U → Bool} {e : Expr} {te : TE} {ps pos : Pos} (J : Jd X.prog X.w X.K X.mg X.base C k x p f fd g) (hr : Room j X.A) (h : k ≤ j) (hg : Gl X x) (hx : Passes CX0 X E) (he : PE X e te) (hdb : (x == ("__debug__" : Str)) = false := by decide)
    (hst : starEach [e] X.env = (false, eval e X.env) :: starEach [] X.env := by rfl) (hpl : (backTo pos (starEach [] X.env)).any (·.1) = false := by rfl) :
    PE X (.Call (.Name x ps) [e] [] pos) (tCall (spJ C g) [] E (tCons te tNil)) :=
  pe_call J.ok (hr.mono h) hg J.g J.kp J.b .nil hx (pa_cons he pa_nil hst) hdb hst hpl
end
end Hs
namespace Hs
open PySem PySem.Spec PyProof.Rows L2 Hu Evl
/-- an error's class: without an __eq__ of its own, no tuple's -/
structure Eqx (K : PySem.W.Frag) (C : Addr) : Prop where
  m : PySem.W.mroIn K C (.type "object") = some true
  e : PySem.W.findIn K (.ref C) "__eq__" = some (some (.builtin "object.__eq__"))
  t : PySem.W.subIn K (.ref C) (.type "tuple") = some false
/-- what the text leaves to the built-ins, and its errors -/
structure Bs (K : PySem.W.Frag) (mg : Str → Option Value) (C : Addr) : Prop where
  B : Bt mg
  E : Xc K mg "NoTable" C "NoTable"
  q : Eqx K C
/-- the numbers that the text names -/
structure Cn (mg : Str → Option Value) : Prop where
  homes : ∃ t, mg "MOST_HOMES" = some (.int 9 t)
  hands : ∃ t, mg "MOST_HANDS" = some (.int 99 t)
  pieces : ∃ t, mg "MOST_PIECES" = some (.int 12 t)
  signs : ∃ t, mg "PIECE_SIGNS" = some (.int 8 t)
  names : ∃ t, mg "NAME_SIGNS" = some (.int 8 t)
theorem boot_bool' : bootBuiltins "bool" = some (.type "bool") := by decide +kernel
theorem boot_int' : bootBuiltins "int" = some (.type "int") := by decide +kernel
section
variable {X : Cx} {C : Addr} {e : Expr} {te : TE} {p p2 pos : Pos}
theorem pe_isiX {T : String} {T' : Str} (S : Bs X.K X.mg C) (hg : Gl X "isinstance") (hgT : Gl X T') (hT : X.mg T' = none) (bT : bootBuiltins T' = some (.type T)) (hm : T ∈ ["int", "bool", "str", "tuple"]) (he : PE X e te) (hn : T' ≠ "__name__") (hd : (T' == ("__debug__" : Str)) = false)
    (hst : starEach [e] X.env = (false, eval e X.env) :: starEach [] X.env := by rfl) (hst2 : starEach [e, .Name T' p2] X.env = (false, eval e X.env) :: starEach [.Name T' p2] X.env := by rfl) (hpl : (backTo pos (starEach [.Name T' p2] X.env)).any (·.1) = false := by rfl)
    (hst3 : starEach [.Name T' p2] X.env = (false, eval (.Name T' p2) X.env) :: starEach [] X.env := by rfl) :
    PE X (.Call (.Name "isinstance" p) [e, .Name T' p2] [] pos) (tCB (rIsi C T) (tCons te (tCons (tC (.ty T)) tNil))) :=
  pe_callB (call_isiU T S.E hm) hg S.B.isi boot_isi (pa_cons he (pa_cons (pe_bltn hgT hT bT (show RelV (.ty T) (.type T) from rfl) hn hd) pa_nil hst3) hst2) (by decide) (by decide) hst2 hpl
end
def iv (u : U) (p : Int → Bool) : Bool := match u with | .int i => p i | _ => false
def sv (u : U) (p : Str → Bool) : Bool := match u with | .str z => p z | _ => false
def tv (u : U) (p : List U → Bool) : Bool := match u with | .tup us => p us | _ => false
def gInt (u : U) : Bool := iv u fun _ => true
def gFrom (u : U) : Bool := iv u fun i => decide (1 ≤ i)
def gHome (u : U) : Bool := iv u fun i => decide (0 ≤ i) && decide (i < 9)
def gHand (u : U) : Bool := iv u fun i => decide (1 ≤ i) && decide (i ≤ 99)
def gPair (u : U) : Bool := tv u fun us => decide (us.length = 2)
def gSigns (u : U) : Bool := sv u okz
def lowc (c : Nat) : Bool := decide (97 ≤ c) && decide (c ≤ 122)
def gNam (u : U) : Bool := sv u fun z => (decide (1 ≤ z.length) && decide (z.length ≤ 8)) && (TL.tl z).all lowc
def gPiece (u : U) : Bool := sv u fun z => okz z && (decide (1 ≤ z.length) && decide (z.length ≤ 8))
def two (us : List U) (p : U → U → Bool) : Bool := match us with | [a, b] => p a b | _ => false
def gId (u : U) : Bool := tv u fun us => two us fun a b => gHand a && gFrom b
def gRow (u : U) : Bool := match u with | .non => true | .tup us => decide (us.length ≤ 12) && us.all gId | _ => false
def gStamp (u : U) : Bool := tv u fun us => two us fun a b => iv a fun i => iv b fun j => (decide (i = 0) && decide (j = 0)) || (decide (1 ≤ i) && (decide (1 ≤ j) && decide (j ≤ 99)))
def intU (u : U) : Int := match u with | .int i => i | _ => 0
def ascI (ns : List Int) : Bool := (List.range (ns.length - 1)).all fun k => decide (ns.getD k 0 < ns.getD (k + 1) 0)
def gMembers (u : U) : Bool := tv u fun us => ((decide (1 ≤ us.length) && decide (us.length ≤ 9)) && us.all gHome) && ascI (us.map intU)
section
variable {P : Program} {wd : World} {K : PySem.W.Frag} {mg : Str → Option Value} {base : Heap} {C : Addr}
theorem scIsInt : FnScope ["thing"] ["thing"] (defScope sIsInt) := ⟨rfl, rfl, rfl, by decide +kernel, rfl, by decide +kernel, by decide +kernel⟩
theorem gInt_is (u : U) : (isT u "int" && !isT u "bool") = gInt u := by
  cases u <;> simp [isT, isS, tyU, gInt, iv]
theorem jd_int {f : Addr} {fd : FuncData} (D : Df K mg "is_integer" sIsInt ["thing"] f fd) (S : Bs K mg C) : Jd P wd K mg base C 1 "is_integer" "thing" f fd gInt := by
  refine ⟨D.F.ok scIsInt lenJ (fun cdv A outer s H vs Q E hr h => ?_), D.g, D.F.kp, D.b⟩
  obtain ⟨v, u, w, rfl, hat, fi, k⟩ := h
  refine ⟨_, pss_one (ps_ret (pe_and (pe_isiX S (by rfl) (by rfl) S.B.int boot_int' (by decide) (pv 0) (by decide) (by decide)) (pe_one (pe_not (pe_isiX S (by rfl) (by rfl) S.B.boo boot_bool' (by decide) (pv 0) (by decide) (by decide)))))), ?_⟩
  refine s_ret (ev_andV (ev_isi (ev_var rfl) hat) fun _ => ev_notV (ev_isi (ev_var rfl) hat)) fun H1 e => ?_
  rw [gInt_is]
  exact k H1 e
theorem scFrom : FnScope ["thing"] ["thing"] (defScope sFromOne) := ⟨rfl, rfl, rfl, by decide +kernel, rfl, by decide +kernel, by decide +kernel⟩
theorem gInt_int {u : U} (h : gInt u = true) : ∃ i, u = .int i := by
  cases u with
  | int i => exact ⟨i, rfl⟩
  | _ => cases h
theorem at_int {w : Addr} {H : Hp} {v : V} {i : Int} (h : At w C H v (.int i)) : v = .int i := by
  cases h
  rfl
theorem at_str {w : Addr} {H : Hp} {v : V} {z : Str} (h : At w C H v (.str z)) : v = .str z := by
  cases h
  rfl
theorem at_tup {w : Addr} {H : Hp} {v : V} {us : List U} (h : At w C H v (.tup us)) : ∃ a xs, v = .ref a ∧ Tu H a xs us ∧ a ≠ w ∧ AtL w C H xs us := by
  cases h with
  | tup h n l => exact ⟨_, _, rfl, h, n, l⟩
/-- one more test of an integer -/
theorem iv_and (u : U) (p : Int → Bool) : (gInt u && iv u p) = iv u p := by
  cases u <;> rfl
theorem jd_from {f fI : Addr} {fd fdI : FuncData} (D : Df K mg "is_from_one" sFromOne ["thing"] f fd) (S : Bs K mg C) (J : Jd P wd K mg base C 1 "is_integer" "thing" fI fdI gInt) : Jd P wd K mg base C 2 "is_from_one" "thing" f fd gFrom := by
  refine ⟨D.F.ok scFrom lenJ (fun cdv A outer s H vs Q E hr h => ?_), D.g, D.F.kp, D.b⟩
  obtain ⟨v, u, w, rfl, hat, fi, k⟩ := h
  refine ⟨_, pss_one (ps_ret (pe_and (pe_J J hr (by decide) (by rfl) pass0 (pv 0)) (pe_one (pe_cmpR op_ge (pv 0) pe_int (nomark _))))), ?_⟩
  refine s_ret (ev_andV (b := gFrom u) (ev_J (ev_var rfl) hat fi) fun q => ?_) fun H1 e => ?_
  · obtain ⟨i, rfl⟩ := gInt_int q
    cases at_int hat
    exact ev_op (ev_var rfl) ev_c rv_I0
  · unfold gFrom
    rw [iv_and]
    exact k H1 e
theorem scHome : FnScope ["thing"] ["thing"] (defScope sHome) := ⟨rfl, rfl, rfl, by decide +kernel, rfl, by decide +kernel, by decide +kernel⟩
theorem jd_home {f fI : Addr} {fd fdI : FuncData} (D : Df K mg "is_home" sHome ["thing"] f fd) (S : Bs K mg C) (N : Cn mg) (J : Jd P wd K mg base C 1 "is_integer" "thing" fI fdI gInt) : Jd P wd K mg base C 2 "is_home" "thing" f fd gHome := by
  refine ⟨D.F.ok scHome lenJ (fun cdv A outer s H vs Q E hr h => ?_), D.g, D.F.kp, D.b⟩
  obtain ⟨v, u, w, rfl, hat, fi, k⟩ := h
  obtain ⟨t, h9⟩ := N.homes
  refine ⟨_, pss_one (ps_ret (pe_and (pe_J J hr (by decide) (by rfl) pass0 (pv 0)) (pe_one (pe_chain op_le op_lt pe_int (pv 0) (pe_glob (v := .int 9) rfl h9 ⟨_, rfl⟩))))), ?_⟩
  refine s_ret (ev_andV (b := gHome u) (ev_J (ev_var rfl) hat fi) fun q => ?_) fun H1 e => ?_
  · obtain ⟨i, rfl⟩ := gInt_int q
    cases at_int hat
    exact ev_chain ev_c (ev_var rfl) ev_c rv_I0 fun _ => rv_I0
  · unfold gHome
    rw [iv_and]
    exact k H1 e
theorem scHand : FnScope ["thing"] ["thing"] (defScope sHand) := ⟨rfl, rfl, rfl, by decide +kernel, rfl, by decide +kernel, by decide +kernel⟩
theorem jd_hand {f fI : Addr} {fd fdI : FuncData} (D : Df K mg "is_hand" sHand ["thing"] f fd) (S : Bs K mg C) (N : Cn mg) (J : Jd P wd K mg base C 1 "is_integer" "thing" fI fdI gInt) : Jd P wd K mg base C 2 "is_hand" "thing" f fd gHand := by
  refine ⟨D.F.ok scHand lenJ (fun cdv A outer s H vs Q E hr h => ?_), D.g, D.F.kp, D.b⟩
  obtain ⟨v, u, w, rfl, hat, fi, k⟩ := h
  obtain ⟨t, h9⟩ := N.hands
  refine ⟨_, pss_one (ps_ret (pe_and (pe_J J hr (by decide) (by rfl) pass0 (pv 0)) (pe_one (pe_chain op_le op_le pe_int (pv 0) (pe_glob (v := .int 99) rfl h9 ⟨_, rfl⟩))))), ?_⟩
  refine s_ret (ev_andV (b := gHand u) (ev_J (ev_var rfl) hat fi) fun q => ?_) fun H1 e => ?_
  · obtain ⟨i, rfl⟩ := gInt_int q
    cases at_int hat
    exact ev_chain ev_c (ev_var rfl) ev_c rv_I0 fun _ => rv_I0
  · unfold gHand
    rw [iv_and]
    exact k H1 e
theorem scPair : FnScope ["thing"] ["thing"] (defScope sPair) := ⟨rfl, rfl, rfl, by decide +kernel, rfl, by decide +kernel, by decide +kernel⟩
theorem tv_and (u : U) (p : List U → Bool) : (isT u "tuple" && tv u p) = tv u p := by
  cases u <;> simp [isT, isS, tyU, tv]
theorem sv_and (u : U) (p : Str → Bool) : (isT u "str" && sv u p) = sv u p := by
  cases u <;> simp [isT, isS, tyU, sv]
theorem dec_eq {n m : Nat} : decide (V.int (n : Int) = V.int (m : Int)) = decide (n = m) := by
  by_cases h : n = m
  · rw [decide_eq_true h, h, decide_eq_true rfl]
  · rw [decide_eq_false h, decide_eq_false]
    intro e
    have := V.int.inj e
    omega
theorem jd_pair {f : Addr} {fd : FuncData} (D : Df K mg "is_pair" sPair ["thing"] f fd) (S : Bs K mg C) : Jd P wd K mg base C 1 "is_pair" "thing" f fd gPair := by
  refine ⟨D.F.ok scPair lenJ (fun cdv A outer s H vs Q E hr h => ?_), D.g, D.F.kp, D.b⟩
  obtain ⟨v, u, w, rfl, hat, fi, k⟩ := h
  refine ⟨_, pss_one (ps_ret (pe_and (pe_isiX S (by rfl) (by rfl) S.B.tup boot_tuple' (by decide) (pv 0) (by decide) (by decide)) (pe_one (pe_cmpR op_eq (pe_callB call_len_seq (by rfl) S.B.len PySem.boot_len (pa_cons (pv 0) pa_nil)) pe_int (nomark _))))), ?_⟩
  refine s_ret (ev_andV (b := gPair u) (ev_isi (ev_var rfl) hat) fun q => ?_) fun H1 e => ?_
  · obtain ⟨us, rfl⟩ := isT_tup q
    obtain ⟨a, xs, rfl, ha, _, hl⟩ := at_tup hat
    have := ev_op (r := rEq) (σ := [some (V.ref a)]) (ev_lenT (K := K) (te := tVar 0) (ev_var rfl) ha) (ev_c (v := .int 2)) (rv_eq rfl)
    rw [show (2 : Int) = ((2 : Nat) : Int) from rfl, dec_eq, AtL.length hl] at this
    exact this
  · unfold gPair
    rw [tv_and]
    exact k H1 e
theorem scSig : FnScope ["thing", "sign"] ["thing"] (defScope sIsSigns) := ⟨rfl, rfl, rfl, by decide +kernel, rfl, by decide +kernel, by decide +kernel⟩
abbrev rLeS : R2 := fun x y H Q => ∃ i j : Str, x = .str i ∧ y = .str j ∧ Q (.bl (!decide (j.cps.toList < i.cps.toList))) H
theorem rv_leS {a b : Nat} {H : Hp} : RV rLeS (.str ⟨#[a]⟩) (.str ⟨#[b]⟩) H (.bl (decide (a ≤ b))) := fun H1 _ Q q => ⟨_, _, rfl, rfl, by
  show Q (.bl (!decide (([b] : List Nat) < [a]))) H1
  rw [not_lt1]
  exact q H1 (Ex.refl H1)⟩
theorem jd_signs {f : Addr} {fd : FuncData} (D : Df K mg "is_signs" sIsSigns ["thing"] f fd) (S : Bs K mg C) : Jd P wd K mg base C 1 "is_signs" "thing" f fd gSigns := by
  refine ⟨D.F.ok scSig lenJ (fun cdv A outer s H vs Q E hr h => ?_), D.g, D.F.kp, D.b⟩
  obtain ⟨v, u, w, rfl, hat, fi, k⟩ := h
  refine ⟨_, pss_one (ps_ret (pe_and (pe_isiX S (by rfl) (by rfl) S.B.str boot_str (by decide) (pv 0) (by decide) (by decide))
    (pe_one (pe_callB (cr_all rfl) (by rfl) S.B.all boot_all' (pa_cons (pe_lc (own := [("sign", 1)]) (g := gName 1) (tt := tYes) rfl scSig.nd (pi_str (pv 0)) (blkOk_by (N := ["thing", "sign"]) (sc := defScope sIsSigns) (by decide +kernel))
      (fun _ _ _ _ _ => pg_name (i := 1) scSig.nd rfl (Or.inl rfl)) (fun _ _ _ _ _ => pts_nil) (fun _ _ _ _ _ => pe_chain op_le_str op_le_str pe_str (pv 1) pe_str)) pa_nil))))), ?_⟩
  refine s_ret (ev_andV (b := gSigns u) (ev_isi (ev_var rfl) hat) fun q => ?_) fun H1 e => ?_
  · obtain ⟨z, rfl⟩ := isT_str q
    cases at_str hat
    exact ev_allS (ev_var rfl) fi.str (fun _ => rfl) fun c _ => ev_chain ev_c (ev_var rfl) ev_c rv_leS fun _ => rv_leS
  · unfold gSigns
    rw [sv_and]
    exact k H1 e
end
end Hs
namespace Hs
open PySem PySem.Spec PyProof.Rows L2 Hu Evl
section
variable {P : Program} {wd : World} {K : PySem.W.Frag} {mg : Str → Option Value} {base : Heap} {C : Addr}
theorem dec_le {n m : Nat} : decide ((n : Int) ≤ (m : Int)) = decide (n ≤ m) := by
  by_cases h : n ≤ m
  · rw [decide_eq_true h, decide_eq_true (by omega)]
  · rw [decide_eq_false h, decide_eq_false (by omega)]
theorem _root_.Hu.Fine.line {z : Str} (h : Fine (.str z)) : z.length ≤ sizeLine := len_fine (by have := h.str; omega)
theorem gSigns_str {u : U} (h : gSigns u = true) : ∃ z, u = .str z := by
  cases u with
  | str z => exact ⟨z, rfl⟩
  | _ => cases h
def lenIn (lo hi : Nat) (u : U) : Bool := sv u fun z => decide (lo ≤ z.length) && decide (z.length ≤ hi)
theorem scIsPiece : FnScope ["thing"] ["thing"] (defScope sPiece) := ⟨rfl, rfl, rfl, by decide +kernel, rfl, by decide +kernel, by decide +kernel⟩
theorem jd_piece {f fI : Addr} {fd fdI : FuncData} (D : Df K mg "is_piece" sPiece ["thing"] f fd) (S : Bs K mg C) (N : Cn mg) (J : Jd P wd K mg base C 1 "is_signs" "thing" fI fdI gSigns) : Jd P wd K mg base C 2 "is_piece" "thing" f fd gPiece := by
  refine ⟨D.F.ok scIsPiece lenJ (fun cdv A outer s H vs Q E hr h => ?_), D.g, D.F.kp, D.b⟩
  obtain ⟨v, u, w, rfl, hat, fi, k⟩ := h
  obtain ⟨t, h9⟩ := N.signs
  refine ⟨_, pss_one (ps_ret (pe_and (pe_J J hr (by decide) (by rfl) pass0 (pv 0)) (pe_one (pe_chain op_le op_le pe_int (pe_callB call_len_str (by rfl) S.B.len PySem.boot_len (pa_cons (pv 0) pa_nil)) (pe_glob (v := .int 8) rfl h9 ⟨_, rfl⟩))))), ?_⟩
  refine s_ret (ev_andV (b := lenIn 1 8 u) (ev_J (ev_var rfl) hat fi) fun q => ?_) fun H1 e => ?_
  · obtain ⟨z, rfl⟩ := gSigns_str q
    cases at_str hat
    exact ev_is (ev_chain ev_c (ev_lenS (ev_var rfl) fi.line) ev_c rv_I0 fun _ => rv_I0) (by rw [show (8 : Int) = ((8 : Nat) : Int) from rfl, show (1 : Int) = ((1 : Nat) : Int) from rfl, dec_le, dec_le]; rfl)
  · have e2 : (gSigns u && lenIn 1 8 u) = gPiece u := by cases u <;> rfl
    rw [e2]
    exact k H1 e
theorem scIsName : FnScope ["thing", "sign"] ["thing"] (defScope sName) := ⟨rfl, rfl, rfl, by decide +kernel, rfl, by decide +kernel, by decide +kernel⟩
theorem jd_name {f : Addr} {fd : FuncData} (D : Df K mg "is_name" sName ["thing"] f fd) (S : Bs K mg C) (N : Cn mg) : Jd P wd K mg base C 2 "is_name" "thing" f fd gNam := by
  refine ⟨D.F.ok scIsName lenJ (fun cdv A outer s H vs Q E hr h => ?_), D.g, D.F.kp, D.b⟩
  obtain ⟨v, u, w, rfl, hat, fi, k⟩ := h
  obtain ⟨t, h8⟩ := N.names
  refine ⟨_, pss_cons (ps_if (PW.pt (pw_or (pt_not (pt_val (pe_isiX S (by rfl) (by rfl) S.B.str boot_str (by decide) (pv 0) (by decide) (by decide))))
      (pw_or1 (pt_not (pt_chain op_le op_le pe_int (pe_callB call_len_str (by rfl) S.B.len PySem.boot_len (pa_cons (pv 0) pa_nil)) (pe_glob (v := .int 8) rfl h8 ⟨_, rfl⟩))))))
      (pss_one (ps_ret pe_bl)) pss_nil)
    (pss_one (ps_ret (pe_callB (cr_all rfl) (by rfl) S.B.all boot_all' (pa_cons (pe_lc (own := [("sign", 1)]) (g := gName 1) (tt := tYes) rfl scIsName.nd (pi_str (pv 0)) (blkOk_by (N := ["thing", "sign"]) (sc := defScope sName) (by decide +kernel))
      (fun _ _ _ _ _ => pg_name (i := 1) scIsName.nd rfl (Or.inl rfl)) (fun _ _ _ _ _ => pts_nil) (fun _ _ _ _ _ => pe_chain op_le_str op_le_str pe_str (pv 1) pe_str)) pa_nil)))), ?_⟩
  refine s_if (b := !isT u "str" || !lenIn 1 8 u) (et_or (et_not (et_B (ev_isi (ev_var rfl) hat))) fun q => ?_) (fun q H1 e => ?_) (fun q H1 e => ?_)
  · rw [Bool.not_eq_false'] at q
    obtain ⟨z, rfl⟩ := isT_str q
    cases at_str hat
    exact et_not (et_test (ev_is (ev_chain ev_c (ev_lenS (ev_var rfl) fi.line) ev_c rv_I0 fun _ => rv_I0) (by rw [show (8 : Int) = ((8 : Nat) : Int) from rfl, show (1 : Int) = ((1 : Nat) : Int) from rfl, dec_le, dec_le]; rfl)))
  · refine s_ret ev_c fun H2 e2 => ?_
    have e3 : gNam u = false := by
      cases u with
      | str z =>
        simp [isT, isS, tyU] at q
        show (lenIn 1 8 (.str z) && _) = false
        rw [q]
        rfl
      | _ => rfl
    rw [← e3]
    exact k H2 (e.trans e2)
  · rw [Bool.or_eq_false_iff, Bool.not_eq_false', Bool.not_eq_false'] at q
    obtain ⟨z, rfl⟩ := isT_str q.1
    cases at_str hat
    refine s_ret (ev_allS (g := lowc) (ev_var rfl) fi.str (fun _ => rfl) fun c _ => ev_chain ev_c (ev_var rfl) ev_c rv_leS fun _ => rv_leS) fun H2 e2 => ?_
    have e3 : gNam (.str z) = (TL.tl z).all lowc := by
      show (lenIn 1 8 (.str z) && _) = _
      rw [q.2]
      rfl
    rw [← e3]
    exact k H2 (e.trans e2)
theorem two_of {us : List U} (h : us.length = 2) : ∃ a b, us = [a, b] := by
  match us, h with
  | [a, b], _ => exact ⟨a, b, rfl⟩
theorem atl_two {w : Addr} {H : Hp} {xs : List V} {a b : U} (h : AtL w C H xs [a, b]) : ∃ x y, xs = [x, y] ∧ At w C H x a ∧ At w C H y b := by
  cases h with
  | cons h1 h => cases h with
    | cons h2 h => cases h with
      | nil => exact ⟨_, _, rfl, h1, h2⟩
theorem gPair_two {u : U} (h : gPair u = true) : ∃ a b, u = .tup [a, b] := by
  cases u with
  | tup us =>
    obtain ⟨a, b, rfl⟩ := two_of (of_decide_eq_true h)
    exact ⟨a, b, rfl⟩
  | _ => cases h
theorem pair_at {w : Addr} {H : Hp} {v : V} {a b : U} (h : At w C H v (.tup [a, b])) : ∃ p x y, v = .ref p ∧ Tu H p [x, y] [a, b] ∧ At w C H x a ∧ At w C H y b := by
  obtain ⟨p, xs, rfl, hp, _, hl⟩ := at_tup h
  obtain ⟨x, y, rfl, h1, h2⟩ := atl_two hl
  exact ⟨p, x, y, rfl, hp, h1, h2⟩
theorem pair_and (u : U) (p : U → U → Bool) : (gPair u && tv u fun us => two us p) = tv u fun us => two us p := by
  cases u with
  | tup us =>
    match us with
    | [] => rfl
    | [a] => rfl
    | [a, b] => rfl
    | a :: b :: c :: r => simp [gPair, tv, two]
  | _ => rfl
theorem _root_.Hu.Fine.fst {a b : U} (h : Fine (.tup [a, b])) : Fine a := h.tup a (by simp)
theorem _root_.Hu.Fine.snd {a b : U} (h : Fine (.tup [a, b])) : Fine b := h.tup b (by simp)
theorem scId : FnScope ["thing"] ["thing"] (defScope sBlockId) := ⟨rfl, rfl, rfl, by decide +kernel, rfl, by decide +kernel, by decide +kernel⟩
theorem jd_id {f f1 f2 f3 : Addr} {fd d1 d2 d3 : FuncData} (D : Df K mg "is_block_id" sBlockId ["thing"] f fd) (S : Bs K mg C) (JP : Jd P wd K mg base C 1 "is_pair" "thing" f1 d1 gPair) (JH : Jd P wd K mg base C 2 "is_hand" "thing" f2 d2 gHand) (JF : Jd P wd K mg base C 2 "is_from_one" "thing" f3 d3 gFrom) :
    Jd P wd K mg base C 3 "is_block_id" "thing" f fd gId := by
  refine ⟨D.F.ok scId lenJ (fun cdv A outer s H vs Q E hr h => ?_), D.g, D.F.kp, D.b⟩
  obtain ⟨v, u, w, rfl, hat, fi, k⟩ := h
  refine ⟨_, pss_one (ps_ret (pe_and (pe_J JP hr (by decide) (by rfl) pass0 (pv 0)) (pe_and (pe_J JH hr (by decide) (by rfl) pass0 (pe_ix ix_tup (pv 0) pe_int (fun _ _ => rfl))) (pe_one (pe_J JF hr (by decide) (by rfl) pass0 (pe_ix ix_tup (pv 0) pe_int (fun _ _ => rfl))))))), ?_⟩
  refine s_ret (ev_andV (b := gId u) (ev_J (ev_var rfl) hat fi) fun q => ?_) fun H1 e => ?_
  · obtain ⟨a, b, rfl⟩ := gPair_two q
    obtain ⟨p, x, y, rfl, hp, ha, hb⟩ := pair_at hat
    exact ev_andV (ev_J (ev_ixT (j := 0) (ev_var rfl) hp rfl) ha fi.fst) fun _ => ev_J (ev_ixT (j := 1) (ev_var rfl) hp rfl) hb fi.snd
  · unfold gId
    rw [pair_and]
    exact k H1 e
theorem scRow : FnScope ["thing", "item"] ["thing"] (defScope sRow) := ⟨rfl, rfl, rfl, by decide +kernel, rfl, by decide +kernel, by decide +kernel⟩
theorem ev_isN {σ : L2.St} {H : Hp} {te : TE} {v : V} (h : Ev te σ H v) : Ev (tOp rIsN te (tC .non)) σ H (.bl (decide (v = .non))) := ev_op h ev_c fun H1 _ Q q => ⟨rfl, q H1 (Ex.refl H1)⟩
def isNon (u : U) : Bool := match u with | .non => true | _ => false
theorem at_non {w : Addr} {H : Hp} {v : V} {u : U} (h : At w C H v u) : decide (v = .non) = isNon u := by
  cases h <;> rfl
def lenT (hi : Nat) (u : U) : Bool := tv u fun us => decide (us.length ≤ hi)
theorem ev_lenTU {w : Addr} {σ : L2.St} {H : Hp} {te : TE} {a : Addr} {xs : List V} {us : List U} (h : Ev te σ H (.ref a)) (hx : Tu H a xs us) (hl : AtL w C H xs us) : Ev (tCB (rLenQ K) (tCons te tNil)) σ H (.int (us.length : Int)) :=
  ev_is (ev_lenT h hx) (by rw [AtL.length hl])
theorem not_le' {n m : Nat} : decide ((m : Int) < (n : Int)) = !decide (n ≤ m) := by
  by_cases h : n ≤ m
  · rw [decide_eq_true h, decide_eq_false (by omega)]
    rfl
  · rw [decide_eq_false h, decide_eq_true (by omega)]
    rfl
theorem jd_row {f f1 : Addr} {fd d1 : FuncData} (D : Df K mg "is_row" sRow ["thing"] f fd) (S : Bs K mg C) (N : Cn mg) (J : Jd P wd K mg base C 3 "is_block_id" "thing" f1 d1 gId) :
    Jd P wd K mg base C 4 "is_row" "thing" f fd gRow := by
  refine ⟨D.F.ok scRow lenJ (fun cdv A outer s H vs Q E hr h => ?_), D.g, D.F.kp, D.b⟩
  obtain ⟨v, u, w, rfl, hat, fi, k⟩ := h
  obtain ⟨t, h12⟩ := N.pieces
  refine ⟨_, pss_cons (ps_if (pt_cmpR op_isN1 (pv 0) pe_non (nomark _)) (pss_one (ps_ret pe_bl)) pss_nil)
    (pss_cons (ps_if (PW.pt (pw_or (pt_not (pt_val (pe_isiX S (by rfl) (by rfl) S.B.tup boot_tuple' (by decide) (pv 0) (by decide) (by decide))))
      (pw_or1 (pt_cmpR op_gt (pe_callB call_len_seq (by rfl) S.B.len PySem.boot_len (pa_cons (pv 0) pa_nil)) (pe_glob (v := .int 12) rfl h12 ⟨_, rfl⟩) (nomark _)))))
      (pss_one (ps_ret pe_bl)) pss_nil)
    (pss_one (ps_ret (pe_callB (cr_all rfl) (by rfl) S.B.all boot_all' (pa_cons (pe_lc (own := [("item", 1)]) (g := gName 1) (tt := tYes) rfl scRow.nd (pi_tup (pv 0)) (blkOk_by (N := ["thing", "item"]) (sc := defScope sRow) (by decide +kernel))
      (fun _ _ _ _ _ => pg_name (i := 1) scRow.nd rfl (Or.inl rfl)) (fun _ _ _ _ _ => pts_nil) (fun _ _ _ _ _ => pe_J J hr (by decide) (by rfl) pass0 (pv 1))) pa_nil))))), ?_⟩
  refine s_if (b := isNon u) (et_test (ev_is (ev_isN (ev_var rfl)) (by rw [at_non hat]))) (fun q H1 e => ?_) (fun q H1 e => ?_)
  · refine s_ret ev_c fun H2 e2 => ?_
    have := k H2 (e.trans e2)
    cases u with
    | non => exact this
    | _ => cases q
  · have hat1 := ex_at e hat
    refine s_if (b := !isT u "tuple" || !lenT 12 u) (et_or (et_not (et_B (ev_isi (ev_var rfl) hat1))) fun q => ?_) (fun q H2 e2 => ?_) (fun q H2 e2 => ?_)
    · rw [Bool.not_eq_false'] at q
      obtain ⟨us, rfl⟩ := isT_tup q
      obtain ⟨a, xs, rfl, ha, _, hl⟩ := at_tup hat1
      exact et_test (ev_is (ev_op (ev_lenTU (K := K) (ev_var rfl) ha hl) ev_c rv_I0) (by rw [show (12 : Int) = ((12 : Nat) : Int) from rfl, not_le']; rfl))
    · refine s_ret ev_c fun H3 e3 => ?_
      have e4 : gRow u = false := by
        cases u with
        | tup us =>
          simp [isT, isS, tyU] at q
          show (lenT 12 (.tup us) && _) = false
          rw [q]
          rfl
        | non => cases (show true = false from by assumption)
        | _ => rfl
      rw [← e4]
      exact k H3 ((e.trans e2).trans e3)
    · rw [Bool.or_eq_false_iff, Bool.not_eq_false', Bool.not_eq_false'] at q
      obtain ⟨us, rfl⟩ := isT_tup q.1
      obtain ⟨a, xs, rfl, ha, _, hl⟩ := at_tup (ex_at e2 hat1)
      refine s_ret (ev_allT (g := gId) (ev_var rfl) ha fi.len hl (fun _ => rfl) fun x u hu hx => ev_J (ev_var rfl) hx (fi.tup u hu)) fun H3 e3 => ?_
      have e4 : gRow (.tup us) = us.all gId := by
        show (lenT 12 (.tup us) && _) = _
        rw [q.2]
        rfl
      rw [← e4]
      exact k H3 ((e.trans e2).trans e3)
end
end Hs
namespace Hs
open PySem PySem.Spec PyProof.Rows L2 Hu Evl
section
variable {P : Program} {wd : World} {K : PySem.W.Frag} {mg : Str → Option Value} {base : Heap} {C : Addr}
theorem scStamp : FnScope ["thing"] ["thing"] (defScope sStamp) := ⟨rfl, rfl, rfl, by decide +kernel, rfl, by decide +kernel, by decide +kernel⟩
theorem shp2 (i j : Int) : SeqAt.shaped (.tuple [.int i, .int j]) = true := by
  show ((PyData.tuple [.int i, .int j]).canLay0 && decide ((PyData.tuple [.int i, .int j]).depth ≤ 64)) = true
  simp [PyData.canLay0, PyData.canLayAll0, PyData.depth, PyData.depthAll]
theorem eqv2 (i j k l : Int) : PyData.eqv (.tuple [.int i, .int j]) (.tuple [.int k, .int l]) = (decide (i = k) && decide (j = l)) := by
  simp only [PyData.eqv, PyData.eqvAll, Bool.and_true]
  congr 1
theorem dp2 {H : Hp} {p : Addr} {i j : Int} (h : H p = some (.tup [.int i, .int j])) : Dp K H (.ref p) (.tuple [.int i, .int j]) := .tup (st_of h) (.cons (.int i) (.cons (.int j) .nil))
theorem rv_eq2 {H : Hp} {p q : Addr} {i j k l : Int} (hp : H p = some (.tup [.int i, .int j])) (hq : H q = some (.tup [.int k, .int l])) : RV (rEqD K) (.ref p) (.ref q) H (.bl (decide (i = k) && decide (j = l))) := fun H1 e Q f =>
  ⟨_, _, dp2 (e _ _ hp), dp2 (e _ _ hq), shp2 _ _, shp2 _ _, by rw [eqv2]; exact f H1 (Ex.refl H1)⟩
theorem room_hu {k : Nat} {A : Around} (r : Room k A) : A.units + 64 < cLine := r.units
/-- a pair of integers -/
def ints2 (u : U) : Bool := tv u fun us => two us fun a b => gInt a && gInt b
theorem ints2_two {u : U} (h : ints2 u = true) : ∃ i j, u = .tup [.int i, .int j] := by
  cases u with
  | tup us =>
    match us, h with
    | [a, b], h =>
      have h1 : (gInt a && gInt b) = true := h
      rw [Bool.and_eq_true] at h1
      obtain ⟨i, rfl⟩ := gInt_int h1.1
      obtain ⟨j, rfl⟩ := gInt_int h1.2
      exact ⟨i, j, rfl⟩
  | _ => cases h
theorem jd_stamp {f f1 f2 f3 f4 : Addr} {fd d1 d2 d3 d4 : FuncData} (D : Df K mg "is_stamp" sStamp ["thing"] f fd) (S : Bs K mg C) (JP : Jd P wd K mg base C 1 "is_pair" "thing" f1 d1 gPair) (JI : Jd P wd K mg base C 1 "is_integer" "thing" f2 d2 gInt)
    (JF : Jd P wd K mg base C 2 "is_from_one" "thing" f3 d3 gFrom) (JH : Jd P wd K mg base C 2 "is_hand" "thing" f4 d4 gHand) : Jd P wd K mg base C 3 "is_stamp" "thing" f fd gStamp := by
  refine ⟨D.F.ok scStamp lenJ (fun cdv A outer s H vs Q E hr h => ?_), D.g, D.F.kp, D.b⟩
  obtain ⟨v, u, w, rfl, hat, fi, k⟩ := h
  refine ⟨_, pss_cons (ps_if (PW.pt (pw_or (pt_not (pt_val (pe_J JP hr (by decide) (by rfl) pass0 (pv 0)))) (pw_or (pt_not (pt_val (pe_J JI hr (by decide) (by rfl) pass0 (pe_ix ix_tup (pv 0) pe_int (fun _ _ => rfl)))))
      (pw_or1 (pt_not (pt_val (pe_J JI hr (by decide) (by rfl) pass0 (pe_ix ix_tup (pv 0) pe_int (fun _ _ => rfl)))))))))
      (pss_one (ps_ret pe_bl)) pss_nil)
    (pss_one (ps_ret (pe_or (pe_cmpR (op_eqD (room_hu hr)) (pv 0) (pe_tup (pa_cons pe_int (pa_cons pe_int pa_nil))) (nomark _)) (pe_one (pe_and (pe_J JF hr (by decide) (by rfl) pass0 (pe_ix ix_tup (pv 0) pe_int (fun _ _ => rfl)))
      (pe_one (pe_J JH hr (by decide) (by rfl) pass0 (pe_ix ix_tup (pv 0) pe_int (fun _ _ => rfl))))))))), ?_⟩
  have e0 : (!gPair u || (!(tv u fun us => two us fun a b => gInt a) || !ints2 u)) = !ints2 u := by
    cases u with
    | tup us =>
      match us with
      | [] => rfl
      | [a] => rfl
      | [a, b] =>
        show (!true || (!gInt a || !(gInt a && gInt b))) = !(gInt a && gInt b)
        cases gInt a <;> cases gInt b <;> rfl
      | a :: b :: c :: r => simp [gPair, tv, two, ints2]
    | _ => rfl
  refine s_if (b := !gPair u || (!(tv u fun us => two us fun a b => gInt a) || !ints2 u)) (et_or (et_not (et_B (ev_J (ev_var rfl) hat fi))) fun q => ?_) (fun q H1 e => ?_) (fun q H1 e => ?_)
  · rw [Bool.not_eq_false'] at q
    obtain ⟨a, b, rfl⟩ := gPair_two q
    obtain ⟨p, x, y, rfl, hp, ha, hb⟩ := pair_at hat
    refine et_or (et_not (et_B (ev_J (g := gInt) (u := a) (ev_ixT (j := 0) (ev_var rfl) hp rfl) ha fi.fst))) fun q2 => et_is (et_not (et_B (ev_J (g := gInt) (u := b) (ev_ixT (j := 1) (ev_var rfl) hp rfl) hb fi.snd))) ?_
    have q3 : (!gInt a) = false := q2
    rw [Bool.not_eq_false'] at q3
    show (!gInt b) = !(gInt a && gInt b)
    rw [q3]
    rfl
  · refine s_ret ev_c fun H2 e2 => ?_
    rw [e0] at q
    have e4 : gStamp u = false := by
      cases u with
      | tup us =>
        match us with
        | [] => rfl
        | [a] => rfl
        | [a, b] =>
          have q' : (!(gInt a && gInt b)) = true := q
          show (iv a fun i => iv b fun j => _) = false
          cases a <;> try rfl
          cases b <;> first | rfl | cases q'
        | a :: b :: c :: r => rfl
      | _ => rfl
    rw [← e4]
    exact k H2 (e.trans e2)
  · rw [e0, Bool.not_eq_false'] at q
    obtain ⟨i, j, rfl⟩ := ints2_two q
    obtain ⟨p, x, y, rfl, hp, ha, hb⟩ := pair_at (ex_at e hat)
    have hx := at_int ha
    have hy := at_int hb
    subst hx hy
    refine s_ret (ev_orV (ev_opU (ev_var rfl) (eu_tup (ea_cons ev_c (ea_cons ev_c ea_nil)) (by decide)) fun q H1 hq e1 => rv_eq2 (Tu.ex e1 hp) hq) fun _ => ev_andV (ev_J (ev_ixT (j := 0) (ev_var rfl) hp rfl) ha fi.fst) fun _ => ev_J (ev_ixT (j := 1) (ev_var rfl) hp rfl) hb fi.snd) fun H2 e2 => ?_
    exact k H2 (e.trans e2)
def spAsc : Sp := fun vs H Q _ => ∃ (a : Addr) (ns : List Int), vs = [.ref a] ∧ H a = some (.tup (ns.map V.int)) ∧ 1 ≤ ns.length ∧ ns.length ≤ 1000 ∧ ∀ H', Same H H' → Q (.bl (ascI ns)) H'
theorem scAsc : FnScope ["things", "k"] ["things"] (defScope sAscending) := ⟨rfl, rfl, rfl, by decide +kernel, rfl, by decide +kernel, by decide +kernel⟩
theorem given_all (n : Nat) (v : Nat → V) : given n (fun _ => true) v = (List.range n).map v := by
  unfold given
  rw [List.filter_eq_self.mpr fun _ _ => rfl]
theorem getD_at {ns : List Int} {i : Nat} (h : i < ns.length) : (ns.map V.int)[i]? = some (.int (ns.getD i 0)) := by
  rw [List.getElem?_map, List.getD_eq_getElem?_getD, List.getElem?_eq_getElem h]
  rfl
theorem ev_cb1 {r : List V → Hp → VK → Prop} {σ : L2.St} {H : Hp} {te : TE} {xs : List V} {z : V} (h : EvL te σ H xs) (hr : ∀ p H1, H1 p = some (.lst xs) → Ex H H1 → ∀ Q : VK, (∀ H2, Ex H1 H2 → Q z H2) → r [.ref p] H1 Q) : Ev (tCB r (tCons te tNil)) σ H z :=
  fun H0 e Q q => h H0 e _ fun p H1 hp e1 h1 => hr p H1 h1 (e.trans e1) Q fun H2 e2 => q H2 (e1.trans e2)
theorem asc_reads {σ : L2.St} {H : Hp} {a : Addr} {ns : List Int} (h0 : σ = [some (.ref a), none]) (ha : H a = some (.tup (ns.map V.int))) (h1 : 1 ≤ ns.length) (h2 : ns.length ≤ 1000) :
    Ev (tCB (rAll K) (tCons (tLc (iRng1 (tCons (tOp (rI0 fun i j => .int (i - j)) (tCB (rLenQ K) (tCons (tVar 0) tNil)) (tC (.int 1))) tNil)) (gName 1) tYes (tOp (rI0 fun i j => .bl (decide (i < j))) (tOp (rIxT K) (tVar 0) (tVar 1)) (tOp (rIxT K) (tVar 0) (tOp (rI0 fun i j => .int (i + j)) (tVar 1) (tC (.int 1))))) [1]) tNil)) σ H (.bl (ascI ns)) := by
  subst h0
  have hl : (ns.map V.int).length = ns.length := List.length_map ..
  have hn : (((ns.map V.int).length : Nat) : Int) - 1 = ((ns.length - 1 : Nat) : Int) := by
    rw [hl]
    omega
  have main : EvL (tLc (iRng1 (tCons (tOp (rI0 fun i j => .int (i - j)) (tCB (rLenQ K) (tCons (tVar 0) tNil)) (tC (.int 1))) tNil)) (gName 1) tYes (tOp (rI0 fun i j => .bl (decide (i < j))) (tOp (rIxT K) (tVar 0) (tVar 1)) (tOp (rIxT K) (tVar 0) (tOp (rI0 fun i j => .int (i + j)) (tVar 1) (tC (.int 1))))) [1]) [some (.ref a), none] H
      (given ((((ns.map V.int).length : Nat) : Int) - 1).toNat (fun _ => true) fun k => .bl (decide (ns.getD k 0 < ns.getD (k + 1) 0))) :=
    el_lcR1 (σ := [some (.ref a), none]) (j := 1) (vs := [1]) (n := (((ns.map V.int).length : Nat) : Int) - 1) (fun _ => true) (fun k => .bl (decide (ns.getD k 0 < ns.getD (k + 1) 0))) (ea_cons (ev_op (ev_lenP (ev_var rfl) ha) ev_c rv_I0) ea_nil) (by omega) (fun _ => rfl) (fun _ _ _ _ => et_yes) (fun i H2 e2 hi _ => by
      have hi' : i + 1 < ns.length := by omega
      have i1 : atI (ns.map V.int) (i : Int) = some (.int (ns.getD i 0)) := atI_nat (getD_at (by omega))
      have i2 : atI (ns.map V.int) ((i : Int) + 1) = some (.int (ns.getD (i + 1) 0)) := atI_nat (j := i + 1) (getD_at hi')
      exact ev_op (ev_op (ev_var rfl) (ev_var rfl) (rv_ixT (st_of (e2 _ _ ha)) i1)) (ev_op (ev_var rfl) (ev_op (ev_var rfl) ev_c rv_I0) (rv_ixT (st_of (e2 _ _ ha)) i2)) rv_I0)
  refine ev_cb1 main fun p H2 h2 e2 Q q => ⟨p, (List.range (ns.length - 1)).map fun k => decide (ns.getD k 0 < ns.getD (k + 1) 0), rfl, sq_of ?_, ?_⟩
  · rw [h2, hn, given_all, Int.toNat_natCast, List.map_map]
    rfl
  · have e : ((List.range (ns.length - 1)).map fun k => decide (ns.getD k 0 < ns.getD (k + 1) 0)).all id = ascI ns := by
      rw [List.all_map]
      rfl
    rw [e]
    exact q H2 (Ex.refl H2)
theorem ok_asc {f : Addr} {fd : FuncData} (F : Fun K "is_ascending" "is_ascending" sAscending f fd) (B : Bt mg) : FnOk P wd K mg base CX0 1 f fd ["things"] spAsc := by
  refine F.ok scAsc (fun vs H Q E h => ?_) (fun cdv A outer s H vs Q E hr h => ?_)
  · obtain ⟨n, m, rfl, _⟩ := h
    rfl
  · obtain ⟨a, ns, rfl, ha, h1, h2, k⟩ := h
    refine ⟨_, pss_one (ps_ret (pe_callB (cr_all rfl) (by rfl) B.all boot_all' (pa_cons (pe_lc (own := [("k", 1)]) (g := gName 1) (tt := tYes) rfl scAsc.nd (pi_range1 (by rfl) B.range (pa_cons (pe_op op_sub (pe_callB call_len_seq (by rfl) B.len PySem.boot_len (pa_cons (pv 0) pa_nil)) pe_int) pa_nil)) (blkOk_by (N := ["things", "k"]) (sc := defScope sAscending) (by decide +kernel))
      (fun _ _ _ _ _ => pg_name (i := 1) scAsc.nd rfl (Or.inl rfl)) (fun _ _ _ _ _ => pts_nil) (fun _ _ _ _ _ => pe_cmpR op_lt (pe_ix (show IxR _ (rIxT K) from ix_tup) (pv 0) (pv 1) (fun _ _ => rfl)) (pe_ix (show IxR _ (rIxT K) from ix_tup) (pv 0) (pe_op op_add (pv 1) pe_int) (fun _ _ => rfl)) (nomark _))) pa_nil))), ?_⟩
    exact s_ret (asc_reads rfl ha h1 h2) k
theorem ints_of {w : Addr} {H : Hp} : ∀ {us : List U} {xs : List V}, AtL w C H xs us → us.all gInt = true → xs = (us.map intU).map V.int
  | _, _, .nil, _ => rfl
  | u :: us, _, .cons h l, q => by
    rw [List.all_cons, Bool.and_eq_true] at q
    obtain ⟨i, rfl⟩ := gInt_int q.1
    rw [ints_of l q.2, at_int h]
    rfl
theorem home_int {u : U} (h : gHome u = true) : gInt u = true := by
  cases u with
  | int i => rfl
  | _ => cases h
theorem homes_ints {us : List U} (h : us.all gHome = true) : us.all gInt = true := List.all_eq_true.mpr fun u hu => home_int (List.all_eq_true.mp h u hu)
theorem isB_first {u : U} {us : List U} (h : blkS u = false) : isB (u :: us) = false := by
  unfold isB
  rw [List.all_cons, h, Bool.false_and]
theorem isB_homes {us : List U} (h : us.all gHome = true) (h1 : 1 ≤ us.length) : isB us = false := by
  cases us with
  | nil => simp at h1
  | cons u us =>
    rw [List.all_cons, Bool.and_eq_true] at h
    obtain ⟨i, rfl⟩ := gInt_int (home_int h.1)
    exact isB_first rfl
theorem scMembers : FnScope ["thing", "item"] ["thing"] (defScope sMembers) := ⟨rfl, rfl, rfl, by decide +kernel, rfl, by decide +kernel, by decide +kernel⟩
def lenB (lo hi : Nat) (u : U) : Bool := tv u fun us => decide (lo ≤ us.length) && decide (us.length ≤ hi)
theorem spv_asc {H : Hp} {a : Addr} {ns : List Int} (ha : H a = some (.tup (ns.map V.int))) (h1 : 1 ≤ ns.length) (h2 : ns.length ≤ 1000) : SpV spAsc [.ref a] H (.bl (ascI ns)) := fun H1 e Q q E => ⟨a, ns, rfl, e _ _ ha, h1, h2, q⟩
theorem jd_members {f f1 f2 : Addr} {fd d1 d2 : FuncData} (D : Df K mg "is_members" sMembers ["thing"] f fd) (S : Bs K mg C) (N : Cn mg) (J : Jd P wd K mg base C 2 "is_home" "thing" f1 d1 gHome) (DA : Df K mg "is_ascending" sAscending ["things"] f2 d2) :
    Jd P wd K mg base C 4 "is_members" "thing" f fd gMembers := by
  refine ⟨D.F.ok scMembers lenJ (fun cdv A outer s H vs Q E hr h => ?_), D.g, D.F.kp, D.b⟩
  obtain ⟨v, u, w, rfl, hat, fi, k⟩ := h
  obtain ⟨t, h9⟩ := N.homes
  have GA : FnOk P wd K mg base CX0 3 f2 d2 ["things"] spAsc := (ok_asc DA.F S.B).mono (by decide)
  refine ⟨_, pss_cons (ps_if (PW.pt (pw_or (pt_not (pt_val (pe_isiX S (by rfl) (by rfl) S.B.tup boot_tuple' (by decide) (pv 0) (by decide) (by decide))))
      (pw_or1 (pt_not (pt_chain op_le op_le pe_int (pe_callB call_len_seq (by rfl) S.B.len PySem.boot_len (pa_cons (pv 0) pa_nil)) (pe_glob (v := .int 9) rfl h9 ⟨_, rfl⟩))))))
      (pss_one (ps_ret pe_bl)) pss_nil)
    (pss_one (ps_ret (pe_and (pe_callB (cr_all rfl) (by rfl) S.B.all boot_all' (pa_cons (pe_lc (own := [("item", 1)]) (g := gName 1) (tt := tYes) rfl scMembers.nd (pi_tup (pv 0)) (blkOk_by (N := ["thing", "item"]) (sc := defScope sMembers) (by decide +kernel))
      (fun _ _ _ _ _ => pg_name (i := 1) scMembers.nd rfl (Or.inl rfl)) (fun _ _ _ _ _ => pts_nil) (fun _ _ _ _ _ => pe_J J hr (by decide) (by rfl) pass0 (pv 1))) pa_nil))
      (pe_one (pe_call GA hr (by rfl) DA.g DA.F.kp DA.b .nil pass0 (pa_cons (pv 0) pa_nil)))))), ?_⟩
  refine s_if (b := !isT u "tuple" || !lenB 1 9 u) (et_or (et_not (et_B (ev_isi (ev_var rfl) hat))) fun q => ?_) (fun q H1 e => ?_) (fun q H1 e => ?_)
  · rw [Bool.not_eq_false'] at q
    obtain ⟨us, rfl⟩ := isT_tup q
    obtain ⟨a, xs, rfl, ha, _, hl⟩ := at_tup hat
    exact et_not (et_test (ev_is (ev_chain ev_c (ev_lenTU (K := K) (ev_var rfl) ha hl) ev_c rv_I0 fun _ => rv_I0) (by rw [show (9 : Int) = ((9 : Nat) : Int) from rfl, show (1 : Int) = ((1 : Nat) : Int) from rfl, dec_le, dec_le]; rfl)))
  · refine s_ret ev_c fun H2 e2 => ?_
    have e3 : gMembers u = false := by
      cases u with
      | tup us =>
        simp [isT, isS, tyU] at q
        show ((lenB 1 9 (.tup us) && _) && _) = false
        rw [q]
        rfl
      | _ => rfl
    rw [← e3]
    exact k H2 (e.trans e2)
  · rw [Bool.or_eq_false_iff, Bool.not_eq_false', Bool.not_eq_false'] at q
    obtain ⟨us, rfl⟩ := isT_tup q.1
    obtain ⟨a, xs, rfl, ha, _, hl⟩ := at_tup (ex_at e hat)
    have hb : (decide (1 ≤ us.length) && decide (us.length ≤ 9)) = true := q.2
    rw [Bool.and_eq_true] at hb
    have b1 : 1 ≤ us.length := of_decide_eq_true hb.1
    have b2 : us.length ≤ 9 := of_decide_eq_true hb.2
    refine s_ret (ev_andV (b := ascI (us.map intU)) (ev_allT (g := gHome) (ev_var rfl) ha fi.len hl (fun _ => rfl) fun x u hu hx => ev_J (ev_var rfl) hx (fi.tup u hu)) fun q2 => ?_) fun H2 e2 => ?_
    · have hx := ints_of hl (homes_ints q2)
      rw [hx] at ha
      exact ev_call (ea_cons (ev_var rfl) ea_nil) (spv_asc (ha.plain (isB_homes q2 b1)) (by rw [List.length_map]; exact b1) (by rw [List.length_map]; omega))
    · have e3 : gMembers (.tup us) = (us.all gHome && ascI (us.map intU)) := by
        show ((lenB 1 9 (.tup us) && us.all gHome) && _) = _
        rw [q.2]
        rfl
      rw [← e3]
      exact k H2 (e.trans e2)
end
end Hs
namespace Hk
open PySem PySem.Spec PyProof.Rows L2
/-- two keys of one kind -/
def kin : L2.Key → L2.Key → Bool
  | .inl _, .inl _ => true
  | .inr _, .inr _ => true
  | _, _ => false
def kEq : L2.Key → L2.Key → Bool
  | .inl i, .inl j => i == j
  | .inr x, .inr y => x == y
  | _, _ => false
def kLt : L2.Key → L2.Key → Bool
  | .inl i, .inl j => decide (i < j)
  | .inr x, .inr y => decide (x.cps.toList < y.cps.toList)
  | _, _ => false
/-- by the first pair that differs -/
def ltK : List L2.Key → List L2.Key → Bool
  | [], [] => false
  | [], _ :: _ => true
  | _ :: _, [] => false
  | k :: ks, l :: ls => if kEq k l = true then ltK ks ls else kLt k l
def kinds : List L2.Key → List L2.Key → Bool
  | k :: ks, l :: ls => kin k l && kinds ks ls
  | _, _ => true
theorem kEq_iff {k l : L2.Key} : kEq k l = true ↔ k = l := by
  cases k with
  | inl i => cases l with
    | inl j => simp [kEq]
    | inr y => simp [kEq]
  | inr x => cases l with
    | inl j => simp [kEq]
    | inr y => simp [kEq]
def d0 : L2.Key := .inl 0
theorem lexAt_is : ∀ (ks ls : List L2.Key) (i : Nat) (e r : Nat → Bool), (∀ j, e (i + j) = kEq (ks.getD j d0) (ls.getD j d0)) → (∀ j, r (i + j) = kLt (ks.getD j d0) (ls.getD j d0)) →
    Ob.lexAt e r (decide (ks.length < ls.length)) i (min ks.length ls.length) = ltK ks ls
  | [], [], i, e, r, _, _ => rfl
  | [], _ :: _, i, e, r, _, _ => by
    show Ob.lexAt e r _ i 0 = true
    rw [Ob.lexAt_zero]
    simp
  | _ :: _, [], i, e, r, _, _ => by
    show Ob.lexAt e r _ i 0 = false
    rw [Ob.lexAt_zero]
    simp
  | k :: ks, l :: ls, i, e, r, he, hr => by
    have h0 := he 0
    have h1 := hr 0
    rw [Nat.add_zero] at h0 h1
    have ih := lexAt_is ks ls (i + 1) e r (fun j => by
      have := he (j + 1)
      rw [show i + 1 + j = i + (j + 1) from by omega, this]
      rfl) (fun j => by
      have := hr (j + 1)
      rw [show i + 1 + j = i + (j + 1) from by omega, this]
      rfl)
    have el : decide ((k :: ks).length < (l :: ls).length) = decide (ks.length < ls.length) := by
      rw [List.length_cons, List.length_cons]
      by_cases q : ks.length < ls.length
      · rw [decide_eq_true q, decide_eq_true (by omega)]
      · rw [decide_eq_false q, decide_eq_false (by omega)]
    have em : min (k :: ks).length (l :: ls).length = min ks.length ls.length + 1 := by
      rw [List.length_cons, List.length_cons]
      omega
    rw [el, em, Ob.lexAt_succ, ih, h0, h1]
    rfl
section
variable {X : Cx}
def rLtK (K : PySem.W.Frag) : R2 := fun x y H Q => ∃ (a b : Addr) (ks ls : List L2.Key), x = .ref a ∧ y = .ref b ∧ SqT K H a (ks.map kV) ∧ SqT K H b (ls.map kV) ∧ kinds ks ls = true ∧ Q (.bl (ltK ks ls)) H
theorem rel_at : ∀ {ks : List L2.Key} {us : List Value}, Vals (ks.map kV) us → ∀ j (h : j < us.length), RelV (kV (ks.getD j d0)) us[j]
  | [], us, r, j, h => by
    cases r
    exact absurd h (Nat.not_lt_zero _)
  | k :: ks, us, r, j, h => by
    rw [List.map_cons] at r
    cases r with
    | cons r1 r2 =>
      cases j with
      | zero => exact r1
      | succ j => exact rel_at r2 j (Nat.lt_of_succ_lt_succ h)
theorem kinds_at : ∀ {ks ls : List L2.Key}, kinds ks ls = true → ∀ j, j < ks.length → j < ls.length → kin (ks.getD j d0) (ls.getD j d0) = true
  | [], _, _, j, h, _ => absurd h (Nat.not_lt_zero _)
  | _ :: _, [], _, j, _, h => absurd h (Nat.not_lt_zero _)
  | k :: ks, l :: ls, q, j, h1, h2 => by
    unfold kinds at q
    rw [Bool.and_eq_true] at q
    cases j with
    | zero => exact q.1
    | succ j => exact kinds_at q.2 j (Nat.lt_of_succ_lt_succ h1) (Nat.lt_of_succ_lt_succ h2)
theorem op_ltK (hu : X.A.units < cLine) : OpR X (compareOp .Lt) (rLtK X.K) := by
  intro pins s σ H x y v u Q I rx ry h
  obtain ⟨a, b, ks, ls, rfl, rfl, ha, hb, hk, q⟩ := h
  cases rx
  cases ry
  obtain ⟨xs, r1, p1, _⟩ := I.tuple ha
  obtain ⟨ys, r2, p2, _⟩ := I.tuple hb
  have l1 : xs.toArray.size = ks.length := by
    have := r1.length
    rw [List.length_map] at this
    rw [List.size_toArray, this]
  have l2 : ys.toArray.size = ls.length := by
    have := r2.length
    rw [List.length_map] at this
    rw [List.size_toArray, this]
  have main := Ob.RcOp.tuples_lt (A := X.A) (s := s) (e := fun j => kEq (ks.getD j d0) (ls.getD j d0)) (r := fun j => kLt (ks.getD j d0) (ls.getD j d0)) p1 p2 hu (fun j h1 h2 => by
    have v1 := rel_at r1 j (by simpa using h1)
    have v2 := rel_at r2 j (by simpa using h2)
    have kk := kinds_at hk j (l1 ▸ h1) (l2 ▸ h2)
    have g1 : xs.toArray[j] = xs[j]'(by simpa using h1) := by simp
    have g2 : ys.toArray[j] = ys[j]'(by simpa using h2) := by simp
    rw [g1, g2]
    generalize ks.getD j d0 = k at v1 kk ⊢
    generalize ls.getD j d0 = l at v2 kk ⊢
    cases k with
    | inl i => cases l with
      | inl j =>
        obtain ⟨t, e1⟩ := v1
        obtain ⟨t', e2⟩ := v2
        rw [e1, e2]
        exact SeqAt.EqAt.int_int _ _ _ _
      | inr y => cases kk
    | inr z => cases l with
      | inl j => cases kk
      | inr y =>
        obtain ⟨t, e1⟩ := v1
        obtain ⟨t', e2⟩ := v2
        rw [e1, e2]
        exact SeqAt.EqAt.str_str _ _ _ _) (fun j h1 h2 _ => by
    have v1 := rel_at r1 j (by simpa using h1)
    have v2 := rel_at r2 j (by simpa using h2)
    have kk := kinds_at hk j (l1 ▸ h1) (l2 ▸ h2)
    have g1 : xs.toArray[j] = xs[j]'(by simpa using h1) := by simp
    have g2 : ys.toArray[j] = ys[j]'(by simpa using h2) := by simp
    rw [g1, g2]
    generalize ks.getD j d0 = k at v1 kk ⊢
    generalize ls.getD j d0 = l at v2 kk ⊢
    cases k with
    | inl i => cases l with
      | inl j =>
        obtain ⟨t, e1⟩ := v1
        obtain ⟨t', e2⟩ := v2
        rw [e1, e2]
        exact Ob.RcOp.lt_int _ _ _ _
      | inr y => cases kk
    | inr z => cases l with
      | inl j => cases kk
      | inr y =>
        obtain ⟨t, e1⟩ := v1
        obtain ⟨t', e2⟩ := v2
        rw [e1, e2]
        exact fun prog w E Q h => PyProof.Rows.lt_str h)
  rw [l1, l2, lexAt_is ks ls 0 _ _ (fun j => by rw [Nat.zero_add]) (fun j => by rw [Nat.zero_add])] at main
  exact main X.prog X.w X.xe (EP X pins σ Q) ⟨.bl (ltK ks ls), H, I, rfl, q⟩
end
end Hk
namespace PySem.SeqAt
open PySem PySem.Spec PyProof.Rows
theorem dict_eq_declines_tuple (l b : Addr) (es : Array DictEntry) (items2 : Array Value) (n n2 : Nat) (dd dd2 : Option Addr) (sl sl2 : Array (Option Value)) :
    Meets (Builtin.«dict.__eq__» ⟨[.ref l, .ref b], []⟩) (fun _ R s => s.heap.get? l = some { cls := .type "dict", dict := dd, data := .dict es n, slots := sl } ∧ s.heap.get? b = some { cls := .type "tuple", dict := dd2, data := .seq items2 n2, slots := sl2 } ∧ R (.ok (.ret .notImplemented)) s) :=
  .of_wp fun prog w A R s h => by obtain ⟨hp, g, d, tk, os⟩ := s; obtain ⟨hl, hb, h⟩ := h; have f1 := F.sub_tuple_dict; wp_walk using wpAny_loadPart' hl, wpAny_loadPart' hb; exact ⟨_, rfl, h⟩
theorem tuple_eq_declines_dict (l b : Addr) (items : Array Value) (es : Array DictEntry) (n n2 : Nat) (dd dd2 : Option Addr) (sl sl2 : Array (Option Value)) :
    Meets (Builtin.«tuple.__eq__» ⟨[.ref l, .ref b], []⟩) (fun _ R s => s.heap.get? l = some { cls := .type "tuple", dict := dd, data := .seq items n, slots := sl } ∧ s.heap.get? b = some { cls := .type "dict", dict := dd2, data := .dict es n2, slots := sl2 } ∧ R (.ok (.ret .notImplemented)) s) :=
  .of_wp fun prog w A R s h => by obtain ⟨hp, g, d, tk, os⟩ := s; obtain ⟨hl, hb, h⟩ := h; have f1 := F.sub_dict_tuple; wp_walk using wpAny_loadPart' hl, wpAny_loadPart' hb; exact ⟨_, rfl, h⟩
theorem dict_eq_declines_int (l : Addr) (es : Array DictEntry) (n : Nat) (dd : Option Addr) (sl : Array (Option Value)) (b : Int) (u : Tok) :
    Meets (Builtin.«dict.__eq__» ⟨[.ref l, .int b u], []⟩) (fun _ R s => s.heap.get? l = some { cls := .type "dict", dict := dd, data := .dict es n, slots := sl } ∧ R (.ok (.ret .notImplemented)) s) :=
  .of_wp fun prog w A R s h => by obtain ⟨hp, g, d, tk, os⟩ := s; obtain ⟨hl, h⟩ := h; have f1 := F.sub_int_dict; wp_walk using wpAny_loadPart' hl; exact ⟨_, rfl, h⟩
theorem int_eq_declines_dict (b : Int) (u : Tok) (l : Addr) (es : Array DictEntry) (n : Nat) (dd : Option Addr) (sl : Array (Option Value)) :
    Meets (Builtin.«int.__eq__» ⟨[.int b u, .ref l], []⟩) (fun _ R s => s.heap.get? l = some { cls := .type "dict", dict := dd, data := .dict es n, slots := sl } ∧ R (.ok (.ret .notImplemented)) s) :=
  .of_wp fun prog w A R s h => by obtain ⟨hp, g, d, tk, os⟩ := s; obtain ⟨hl, h⟩ := h; wp_walk using wpAny_loadPart' hl, wpAny_load hl; exact ⟨_, rfl, h⟩
section
variable {A : Around} {s : Shared}
theorem RcAt.dict_int {l : Addr} {es : Array DictEntry} {n : Nat} {dd : Option Addr} {sl : Array (Option Value)} (b : Int) (u : Tok) (ho : s.heap.get? l = some { cls := .type "dict", dict := dd, data := .dict es n, slots := sl }) (hu : A.units < cLine) : RcAt A s (.ref l) (.int b u) false := fun prog w E Q h =>
  rc_eq_decline_or (k := false) ⟨_, ho, rfl⟩ (typeIs_int s b u) (by decide) F.sub_int_dict F.slot_dict_eq F.slot_int_eq_refl
    (fun _ hq => call_meets F.slot_dict_eq ⟨_, ho, rfl⟩ F.entry_dict_eq (F.args_dict_eq_2 _ _) (dict_eq_declines_int l es n dd sl b u) ⟨ho, hq⟩)
    (fun _ hq => call_meets F.slot_int_eq_refl (typeIs_int s b u) F.entry_int_eq (F.args_int_eq_2 _ _) (int_eq_declines_dict b u l es n dd sl) ⟨ho, hq⟩)
    (fun _ hq => wpAny_of_eq (rfl : isSame (.ref l) (.int b u) = pure false) hq) (.inr hu) h
theorem RcAt.dict_tuple {l b : Addr} {es : Array DictEntry} {n : Nat} {dd : Option Addr} {sl : Array (Option Value)} {items2 : Array Value} (ho : s.heap.get? l = some { cls := .type "dict", dict := dd, data := .dict es n, slots := sl }) (hb : s.heap.IsTuple b items2) (hu : A.units < cLine) : RcAt A s (.ref l) (.ref b) false := by
  obtain ⟨⟨cls2, dd2, data2, sl2⟩, ho2, hc2, n2, hd2⟩ := id hb
  simp only at hc2 hd2
  subst hc2 hd2
  have hne : l ≠ b := fun e => by
    subst e
    have e1 := congrArg (Option.map Obj.data) (ho.symm.trans ho2)
    cases e1
  exact fun prog w E Q h => rc_eq_decline_or (k := false) ⟨_, ho, rfl⟩ ⟨_, ho2, rfl⟩ (by decide) F.sub_tuple_dict F.slot_dict_eq F.slot_tuple_eq_refl
    (fun _ hq => call_meets F.slot_dict_eq ⟨_, ho, rfl⟩ F.entry_dict_eq (F.args_dict_eq_2 _ _) (dict_eq_declines_tuple l b es items2 n n2 dd dd2 sl sl2) ⟨ho, ho2, hq⟩)
    (fun _ hq => call_meets F.slot_tuple_eq_refl ⟨_, ho2, rfl⟩ F.entry_tuple_eq (F.args_tuple_eq_2 _ _) (tuple_eq_declines_dict b l items2 es n2 n dd2 dd sl2 sl) ⟨ho2, ho, hq⟩)
    (fun _ hq => wpAny_isSame_ref_other hne ho ho2 (by simp) hq) (.inr hu) h
theorem EqAt.dict_tuple {l b : Addr} {es : Array DictEntry} {n : Nat} {dd : Option Addr} {sl : Array (Option Value)} {items2 : Array Value} (ho : s.heap.get? l = some { cls := .type "dict", dict := dd, data := .dict es n, slots := sl }) (hb : s.heap.IsTuple b items2) (hu : A.units < cLine) : EqAt A s (.ref l) (.ref b) false := by
  have hne : l ≠ b := fun e => by
    obtain ⟨o2, ho2, hc2, n2, hd2⟩ := hb
    subst e
    have e1 := congrArg (Option.map Obj.data) (ho.symm.trans ho2)
    have e2 : some (Data.dict es n) = some o2.data := e1
    rw [hd2] at e2
    cases e2
  exact .of_refs hne (RcAt.dict_tuple ho hb hu)
end
end PySem.SeqAt
namespace HX
open PySem PySem.Spec PyProof.Rows PySem.SeqAt
section
variable {prog : Program} {w : World} {A : Around} {E : Value → Shared → Prop} {s : Shared} {K : PySem.W.Frag} {x C : Addr} {ox : Obj} {od : Option Obj}
/-- what compares with an instance without an __eq__ of its own -/
theorem entry_other {M : Model} {y : Value} {Q : Fin → Shared → Prop} (hs : ∀ Q' : Bool → Shared → Prop, Q' false s → wpAny M A (isSame (.ref x) y) Q' E s) (hq : Q (.done (.ret .notImplemented)) s) : wpAny M A (Builtin.«object.__eq__» ⟨[.ref x, y], []⟩) Q E s := by
  unfold Builtin.«object.__eq__»
  repeat (first | with_reducible refine hs _ ?_ | wp_step)
  exact hq
theorem rc_other {y : Value} {T : String} (hu : A.units < cLine) (X : K.In s.heap) (I : PySem.W.InstAt s.heap x ox C od) (hm : PySem.W.mroIn K C (.type "object") = some true) (hs : PySem.W.findIn K (.ref C) "__eq__" = some (some (.builtin "object.__eq__")))
    (hy : s.TypeIs y T) (hsame : ∀ (M : Model) (A' : Around) (E' : Value → Shared → Prop) (Q' : Bool → Shared → Prop), Q' false s → wpAny M A' (isSame (.ref x) y) Q' E' s) (sub : PySem.W.subIn K (.type T) (.ref C) = some false)
    (two : ∀ (prog : Program) (w : World) (E : Value → Shared → Prop), wpAny (model prog w) A (tryCompare y "__eq__" (.ref x)) (fun r s' => r = none ∧ s' = s) E s) :
    RcAt A s (.ref x) y false := fun prog w E Q h => by
  have callObj : ∀ Q : Value → Shared → Prop, Q .notImplemented s → wpAny (model prog w) A (call (.builtin "object.__eq__") [.ref x, y]) Q E s := fun Q hq =>
    wpAny_call (codeAny_call_builtin F.cmp_object.eq.plain F.cmpEntry_eq (PySem.W.check_slot F.cmpKind_eq F.cmpSplit_eq (I.type.andThen (PySem.W.looks_mroIn X hm)) (F.cmpArgs_eq _ _) (entry_other (fun Q' q => hsame _ _ _ Q' q) hq)))
  have one : wpAny (model prog w) A (tryCompare (.ref x) "__eq__" y) (fun r s' => r = none ∧ s' = s) E s := by
    unfold tryCompare
    exact wpAny_bind (HN.ifBound_objEq X I hs (callObj _ (wpAny_pure ⟨rfl, rfl⟩)))
  simp only [richCompare, cmpInfo_Eq, oneThing_ref]
  refine wpAny_holding (wpAny_bind (wpAny_cRoomFor hu ?_))
  refine wpAny_bind (I.type.here ?_)
  refine wpAny_bind (wpAny_typeOf hy ?_)
  split
  · refine wpAny_bind ((PySem.W.looks_subIn X sub).here ?_)
    simp only [Bool.false_eq_true, if_false, Bool.not_false, if_true]
    refine wpAny_bind (m := tryCompare (.ref x) _ y) (wpAny_mono one (fun r s1 z => ?_) fun _ _ e => e)
    obtain ⟨z1, z2⟩ := z
    subst z1
    subst z2
    refine wpAny_bind (m := tryCompare y _ (.ref x)) (wpAny_mono (two prog w E) (fun r s2 z => ?_) fun _ _ e => e)
    obtain ⟨z1, z2⟩ := z
    subst z1
    subst z2
    exact wpAny_bind (wpAny_rule (wpAny_bind (hsame _ _ _ _ (wpAny_pure h))))
  · rename_i q
    exact absurd (by simp) q
theorem sub_of {T : String} (e : fastBuiltinMro T = some [.type T, .type "object"]) : PySem.W.subIn K (.type T) (.ref C) = some false := by
  show (fastBuiltinMro T).map (·.contains (.ref C)) = some false
  rw [e]
  first
    | rfl
    | simp
/-- an instance is no tuple -/
theorem isi_tup {M : Model} {R : Bool → Shared → Prop} (X : K.In s.heap) (I : PySem.W.InstAt s.heap x ox C od) (st : PySem.W.subIn K (.ref C) (.type "tuple") = some false) (h : R false s) : wpAny M A (isInstance (.ref x) (.type "tuple")) R E s := by
  simp only [isInstance]
  exact wpAny_bind (I.type.here ((PySem.W.looks_subIn X st).here h))
theorem rcAt_tup {b : Addr} {items : Array Value} (hu : A.units < cLine) (X : K.In s.heap) (I : PySem.W.InstAt s.heap x ox C od) (hm : PySem.W.mroIn K C (.type "object") = some true) (hs : PySem.W.findIn K (.ref C) "__eq__" = some (some (.builtin "object.__eq__"))) (st : PySem.W.subIn K (.ref C) (.type "tuple") = some false)
    (hb : s.heap.IsTuple b items) : RcAt A s (.ref x) (.ref b) false := by
  obtain ⟨⟨cls2, dd2, data2, sl2⟩, ho2, hc2, n2, hd2⟩ := id hb
  simp only at hc2 hd2
  subst hc2 hd2
  have hne : x ≠ b := fun e => by
    subst e
    have e1 := congrArg (Option.map Obj.cls) (I.at_.symm.trans ho2)
    have e2 : some ox.cls = some (Value.type "tuple") := e1
    rw [I.cls] at e2
    cases e2
  refine rc_other (T := "tuple") hu X I hm hs ⟨_, ho2, rfl⟩ (fun M A' E' Q' q => wpAny_isSame_ref_other hne I.at_ ho2 (by simp; rw [I.cls]; exact fun e => by cases e) q) (sub_of (by decide +kernel)) fun prog w E => ?_
  refine wpAny_tryCompare_declines ⟨_, ho2, rfl⟩ F.slot_tuple_eq_refl (wpAny_call_entry F.slot_tuple_eq_refl ⟨_, ho2, rfl⟩ F.entry_tuple_eq ?_ (F.args_tuple_eq_2 _ _))
  unfold Builtin.«tuple.__eq__»
  wp_walk using isi_tup X I st
  exact ⟨_, rfl, rfl, rfl, rfl⟩
theorem rcAt_int {vs : Array Value} (b : Int) (u : Tok) (hu : A.units < cLine) (X : K.In s.heap) (I : PySem.W.InstAt s.heap x ox C od) (hm : PySem.W.mroIn K C (.type "object") = some true) (hs : PySem.W.findIn K (.ref C) "__eq__" = some (some (.builtin "object.__eq__"))) (hd : ox.data = .fields vs) :
    RcAt A s (.ref x) (.int b u) false := by
  obtain ⟨cls, dd, data, sl⟩ := ox
  simp only at hd
  subst hd
  have ho := I.at_
  exact rc_other (T := "int") hu X I hm hs (typeIs_int s b u) (fun M A' E' Q' q => wpAny_of_eq (rfl : isSame (.ref x) (.int b u) = pure false) q) (sub_of (by decide +kernel)) fun prog w E => by
    refine wpAny_tryCompare_declines (typeIs_int s b u) F.slot_int_eq_refl (wpAny_call_entry F.slot_int_eq_refl (typeIs_int s b u) F.entry_int_eq ?_ (F.args_int_eq_2 _ _))
    obtain ⟨hp, g, d, tk, os⟩ := s
    unfold Builtin.«int.__eq__»
    wp_walk using wpAny_loadPart' ho, wpAny_load ho
    exact ⟨_, rfl, rfl, rfl, rfl⟩
theorem eqAt_tup {b : Addr} {items : Array Value} (hu : A.units < cLine) (X : K.In s.heap) (I : PySem.W.InstAt s.heap x ox C od) (hm : PySem.W.mroIn K C (.type "object") = some true) (hs : PySem.W.findIn K (.ref C) "__eq__" = some (some (.builtin "object.__eq__"))) (st : PySem.W.subIn K (.ref C) (.type "tuple") = some false)
    (hb : s.heap.IsTuple b items) : EqAt A s (.ref x) (.ref b) false := by
  have hne : x ≠ b := fun e => by
    obtain ⟨o2, ho2, hc2, _⟩ := hb
    subst e
    have e1 := congrArg (Option.map Obj.cls) (I.at_.symm.trans ho2)
    have e2 : some ox.cls = some o2.cls := e1
    rw [I.cls, hc2] at e2
    cases e2
  exact .of_refs hne (rcAt_tup hu X I hm hs st hb)
end
end HX
namespace Hs
open PySem PySem.Spec PyProof.Rows L2 Hu Evl
/-- compared with (): nothing, a flag, an integer, a text, a tuple, a list -/
inductive Nc (K : PySem.W.Frag) (H : Hp) : V → Bool → Prop
  | non : Nc K H .non false
  | bl (b : Bool) : Nc K H (.bl b) false
  | int (i : Int) : Nc K H (.int i) false
  | str (z : Str) : Nc K H (.str z) false
  | tup {a : Addr} {xs : List V} : SqT K H a xs → Nc K H (.ref a) xs.isEmpty
  | lst {a : Addr} {xs : List V} : SqL K H a xs → Nc K H (.ref a) false
  | dct {a : Addr} {kvs : List (L2.Key × V)} : H a = some (.dK kvs) → Nc K H (.ref a) false
  | exc {a t C : Addr} : Eqx K C → H a = some (ExN C t a) → Nc K H (.ref a) false
/-- compared with an integer -/
inductive Ni (K : PySem.W.Frag) (H : Hp) (i : Int) : V → Bool → Prop
  | non : Ni K H i .non false
  | bl (b : Bool) : Ni K H i (.bl b) ((if b then 1 else 0) == i)
  | int (j : Int) : Ni K H i (.int j) (j == i)
  | str (z : Str) : Ni K H i (.str z) false
  | tup {a : Addr} {xs : List V} : SqT K H a xs → Ni K H i (.ref a) false
  | lst {a : Addr} {xs : List V} : SqL K H a xs → Ni K H i (.ref a) false
  | dct {a : Addr} {kvs : List (L2.Key × V)} : H a = some (.dK kvs) → Ni K H i (.ref a) false
  | exc {a t C : Addr} : Eqx K C → H a = some (ExN C t a) → Ni K H i (.ref a) false
theorem inst_exn {prog : Program} {w : World} {H : Hp} {h : Heap} {a t C : Addr} (ok : HOk prog w H h) (e : H a = some (ExN C t a)) : ∃ o vs, PySem.W.InstAt h a o C none ∧ o.data = .fields vs := by
  obtain ⟨⟨o, vs, q1, q2, q3, q4, q5⟩, _, _⟩ := ok a _ e
  obtain ⟨cls, dd, data, sl⟩ := o
  simp only at q2 q3 q5
  subst q2 q3 q5
  exact ⟨_, vs, ⟨q1, rfl, rfl, True.intro⟩, rfl⟩
theorem dict_dk {prog : Program} {w : World} {H : Hp} {h : Heap} {a : Addr} {kvs : List (L2.Key × V)} (ok : HOk prog w H h) (e : H a = some (.dK kvs)) : ∃ dd es ep sl, h.get? a = some { cls := .type "dict", dict := dd, data := .dict es ep, slots := sl } := by
  obtain ⟨_, hsys, vs, kv, o, es, ep, g1, g2, g3, _⟩ := ok a _ e
  obtain ⟨cls, dd, data, sl⟩ := o
  have g2' : cls = .type "dict" := g2.1
  simp only at g3
  subst g2' g3
  exact ⟨dd, es, ep, sl, g1⟩
section
variable {X : Cx} {pins : List (Addr × Obj)} {σ : L2.St} {H : Hp} {s : Shared} {x : V} {u : Value} {e : Bool} {c : Addr}
theorem empty_arr {α : Type} {xs : List V} {its : List Value} (h : Vals xs its) : (its.toArray.size == 0) = xs.isEmpty := by
  rw [List.size_toArray, ← h.length]
  cases xs <;> rfl
theorem vals_nil {its : List Value} (h : Vals [] its) : its = [] := by
  cases h
  rfl
theorem Nc.rc {A : Around} (n : Nc X.K H x e) (I : Inv X pins σ H s) (r : RelV x u) (hc : SqT X.K H c []) (hu2 : A.units < cLine) : SeqAt.EqAt A s u (.ref c) e := by
  obtain ⟨cs, rc, pc, _⟩ := I.tuple hc
  have ec := vals_nil rc
  subst ec
  cases n with
  | non =>
    cases r
    exact SeqAt.EqAt.none_tuple pc hu2
  | bl b =>
    cases r
    exact SeqAt.EqAt.bool_tuple b pc hu2
  | int i =>
    obtain ⟨t, rfl⟩ := r
    exact SeqAt.EqAt.int_tuple i t pc hu2
  | str z =>
    obtain ⟨t, rfl⟩ := r
    exact SeqAt.EqAt.str_tuple z t pc hu2
  | @tup a xs h =>
    cases r
    obtain ⟨its, r1, p1, _⟩ := I.tuple h
    by_cases q : a = c
    · subst q
      have := I.tuple_inj h hc
      subst this
      exact SeqAt.EqAt.same _
    · have m := SeqAt.RcAt.tuples (A := A) (s := s) (e := fun _ => true) p1 pc hu2 (fun j h1 h2 => absurd h2 (by simp))
      have e1 : ((List.range (min its.toArray.size (#[] : Array Value).size)).all (fun _ => true) && its.toArray.size == (#[] : Array Value).size) = xs.isEmpty := by
        rw [← empty_arr (α := Unit) r1]
        simp
      rw [show ([] : List Value).toArray = #[] from rfl, e1] at m
      exact SeqAt.EqAt.of_refs q m
  | @lst a xs h =>
    cases r
    obtain ⟨its, r1, p1, _⟩ := I.list h
    exact SeqAt.EqAt.list_tuple p1.isList pc hu2
  | @dct a kvs h =>
    cases r
    obtain ⟨dd, es, ep, sl, g⟩ := dict_dk I.hok h
    exact SeqAt.EqAt.dict_tuple g pc hu2
  | @exc a t C q h =>
    cases r
    obtain ⟨o, vs, i, _⟩ := inst_exn I.hok h
    exact HX.eqAt_tup hu2 I.kIn i q.m q.e q.t pc
/-- x == () -/
def rEqN (K : PySem.W.Frag) : R2 := fun x y H Q => ∃ c e, y = .ref c ∧ SqT K H c [] ∧ Nc K H x e ∧ Q (.bl e) H
theorem op_eqN (hu : X.A.units + 64 < cLine) : OpR X (compareOp .Eq) (rEqN X.K) := by
  intro pins s σ H x y v u Q I rx ry h
  obtain ⟨c, e, rfl, hc, n, q⟩ := h
  cases ry
  obtain ⟨cs, rc, pc, _⟩ := I.tuple hc
  have ec := vals_nil rc
  subst ec
  have hu2 : X.A.units < cLine := by omega
  have done : EP X pins σ Q (.bool e) s := ⟨.bl e, H, I, rfl, q⟩
  cases n with
  | non =>
    cases rx
    exact SeqAt.RcAt.none_tuple pc hu2 X.prog X.w X.xe _ done
  | bl b =>
    cases rx
    exact SeqAt.RcAt.bool_tuple b pc hu2 X.prog X.w X.xe _ done
  | int i =>
    obtain ⟨t, rfl⟩ := rx
    exact SeqAt.RcAt.int_tuple i t pc hu2 X.prog X.w X.xe _ done
  | str z =>
    obtain ⟨t, rfl⟩ := rx
    exact SeqAt.RcAt.str_tuple z t pc hu2 X.prog X.w X.xe _ done
  | @tup a xs h =>
    cases rx
    obtain ⟨its, r1, p1, _⟩ := I.tuple h
    have m := SeqAt.RcAt.tuples (A := X.A) (s := s) (e := fun _ => true) p1 pc hu2 (fun j h1 h2 => absurd h2 (by simp))
    have e1 : ((List.range (min its.toArray.size (#[] : Array Value).size)).all (fun _ => true) && its.toArray.size == (#[] : Array Value).size) = xs.isEmpty := by
      rw [← empty_arr (α := Unit) r1]
      simp
    rw [show ([] : List Value).toArray = #[] from rfl, e1] at m
    exact m X.prog X.w X.xe _ done
  | @lst a xs h =>
    cases rx
    obtain ⟨its, r1, p1, _⟩ := I.list h
    exact SeqAt.RcAt.list_tuple p1.isList pc hu2 X.prog X.w X.xe _ done
  | @dct a kvs h =>
    cases rx
    obtain ⟨dd, es, ep, sl, g⟩ := dict_dk I.hok h
    exact SeqAt.RcAt.dict_tuple g pc hu2 X.prog X.w X.xe _ done
  | @exc a t C q' h =>
    cases rx
    obtain ⟨o, vs, i, _⟩ := inst_exn I.hok h
    exact HX.rcAt_tup hu2 I.kIn i q'.m q'.e q'.t pc X.prog X.w X.xe _ done
/-- x == an integer -/
def rEqI (K : PySem.W.Frag) : R2 := fun x y H Q => ∃ i e, y = .int i ∧ Ni K H i x e ∧ Q (.bl e) H
theorem op_eqI (hu : X.A.units + 64 < cLine) : OpR X (compareOp .Eq) (rEqI X.K) := by
  intro pins s σ H x y v u Q I rx ry h
  obtain ⟨i, e, rfl, n, q⟩ := h
  obtain ⟨ty, rfl⟩ := ry
  have hu2 : X.A.units < cLine := by omega
  have done : EP X pins σ Q (.bool e) s := ⟨.bl e, H, I, rfl, q⟩
  cases n with
  | non =>
    cases rx
    exact SeqAt.RcAt.none_int i ty X.prog X.w X.xe _ done
  | bl b =>
    cases rx
    exact SeqAt.RcAt.bool_int b i ty X.prog X.w X.xe _ done
  | int j =>
    obtain ⟨t, rfl⟩ := rx
    exact SeqAt.RcAt.int_int j t i ty X.prog X.w X.xe _ done
  | str z =>
    obtain ⟨t, rfl⟩ := rx
    exact SeqAt.RcAt.str_int z t i ty X.prog X.w X.xe _ done
  | @tup a xs h =>
    cases rx
    obtain ⟨its, r1, p1, _⟩ := I.tuple h
    exact SeqAt.RcAt.tuple_int i ty p1 hu2 X.prog X.w X.xe _ done
  | @lst a xs h =>
    cases rx
    obtain ⟨its, r1, p1, _⟩ := I.list h
    exact SeqAt.RcAt.list_int i ty p1.isList hu2 X.prog X.w X.xe _ done
  | @dct a kvs h =>
    cases rx
    obtain ⟨dd, es, ep, sl, g⟩ := dict_dk I.hok h
    exact SeqAt.RcAt.dict_int i ty g hu2 X.prog X.w X.xe _ done
  | @exc a t C q' h =>
    cases rx
    obtain ⟨o, vs, i', hd⟩ := inst_exn I.hok h
    exact HX.rcAt_int i ty hu2 I.kIn i' q'.m q'.e hd X.prog X.w X.xe _ done
end
end Hs
namespace Hs
open PySem PySem.Spec PyProof.Rows L2 Hu Evl
inductive NcL (K : PySem.W.Frag) (H : Hp) : List V → List Bool → Prop
  | nil : NcL K H [] []
  | cons {x : V} {e : Bool} {xs : List V} {es : List Bool} : Nc K H x e → NcL K H xs es → NcL K H (x :: xs) (e :: es)
theorem NcL.len {K : PySem.W.Frag} {H : Hp} {xs : List V} {es : List Bool} (h : NcL K H xs es) : xs.length = es.length := by
  induction h with
  | nil => rfl
  | cons _ _ ih => rw [List.length_cons, List.length_cons, ih]
theorem NcL.at {K : PySem.W.Frag} {H : Hp} {xs : List V} {es : List Bool} (h : NcL K H xs es) : ∀ (j : Nat) (x : V), xs[j]? = some x → Nc K H x (es.getD j true) := by
  induction h with
  | nil => exact fun j x e => by simp at e
  | cons h1 _ ih =>
    refine fun j x e => ?_
    cases j with
    | zero =>
      cases e
      exact h1
    | succ j => exact ih j x e
theorem range_all : ∀ es : List Bool, (List.range es.length).all (fun j => es.getD j true) = es.all id
  | [] => rfl
  | e :: es => by
    rw [List.length_cons, List.range_succ_eq_map, List.all_cons, List.all_map, List.all_cons, ← range_all es]
    rfl
section
variable {X : Cx}
theorem valsGet {xs : List V} {us : List Value} (h : Vals xs us) (j : Nat) (hj : j < us.length) : ∃ x, xs[j]? = some x ∧ RelV x us[j] := by
  induction h generalizing j with
  | nil => exact absurd hj (Nat.not_lt_zero _)
  | cons h1 h2 ih =>
    cases j with
    | zero => exact ⟨_, rfl, h1⟩
    | succ j => exact ih j (Nat.lt_of_succ_lt_succ hj)
/-- x == ((), .., ()) -/
def rEqNs (K : PySem.W.Frag) : R2 := fun x y H Q => ∃ (a b : Addr) (xs : List V) (cs : List Addr) (es : List Bool), x = .ref a ∧ y = .ref b ∧ SqT K H a xs ∧ SqT K H b (cs.map V.ref) ∧ (∀ c ∈ cs, SqT K H c []) ∧ cs.length = xs.length ∧ NcL K H xs es ∧ Q (.bl (es.all id)) H
theorem op_eqNs (hu : X.A.units + 64 < cLine) : OpR X (compareOp .Eq) (rEqNs X.K) := by
  intro pins s σ H x y v u Q I rx ry h
  obtain ⟨a, b, xs, cs, es, rfl, rfl, ha, hb, hc, hl, n, q⟩ := h
  cases rx
  cases ry
  obtain ⟨its, r1, p1, _⟩ := I.tuple ha
  obtain ⟨its2, r2, p2, _⟩ := I.tuple hb
  have l1 := r1.length
  have l2 := r2.length
  rw [List.length_map] at l2
  have m := SeqAt.RcAt.tuples (A := X.A) (s := s) (e := fun j => es.getD j true) p1 p2 (by omega) (fun j h1 h2 => by
    have g1 : its.toArray[j] = its[j]'(by simpa using h1) := by simp
    have g2 : its2.toArray[j] = its2[j]'(by simpa using h2) := by simp
    rw [g1, g2]
    obtain ⟨x, e1, rx⟩ := valsGet r1 j (by simpa using h1)
    obtain ⟨y, e2, ry⟩ := valsGet r2 j (by simpa using h2)
    rw [List.getElem?_map] at e2
    cases e3 : cs[j]? with
    | none =>
      rw [e3] at e2
      cases e2
    | some c =>
      rw [e3] at e2
      have e4 : V.ref c = y := Option.some.inj e2
      subst e4
      have e5 : its2[j]'(by simpa using h2) = Value.ref c := ry
      rw [e5]
      exact (n.at j x e1).rc (A := X.A.in1) I rx (hc c (List.mem_of_getElem? e3)) (show X.A.units + 1 < cLine by omega))
  have e1 : ((List.range (min its.toArray.size its2.toArray.size)).all (fun j => es.getD j true) && its.toArray.size == its2.toArray.size) = es.all id := by
    have z1 : its.toArray.size = es.length := by rw [List.size_toArray, ← l1, n.len]
    have z2 : its2.toArray.size = es.length := by rw [List.size_toArray, ← l2, hl, n.len]
    rw [z1, z2, Nat.min_self, range_all]
    simp
  rw [e1] at m
  exact m X.prog X.w X.xe (EP X pins σ Q) ⟨.bl _, H, I, rfl, q⟩
end
section
variable {K : PySem.W.Frag} {σ : L2.St} {H : Hp} {t te : TE}
theorem el_rngM {ta : TA} {te : TE} {j : Nat} {vs : List Nat} {n : Int} (v : Nat → V) (h : EvA ta σ H [.int n]) (hn : -1 ≤ n ∧ n ≤ 40000) (hw : ∀ x, wipe ((wipe σ vs).set j (some x)) vs = wipe σ vs)
    (he : ∀ (i : Nat), (i : Int) < n → Ev te ((wipe σ vs).set j (some (.int (i : Int)))) H (v i)) :
    EvL (tLc (iRng1 ta) (gName j) tYes te vs) σ H ((List.range n.toNat).map v) := fun H0 e Q q => h H0 e _ fun H1 e1 => ⟨n, rfl, by omega, by omega, fun Dl hD =>
  lc_range (lo := 0) (n := n.toNat) (Cw H1 (fun _ => true) v Dl) ⟨hD, Ex.new hD, upd_same⟩ (fun i H' hi p => by
    have e0 : (0 : Int) + (i : Int) = (i : Int) := Int.zero_add _
    show wipe ((wipe σ vs).set j (some (.int ((0 : Int) + (i : Int))))) vs = wipe σ vs ∧ tYes ((wipe σ vs).set j (some (.int ((0 : Int) + (i : Int))))) H' fun b H3 => if b = true then te ((wipe σ vs).set j (some (.int ((0 : Int) + (i : Int))))) H3 fun y H4 => ∃ acc, H4 Dl = some (.lst acc) ∧ acc.length < sizeLine ∧ Cw H1 (fun _ => true) v Dl (i + 1) (upd H4 Dl (.lst (acc ++ [y]))) else Cw H1 (fun _ => true) v Dl (i + 1) H3
    rw [e0]
    exact ⟨hw _, cw_turn p (by omega) et_yes (fun _ => (he i (by omega)).mono (e.trans e1))⟩) (fun H' p => q Dl H' (fresh_back e1 p.1) (e1.trans p.2.1) (by rw [← given_all]; exact p.2.2))⟩
end
def ascN (n : Nat) (lt : Nat → Bool) : Bool := (List.range (n - 1)).all lt
/-- is_ascending: ri how an item is taken, r how two compare -/
def spAscG (K : PySem.W.Frag) (ri r : R2) : Sp := fun vs H Q _ => ∃ (a : Addr) (xs : List V) (lt : Nat → Bool), vs = [.ref a] ∧ (SqL K H a xs ∨ SqT K H a xs) ∧ xs.length ≤ 40000 ∧
  (∀ (k : Nat) x, xs[k]? = some x → RV ri (.ref a) (.int (k : Int)) H x) ∧ (∀ (k : Nat) x y, xs[k]? = some x → xs[k + 1]? = some y → RV r x y H (.bl (lt k))) ∧ ∀ H', Same H H' → Q (.bl (ascN xs.length lt)) H'
section
variable {P : Program} {wd : World} {K : PySem.W.Frag} {mg : Str → Option Value} {base : Heap} {C : Addr}
theorem sq_ex {H H' : Hp} {a : Addr} {xs : List V} (e : Ex H H') (h : SqL K H a xs ∨ SqT K H a xs) : SqL K H' a xs ∨ SqT K H' a xs := h.elim (fun h => .inl (ex_l e h)) (fun h => .inr (ex_t e h))
theorem ascG_reads {σ : L2.St} {H : Hp} {a : Addr} {xs : List V} {lt : Nat → Bool} {ri r : R2} (h0 : σ = [some (.ref a), none]) (ha : SqL K H a xs ∨ SqT K H a xs) (hz : xs.length ≤ 40000)
    (hi : ∀ (k : Nat) x, xs[k]? = some x → RV ri (.ref a) (.int (k : Int)) H x) (hr : ∀ (k : Nat) x y, xs[k]? = some x → xs[k + 1]? = some y → RV r x y H (.bl (lt k))) :
    Ev (tCB (rAll K) (tCons (tLc (iRng1 (tCons (tOp (rI0 fun i j => .int (i - j)) (tCB (rLenQ K) (tCons (tVar 0) tNil)) (tC (.int 1))) tNil)) (gName 1) tYes (tOp r (tOp ri (tVar 0) (tVar 1)) (tOp ri (tVar 0) (tOp (rI0 fun i j => .int (i + j)) (tVar 1) (tC (.int 1))))) [1]) tNil)) σ H (.bl (ascN xs.length lt)) := by
  subst h0
  have main : EvL (tLc (iRng1 (tCons (tOp (rI0 fun i j => .int (i - j)) (tCB (rLenQ K) (tCons (tVar 0) tNil)) (tC (.int 1))) tNil)) (gName 1) tYes (tOp r (tOp ri (tVar 0) (tVar 1)) (tOp ri (tVar 0) (tOp (rI0 fun i j => .int (i + j)) (tVar 1) (tC (.int 1))))) [1]) [some (.ref a), none] H
      ((List.range ((xs.length : Int) - 1).toNat).map fun k => .bl (lt k)) :=
    el_rngM (n := (xs.length : Int) - 1) (fun k => .bl (lt k)) (ea_cons (ev_op (ev_cb (ea_cons (ev_var rfl) ea_nil) fun H1 e Q q => ⟨a, xs, rfl, sq_ex e ha, q H1 (Ex.refl H1)⟩) ev_c rv_I0) ea_nil) (by omega) (fun _ => rfl) (fun i hi' => by
      have h1 : i + 1 < xs.length := by omega
      exact ev_op (ev_op (ev_var rfl) (ev_var rfl) (hi i _ (List.getElem?_eq_getElem (by omega)))) (ev_op (ev_var rfl) (ev_op (z := .int ((i + 1 : Nat) : Int)) (ev_var rfl) ev_c rv_I0) (hi (i + 1) _ (List.getElem?_eq_getElem h1))) (hr i _ _ (List.getElem?_eq_getElem (by omega)) (List.getElem?_eq_getElem h1)))
  refine ev_cb1 main fun p H2 h2 e2 Q q => ⟨p, (List.range (xs.length - 1)).map lt, rfl, sq_of ?_, ?_⟩
  · rw [h2, show ((xs.length : Int) - 1).toNat = xs.length - 1 from by omega, List.map_map]
    rfl
  · have e : ((List.range (xs.length - 1)).map lt).all id = ascN xs.length lt := by
      rw [List.all_map]
      rfl
    rw [e]
    exact q H2 (Ex.refl H2)
theorem ok_ascG {ri r : R2} {f : Addr} {fd : FuncData} (F : Fun K "is_ascending" "is_ascending" sAscending f fd) (B : Bt mg) (hix : ∀ X : Cx, X.K = K → IxR X ri) (hop : ∀ X : Cx, X.K = K → X.A.units + 64 < cLine → OpR X (compareOp .Lt) r) :
    FnOk P wd K mg base CX0 1 f fd ["things"] (spAscG K ri r) := by
  refine F.ok scAsc (fun vs H Q E h => ?_) (fun cdv A outer s H vs Q E hr h => ?_)
  · obtain ⟨n, m, _, rfl, _⟩ := h
    rfl
  · obtain ⟨a, xs, lt, rfl, ha, hz, hi, hl, k⟩ := h
    refine ⟨_, pss_one (ps_ret (pe_callB (cr_all rfl) (by rfl) B.all boot_all' (pa_cons (pe_lc (own := [("k", 1)]) (g := gName 1) (tt := tYes) rfl scAsc.nd (pi_range1 (by rfl) B.range (pa_cons (pe_op op_sub (pe_callB call_len_seq (by rfl) B.len PySem.boot_len (pa_cons (pv 0) pa_nil)) pe_int) pa_nil)) (blkOk_by (N := ["things", "k"]) (sc := defScope sAscending) (by decide +kernel))
      (fun _ _ _ _ _ => pg_name (i := 1) scAsc.nd rfl (Or.inl rfl)) (fun _ _ _ _ _ => pts_nil) (fun _ _ _ _ _ => pe_cmpR (hop _ rfl (room_hu hr)) (pe_ix (hix _ rfl) (pv 0) (pv 1) (fun _ _ => rfl)) (pe_ix (hix _ rfl) (pv 0) (pe_op op_add (pv 1) pe_int) (fun _ _ => rfl)) (nomark _))) pa_nil))), ?_⟩
    exact s_ret (ascG_reads rfl ha hz hi hl) k
end
end Hs
namespace Hs
open PySem PySem.Spec PyProof.Rows L2 Hu Evl
abbrev sCount : Stmt := topS 13
abbrev sTO : Stmt := topS 28
abbrev sAhead : Stmt := topS 29
abbrev sVote : Stmt := topS 30
abbrev sHeads : Stmt := topS 31
abbrev sNamed : Stmt := topS 32
abbrev sBlocks : Stmt := topS 33
abbrev sBlk : Stmt := topS 34
def spJw (C : Addr) (S : U → Prop) (g : U → Bool) : Sp := fun vs H Q _ => ∃ (v : V) (u : U) (w : Addr), vs = [v] ∧ At w C H v u ∧ Fine u ∧ S u ∧ (∃ o, H w = some o) ∧ ∀ H', Same H H' → Q (.bl (g u)) H'
structure Jw (P : Program) (w : World) (K : PySem.W.Frag) (mg : Str → Option Value) (base : Heap) (C : Addr) (k : Nat) (x : Str) (p : Str) (f : Addr) (fd : FuncData) (S : U → Prop) (g : U → Bool) : Prop where
  ok : FnOk P w K mg base CX0 k f fd [p] (spJw C S g)
  g : mg x = some (.ref f)
  kp : PySem.W.keepIn K (.ref f) = true
  b : Binds K fd [p] []
theorem lenJw {C : Addr} {S : U → Prop} {g : U → Bool} {p : Str} : ∀ vs H Q E, spJw C S g vs H Q E → vs.length = [p].length := fun vs H Q E h => by
  obtain ⟨v, u, w, rfl, _⟩ := h
  rfl
theorem ev_Jw {C : Addr} {S : U → Prop} {g : U → Bool} {H : Hp} {v : V} {u : U} {w : Addr} {σ : L2.St} {te : TE} {E : XK} (h : Evl.Ev te σ H v) (hat : At w C H v u) (fi : Fine u) (hs : S u) (hw : ∃ o, H w = some o) : Evl.Ev (tCall (spJw C S g) [] E (tCons te tNil)) σ H (.bl (g u)) :=
  Evl.ev_call (Evl.ea_cons h Evl.ea_nil) fun H1 e Q q E => ⟨v, u, w, rfl, ex_at e hat, fi, hs, hw.imp fun o z => e _ _ z, q⟩
section
variable {X : Cx} {C : Addr} {CX : CXT} {E : XK}
theorem pe_Jw {x p : Str} {k j : Nat} {f : Addr} {fd : FuncData} {S : U → Prop} {g : U → Bool} {e : Expr} {te : TE} {ps pos : Pos} (J : Jw X.prog X.w X.K X.mg X.base C k x p f fd S g) (hr : Room j X.A) (h : k ≤ j) (hg : Gl X x) (hx : Passes CX0 X E) (he : PE X e te) (hdb : (x == ("__debug__" : Str)) = false := by decide)
    (hst : starEach [e] X.env = (false, eval e X.env) :: starEach [] X.env := by rfl) (hpl : (backTo pos (starEach [] X.env)).any (·.1) = false := by rfl) :
    PE X (.Call (.Name x ps) [e] [] pos) (tCall (spJw C S g) [] E (tCons te tNil)) :=
  pe_call J.ok (hr.mono h) hg J.g J.kp J.b .nil hx (pa_cons he pa_nil hst) hdb hst hpl
end
def nilU (u : U) : Bool := match u with | .tup us => us.isEmpty | _ => false
abbrev okN (_ : U) : Prop := True
theorem nc_at {K : PySem.W.Frag} {w C : Addr} {H : Hp} {v : V} {u : U} (hx : Eqx K C) (h : At w C H v u) : Nc K H v (nilU u) := by
  cases h with
  | non => exact .non
  | bl b => exact .bl b
  | int i => exact .int i
  | str z => exact .str z
  | @tup a xs us ha _ hl =>
    have : us.isEmpty = xs.isEmpty := by cases hl <;> rfl
    show Nc K H (.ref a) us.isEmpty
    rw [this]
    exact .tup (Tu.st ha)
  | lst ha _ hl => exact .lst (sq_of ha)
  | dct ha _ _ _ _ => exact .dct ha
  | exc ha _ _ _ => exact .exc hx ha
/-- an integer by == -/
def isI (i : Int) (u : U) : Bool := match u with | .bl b => (if b then 1 else 0) == i | .int j => j == i | _ => false
theorem ni_at {K : PySem.W.Frag} {w C : Addr} {H : Hp} {v : V} {u : U} (i : Int) (hx : Eqx K C) (h : At w C H v u) : Ni K H i v (isI i u) := by
  cases h with
  | non => exact .non
  | bl b => exact .bl b
  | int i => exact .int i
  | str z => exact .str z
  | tup ha _ hl => exact .tup (Tu.st ha)
  | lst ha _ hl => exact .lst (sq_of ha)
  | dct ha _ _ _ _ => exact .dct ha
  | exc ha _ _ _ => exact .exc hx ha
theorem Ni.ex {K : PySem.W.Frag} {H H' : Hp} {i : Int} {v : V} {e : Bool} (x : Ex H H') (h : Ni K H i v e) : Ni K H' i v e := by
  cases h with
  | non => exact .non
  | bl b => exact .bl b
  | int i => exact .int i
  | str z => exact .str z
  | tup h => exact .tup (ex_t x h)
  | lst h => exact .lst (ex_l x h)
  | dct h => exact .dct (x _ _ h)
  | exc q h => exact .exc q (x _ _ h)
theorem rv_eqI {K : PySem.W.Frag} {H : Hp} {i : Int} {v : V} {e : Bool} (h : Ni K H i v e) : RV (rEqI K) v (.int i) H (.bl e) := fun H1 x Q q => ⟨i, e, rfl, h.ex x, q H1 (Ex.refl H1)⟩
theorem Nc.ex {K : PySem.W.Frag} {H H' : Hp} {v : V} {e : Bool} (x : Ex H H') (h : Nc K H v e) : Nc K H' v e := by
  cases h with
  | non => exact .non
  | bl b => exact .bl b
  | int i => exact .int i
  | str z => exact .str z
  | tup h => exact .tup (ex_t x h)
  | lst h => exact .lst (ex_l x h)
  | dct h => exact .dct (x _ _ h)
  | exc q h => exact .exc q (x _ _ h)
theorem rv_eqN {K : PySem.W.Frag} {H : Hp} {v : V} {e : Bool} {c : Addr} (h : Nc K H v e) (hc : H c = some (.tup [])) : RV (rEqN K) v (.ref c) H (.bl e) := fun H1 x Q q => ⟨c, e, rfl, ex_t x (st_of hc), h.ex x, q H1 (Ex.refl H1)⟩
inductive TkL (H : Hp) : List V → List (List L2.Key) → Prop
  | nil : TkL H [] []
  | cons {p : Addr} {ks : List L2.Key} {vs : List V} {kss : List (List L2.Key)} : H p = some (.tup (ks.map kV)) → TkL H vs kss → TkL H (.ref p :: vs) (ks :: kss)
theorem TkL.ex {H H' : Hp} {vs : List V} {kss : List (List L2.Key)} (e : Ex H H') (h : TkL H vs kss) : TkL H' vs kss := by
  induction h with
  | nil => exact .nil
  | cons h _ ih => exact .cons (e _ _ h) ih
theorem TkL.tups {H H' : Hp} {vs : List V} {kss : List (List L2.Key)} (e : ∀ b zs, H b = some (.tup zs) → H' b = some (.tup zs)) (h : TkL H vs kss) : TkL H' vs kss := by
  induction h with
  | nil => exact .nil
  | cons h _ ih => exact .cons (e _ _ h) ih
theorem TkL.len {H : Hp} {vs : List V} {kss : List (List L2.Key)} (h : TkL H vs kss) : vs.length = kss.length := by
  induction h with
  | nil => rfl
  | cons _ _ ih => rw [List.length_cons, List.length_cons, ih]
theorem TkL.snoc {H : Hp} {vs : List V} {kss : List (List L2.Key)} {p : Addr} {ks : List L2.Key} (h : TkL H vs kss) (hp : H p = some (.tup (ks.map kV))) : TkL H (vs ++ [.ref p]) (kss ++ [ks]) := by
  induction h with
  | nil => exact .cons hp .nil
  | cons h _ ih => exact .cons h ih
theorem TkL.get {H : Hp} {vs : List V} {kss : List (List L2.Key)} (h : TkL H vs kss) : ∀ {j : Nat} {v : V}, vs[j]? = some v → ∃ p ks, v = .ref p ∧ kss[j]? = some ks ∧ H p = some (.tup (ks.map kV)) := by
  induction h with
  | nil => exact fun e => by simp at e
  | cons h _ ih =>
    intro j v e
    cases j with
    | zero =>
      cases e
      exact ⟨_, _, rfl, rfl, h⟩
    | succ j => exact ih e
/-- tuples of keys in a row -/
def ascK (kss : List (List L2.Key)) : Bool := ascN kss.length fun k => Hk.ltK (kss.getD k []) (kss.getD (k + 1) [])
def kinK (kss : List (List L2.Key)) : Prop := ∀ ks ∈ kss, ∀ ls ∈ kss, Hk.kinds ks ls = true
section
variable {K : PySem.W.Frag} {σ : L2.St} {H : Hp} {tl te : TE} {xs : List V} {us : List U} {w C : Addr}
theorem ev_callL1 {sp : Sp} {E : XK} {z : V} (h : EvL te σ H xs) (hs : ∀ p H1, H1 p = some (.lst xs) → Ex H H1 → ∀ Q : VK, (∀ H2, Ex H1 H2 → Q z H2) → ∀ E, sp [.ref p] H1 Q E) : Ev (tCall sp [] E (tCons te tNil)) σ H z :=
  fun H0 e Q q => h H0 e _ fun p H1 hp e1 h1 => hs p H1 h1 (e.trans e1) Q (fun H2 e2 => q H2 (e1.trans e2)) _
/-- [f(x) for x in a tuple], each a tuple of keys -/
theorem lc_newK {a : Addr} {j : Nat} {vs : List Nat} {f : U → List L2.Key} (h : Ev tl σ H (.ref a)) (hx : Tu H a xs us) (hz : us.length ≤ 40000) (hl : AtL w C H xs us) (hw : ∀ x, wipe ((wipe σ vs).set j (some x)) vs = wipe σ vs)
    (he : ∀ (x : V) (u : U) G, u ∈ us → Ex H G → At w C G x u → ∀ Q : VK, (∀ p G', Ex G G' → G' p = some (.tup ((f u).map kV)) → Q (.ref p) G') → te ((wipe σ vs).set j (some x)) G Q) :
    ∀ H0, Ex H H0 → ∀ Q : VK, (∀ p ys H', H0 p = none → Ex H0 H' → H' p = some (.lst ys) → TkL H' ys (us.map f) → Q (.ref p) H') → tLc (iTup K tl) (gName j) tYes te vs σ H0 Q := fun H0 e Q q => h H0 e _ fun H1 e1 => ⟨a, rfl, ⟨xs, Tu.st (Tu.ex (e.trans e1) hx)⟩, fun Dl hD =>
  lc_tup (xs := xs) (fun i H' => Ex H1 H' ∧ ∃ ys, H' Dl = some (.lst ys) ∧ TkL H' ys ((us.take i).map f)) ⟨Ex.new hD, [], upd_same, .nil⟩ (fun i H' _ p => Tu.st (Tu.ex ((e.trans e1).trans p.1) hx)) (fun i x H2 hi p => by
    obtain ⟨p1, ys, p2, p3⟩ := p
    have hlen := AtL.length hl
    have hu : i < us.length := by
      have := (List.getElem?_eq_some_iff.mp hi).1
      omega
    obtain ⟨x', hx', hax⟩ := AtL.get hl (List.getElem?_eq_getElem hu)
    rw [hi] at hx'
    cases hx'
    have e2 := (e.trans e1).trans p1
    refine ⟨hw x, he x us[i] H2 (List.getElem_mem hu) e2 (ex_at e2 hax) _ fun b H3 e3 o3 => ⟨ys, e3 _ _ p2, ?_, fun q o hq => ?_, ys ++ [.ref b], upd_same, ?_⟩⟩
    · have hyl := p3.len
      rw [List.length_map, List.length_take] at hyl
      have := bit_line
      unfold bit at this
      omega
    · rw [upd_ne (ne_of_none hq hD)]
      exact e3 _ _ (p1 _ _ hq)
    · have nt : ∀ b' zs, H3 b' = some (.tup zs) → upd H3 Dl (.lst (ys ++ [.ref b])) b' = some (.tup zs) := fun b' zs hb' => by
        rw [upd_ne (fun z => by rw [z, e3 _ _ p2] at hb'; cases hb')]
        exact hb'
      have t3 := (p3.ex e3).tups nt
      rw [List.take_add_one, List.getElem?_eq_getElem hu, List.map_append]
      exact t3.snoc (nt _ _ o3)) (fun H' p => by
    obtain ⟨p1, ys, p2, p3⟩ := p
    rw [AtL.length hl, List.take_length] at p3
    exact q Dl ys H' (fresh_back e1 hD) (e1.trans p1) p2 p3)⟩
/-- [v(x) for x in a tuple], the values found -/
theorem el_mapX {us : List U} {a : Addr} {j : Nat} {vs : List Nat} (v : Nat → V) (h : Ev tl σ H (.ref a)) (hx : Tu H a xs us) (hz : xs.length ≤ 40000) (hw : ∀ x, wipe ((wipe σ vs).set j (some x)) vs = wipe σ vs)
    (he : ∀ (i : Nat) (x : V), xs[i]? = some x → Ev te ((wipe σ vs).set j (some x)) H (v i)) :
    EvL (tLc (iTup K tl) (gName j) tYes te vs) σ H ((List.range xs.length).map v) := fun H0 e Q q => h H0 e _ fun H1 e1 => ⟨a, rfl, ⟨xs, Tu.st (Tu.ex (e.trans e1) hx)⟩, fun Dl hD =>
  lc_tup (xs := xs) (Cw H1 (fun _ => true) v Dl) ⟨hD, Ex.new hD, upd_same⟩ (fun i H' _ p => Tu.st (Tu.ex ((e.trans e1).trans p.2.1) hx)) (fun i x H' hi p => ⟨hw x, cw_turn p (by have := (List.getElem?_eq_some_iff.mp hi).1; omega) et_yes (fun _ => (he i x hi).mono (e.trans e1))⟩)
    (fun H' p => q Dl H' (fresh_back e1 p.1) (e1.trans p.2.1) (by rw [← given_all]; exact p.2.2))⟩
end
abbrev rLtS : R2 := fun x y H Q => ∃ i j, x = .str i ∧ y = .str j ∧ Q (.bl (decide (i.cps.toList < j.cps.toList))) H
def e0z : Str := ⟨#[]⟩
def ascZ (zs : List Str) : Bool := ascN zs.length fun k => decide ((zs.getD k e0z).cps.toList < (zs.getD (k + 1) e0z).cps.toList)
theorem getD_some {α : Type} {xs : List α} {k : Nat} {x d : α} (h : xs[k]? = some x) : xs.getD k d = x := by
  rw [List.getD_eq_getElem?_getD, h]
  rfl
section
variable {P : Program} {wd : World} {K : PySem.W.Frag} {mg : Str → Option Value} {base : Heap} {C : Addr}
theorem asc_strL {H : Hp} {a : Addr} {zs : List Str} (ha : H a = some (.lst (zs.map V.str))) (hz : zs.length ≤ 40000) (Q : VK) (q : ∀ H2, Ex H H2 → Q (.bl (ascZ zs)) H2) (E : XK) : spAscG K (rIxL K) rLtS [.ref a] H Q E := by
  refine ⟨a, zs.map V.str, (fun k => decide ((zs.getD k e0z).cps.toList < (zs.getD (k + 1) e0z).cps.toList)), rfl, .inl (sq_of ha), (by rw [List.length_map]; exact hz), fun k x hx => rv_ixL (sq_of ha) (atI_nat hx), fun k x y hx hy => ?_, ?_⟩
  · rw [List.getElem?_map] at hx hy
    cases h1 : zs[k]? with
    | none => rw [h1] at hx; cases hx
    | some z => cases h2 : zs[k + 1]? with
      | none => rw [h2] at hy; cases hy
      | some z2 =>
        rw [h1] at hx
        rw [h2] at hy
        cases hx
        cases hy
        dsimp only
        rw [getD_some h1, getD_some h2]
        exact fun H1 e Q q => ⟨z, z2, rfl, rfl, q H1 (Ex.refl H1)⟩
  · rw [List.length_map]
    exact q
theorem asc_tkL {H : Hp} {a : Addr} {ys : List V} {kss : List (List L2.Key)} (ha : H a = some (.lst ys)) (ht : TkL H ys kss) (hk : kinK kss) (hz : kss.length ≤ 40000) (Q : VK) (q : ∀ H2, Ex H H2 → Q (.bl (ascK kss)) H2) (E : XK) : spAscG K (rIxL K) (Hk.rLtK K) [.ref a] H Q E := by
  refine ⟨a, ys, (fun k => Hk.ltK (kss.getD k []) (kss.getD (k + 1) [])), rfl, .inl (sq_of ha), (by rw [ht.len]; exact hz), fun k x hx => rv_ixL (sq_of ha) (atI_nat hx), fun k x y hx hy => ?_, ?_⟩
  · obtain ⟨p, ks, rfl, h1, hp⟩ := ht.get hx
    obtain ⟨p2, ls, rfl, h2, hp2⟩ := ht.get hy
    dsimp only
    rw [getD_some h1, getD_some h2]
    exact fun H1 e Q q => ⟨p, p2, ks, ls, rfl, rfl, st_of (e _ _ hp), st_of (e _ _ hp2), hk _ (List.mem_of_getElem? h1) _ (List.mem_of_getElem? h2), q H1 (Ex.refl H1)⟩
  · rw [ht.len]
    exact q
theorem ok_ascZ {f : Addr} {fd : FuncData} (F : Fun K "is_ascending" "is_ascending" sAscending f fd) (B : Bt mg) : FnOk P wd K mg base CX0 1 f fd ["things"] (spAscG K (rIxL K) rLtS) :=
  ok_ascG F B (fun X e => e ▸ ix_list) (fun X e _ => op_lt_str)
theorem ok_ascK {f : Addr} {fd : FuncData} (F : Fun K "is_ascending" "is_ascending" sAscending f fd) (B : Bt mg) : FnOk P wd K mg base CX0 1 f fd ["things"] (spAscG K (rIxL K) (Hk.rLtK K)) :=
  ok_ascG F B (fun X e => e ▸ ix_list) (fun X e h => e ▸ Hk.op_ltK (by omega))
end
end Hs
namespace Hs
open PySem PySem.Spec PyProof.Rows L2 Hu Evl
def gCnt (u : U) : Bool := iv u fun i => decide (0 ≤ i)
def gTO (m : Nat) (u : U) : Bool := tv u fun us => decide (us.length = m)
def gAhead (u : U) : Bool := nilU u || gMembers u
def gVote (u : U) : Bool := isNon u || tv u fun us => two us fun a b => gStamp a && gMembers b
def nth (u : U) (k : Nat) : U := match u with | .tup us => us.getD k .non | _ => .non
def gNamed (u : U) : Bool := gTO 3 u && (gNam (nth u 0) && (gStamp (nth u 1) && gRow (nth u 2)))
def strU (u : U) : Str := match u with | .str z => z | _ => e0z
def gHeads (u : U) : Bool := tv u fun us => us.all gNamed && ascZ (us.map fun u => strU (nth u 0))
def gBlk (u : U) : Bool := gPair u && (gId (nth u 0) && gPiece (nth u 1))
def keyU (u : U) : L2.Key := match u with | .str z => .inr z | .int i => .inl i | _ => .inl 0
def keysU (u : U) : List L2.Key := match u with | .tup us => us.map keyU | _ => []
def gBlocks (u : U) : Bool := tv u fun us => us.all gBlk && ascK (us.map fun u => keysU (nth u 0))
/-- small enough for its rows to be looked through -/
def Sm (u : U) : Prop := wt u ≤ 160000
theorem wt_two (u : U) : 2 ≤ wt u := by
  cases u <;> simp only [wt] <;> omega
theorem wt_len4 : ∀ us : List U, 4 * us.length ≤ wtL us
  | [] => Nat.zero_le _
  | u :: us => by have := wt_len4 us; have := wt_two u; simp only [wtL, List.length_cons]; omega
theorem Sm.len {us : List U} (h : Sm (.tup us)) : us.length ≤ 40000 := by
  have := wt_len4 us
  unfold Sm at h
  simp only [wt] at h
  omega
section
variable {P : Program} {wd : World} {K : PySem.W.Frag} {mg : Str → Option Value} {base : Heap} {C : Addr}
theorem scCnt : FnScope ["thing"] ["thing"] (defScope sCount) := ⟨rfl, rfl, rfl, by decide +kernel, rfl, by decide +kernel, by decide +kernel⟩
theorem jd_cnt {f fI : Addr} {fd fdI : FuncData} (D : Df K mg "is_count" sCount ["thing"] f fd) (S : Bs K mg C) (J : Jd P wd K mg base C 1 "is_integer" "thing" fI fdI gInt) : Jd P wd K mg base C 2 "is_count" "thing" f fd gCnt := by
  refine ⟨D.F.ok scCnt lenJ (fun cdv A outer s H vs Q E hr h => ?_), D.g, D.F.kp, D.b⟩
  obtain ⟨v, u, w, rfl, hat, fi, k⟩ := h
  refine ⟨_, pss_one (ps_ret (pe_and (pe_J J hr (by decide) (by rfl) pass0 (pv 0)) (pe_one (pe_cmpR op_ge (pv 0) pe_int (nomark _))))), ?_⟩
  refine s_ret (ev_andV (b := gCnt u) (ev_J (ev_var rfl) hat fi) fun q => ?_) fun H1 e => ?_
  · obtain ⟨i, rfl⟩ := gInt_int q
    cases at_int hat
    exact ev_op (ev_var rfl) ev_c rv_I0
  · unfold gCnt
    rw [iv_and]
    exact k H1 e
theorem scTO : FnScope ["many", "thing"] ["many", "thing"] (defScope sTO) := ⟨rfl, rfl, rfl, by decide +kernel, rfl, by decide +kernel, by decide +kernel⟩
def spTO (C : Addr) : Sp := fun vs H Q _ => ∃ (m : Nat) (v : V) (u : U) (w : Addr), vs = [.int (m : Int), v] ∧ At w C H v u ∧ ∀ H', Same H H' → Q (.bl (gTO m u)) H'
theorem ok_TO {f : Addr} {fd : FuncData} (D : Df K mg "is_tuple_of" sTO ["many", "thing"] f fd) (S : Bs K mg C) : FnOk P wd K mg base CX0 1 f fd ["many", "thing"] (spTO C) := by
  refine D.F.ok scTO (fun vs H Q E h => ?_) (fun cdv A outer s H vs Q E hr h => ?_)
  · obtain ⟨m, v, u, w, rfl, _⟩ := h
    rfl
  · obtain ⟨m, v, u, w, rfl, hat, k⟩ := h
    refine ⟨_, pss_one (ps_ret (pe_and (pe_isiX S (by rfl) (by rfl) S.B.tup boot_tuple' (by decide) (pv 1) (by decide) (by decide)) (pe_one (pe_cmpR op_eq (pe_callB call_len_seq (by rfl) S.B.len PySem.boot_len (pa_cons (pv 1) pa_nil)) (pv 0) (nomark _))))), ?_⟩
    refine s_ret (ev_andV (b := gTO m u) (ev_isi (ev_var rfl) hat) fun q => ?_) fun H1 e => ?_
    · obtain ⟨us, rfl⟩ := isT_tup q
      obtain ⟨a, xs, rfl, ha, _, hl⟩ := at_tup hat
      have := ev_op (r := rEq) (σ := [some (V.int (m : Int)), some (V.ref a)]) (ev_lenT (K := K) (te := tVar 1) (ev_var rfl) ha) (ev_var (i := 0) rfl) (rv_eq rfl)
      rw [dec_eq, AtL.length hl] at this
      exact this
    · unfold gTO
      rw [tv_and]
      exact k H1 e
structure JTO (P : Program) (wd : World) (K : PySem.W.Frag) (mg : Str → Option Value) (base : Heap) (C : Addr) (f : Addr) (fd : FuncData) : Prop where
  D : Df K mg "is_tuple_of" sTO ["many", "thing"] f fd
  ok : FnOk P wd K mg base CX0 1 f fd ["many", "thing"] (spTO C)
theorem ev_TO {σ : L2.St} {H : Hp} {tm te : TE} {E : XK} {m : Nat} {v : V} {u : U} {w : Addr} (hm : Ev tm σ H (.int (m : Int))) (h : Ev te σ H v) (hat : At w C H v u) : Ev (tCall (spTO C) [] E (tCons tm (tCons te tNil))) σ H (.bl (gTO m u)) :=
  ev_call (ea_cons hm (ea_cons h ea_nil)) fun H1 e Q q E => ⟨m, v, u, w, rfl, ex_at e hat, q⟩
theorem gTO_of {m : Nat} {u : U} (h : gTO m u = true) : ∃ us, u = .tup us ∧ us.length = m := by
  cases u with
  | tup us => exact ⟨us, rfl, of_decide_eq_true h⟩
  | _ => cases h
theorem atl_get {w : Addr} {H : Hp} {xs : List V} {us : List U} (h : AtL w C H xs us) {k : Nat} (hk : k < us.length) : ∃ x, xs[k]? = some x ∧ At w C H x (us.getD k .non) := by
  obtain ⟨x, hx, ha⟩ := AtL.get h (List.getElem?_eq_getElem hk)
  refine ⟨x, hx, ?_⟩
  rw [getD_some (List.getElem?_eq_getElem hk)]
  exact ha
/-- an item of a tuple, with its data -/
theorem ev_nth {σ : L2.St} {H : Hp} {te : TE} {v : V} {u : U} {w : Addr} {m k : Nat} (h : Ev te σ H v) (hat : At w C H v u) (hm : gTO m u = true) (hk : k < m) : ∃ x, Ev (tOp (rIxT K) te (tC (.int (k : Int)))) σ H x ∧ At w C H x (nth u k) := by
  obtain ⟨us, rfl, rfl⟩ := gTO_of hm
  obtain ⟨a, xs, rfl, ha, _, hl⟩ := at_tup hat
  obtain ⟨x, hx, hax⟩ := atl_get hl hk
  exact ⟨x, ev_ixT h ha hx, hax⟩
theorem fine_nth {m k : Nat} {u : U} (hm : gTO m u = true) (hk : k < m) (fi : Fine u) : Fine (nth u k) := by
  obtain ⟨us, rfl, rfl⟩ := gTO_of hm
  show Fine (us.getD k .non)
  rw [getD_some (List.getElem?_eq_getElem hk)]
  exact fi.tup _ (List.getElem_mem hk)
theorem scAhead : FnScope ["thing"] ["thing"] (defScope sAhead) := ⟨rfl, rfl, rfl, by decide +kernel, rfl, by decide +kernel, by decide +kernel⟩
theorem jw_ahead {f f1 : Addr} {fd d1 : FuncData} (D : Df K mg "is_ahead" sAhead ["thing"] f fd) (S : Bs K mg C) (J : Jd P wd K mg base C 4 "is_members" "thing" f1 d1 gMembers) : Jw P wd K mg base C 5 "is_ahead" "thing" f fd okN gAhead := by
  refine ⟨D.F.ok scAhead lenJw (fun cdv A outer s H vs Q E hr h => ?_), D.g, D.F.kp, D.b⟩
  obtain ⟨v, u, w, rfl, hat, fi, hs, hw, k⟩ := h
  refine ⟨_, pss_one (ps_ret (pe_or (pe_cmpR (op_eqN (room_hu hr)) (pv 0) (pe_tup pa_nil) (nomark _)) (pe_one (pe_J J hr (by decide) (by rfl) pass0 (pv 0))))), ?_⟩
  exact s_ret (ev_orV (ev_opU (ev_var rfl) (eu_tup ea_nil (by decide)) fun q H1 hq e1 => rv_eqN ((nc_at S.q hat).ex e1) hq) fun _ => ev_J (ev_var rfl) hat fi) fun H1 e => k H1 e
theorem scVote : FnScope ["thing"] ["thing"] (defScope sVote) := ⟨rfl, rfl, rfl, by decide +kernel, rfl, by decide +kernel, by decide +kernel⟩
theorem jd_vote {f f1 f2 f3 : Addr} {fd d1 d2 d3 : FuncData} (D : Df K mg "is_vote" sVote ["thing"] f fd) (S : Bs K mg C) (JP : Jd P wd K mg base C 1 "is_pair" "thing" f1 d1 gPair) (JS : Jd P wd K mg base C 3 "is_stamp" "thing" f2 d2 gStamp)
    (JM : Jd P wd K mg base C 4 "is_members" "thing" f3 d3 gMembers) : Jd P wd K mg base C 5 "is_vote" "thing" f fd gVote := by
  refine ⟨D.F.ok scVote lenJ (fun cdv A outer s H vs Q E hr h => ?_), D.g, D.F.kp, D.b⟩
  obtain ⟨v, u, w, rfl, hat, fi, k⟩ := h
  refine ⟨_, pss_one (ps_ret (pe_or (pe_cmpR op_isN1 (pv 0) pe_non (nomark _)) (pe_one (pe_and (pe_J JP hr (by decide) (by rfl) pass0 (pv 0)) (pe_and (pe_J JS hr (by decide) (by rfl) pass0 (pe_ix ix_tup (pv 0) pe_int (fun _ _ => rfl))) (pe_one (pe_J JM hr (by decide) (by rfl) pass0 (pe_ix ix_tup (pv 0) pe_int (fun _ _ => rfl))))))))), ?_⟩
  refine s_ret (ev_orV (a := isNon u) (ev_is (ev_isN (ev_var rfl)) (by rw [at_non hat])) fun _ => ev_andV (b := tv u fun us => two us fun a b => gStamp a && gMembers b) (ev_J (ev_var rfl) hat fi) fun q => ?_) fun H1 e => ?_
  · obtain ⟨a, b, rfl⟩ := gPair_two q
    obtain ⟨p, x, y, rfl, hp, ha, hb⟩ := pair_at hat
    exact ev_andV (ev_J (ev_ixT (j := 0) (ev_var rfl) hp rfl) ha fi.fst) fun _ => ev_J (ev_ixT (j := 1) (ev_var rfl) hp rfl) hb fi.snd
  · rw [pair_and]
    exact k H1 e
theorem scNamed : FnScope ["thing"] ["thing"] (defScope sNamed) := ⟨rfl, rfl, rfl, by decide +kernel, rfl, by decide +kernel, by decide +kernel⟩
theorem jd_named {f f1 f2 f3 f4 : Addr} {fd d1 d2 d3 d4 : FuncData} (D : Df K mg "_is_named_head" sNamed ["thing"] f fd) (S : Bs K mg C) (JT : JTO P wd K mg base C f1 d1) (JN : Jd P wd K mg base C 2 "is_name" "thing" f2 d2 gNam)
    (JS : Jd P wd K mg base C 3 "is_stamp" "thing" f3 d3 gStamp) (JR : Jd P wd K mg base C 4 "is_row" "thing" f4 d4 gRow) : Jd P wd K mg base C 5 "_is_named_head" "thing" f fd gNamed := by
  refine ⟨D.F.ok scNamed lenJ (fun cdv A outer s H vs Q E hr h => ?_), D.g, D.F.kp, D.b⟩
  obtain ⟨v, u, w, rfl, hat, fi, k⟩ := h
  refine ⟨_, pss_one (ps_ret (pe_and (pe_call JT.ok (hr.mono (by decide)) (by rfl) JT.D.g JT.D.F.kp JT.D.b .nil pass0 (pa_cons pe_int (pa_cons (pv 0) pa_nil))) (pe_and (pe_J JN hr (by decide) (by rfl) pass0 (pe_ix ix_tup (pv 0) pe_int (fun _ _ => rfl)))
    (pe_and (pe_J JS hr (by decide) (by rfl) pass0 (pe_ix ix_tup (pv 0) pe_int (fun _ _ => rfl))) (pe_one (pe_J JR hr (by decide) (by rfl) pass0 (pe_ix ix_tup (pv 0) pe_int (fun _ _ => rfl)))))))), ?_⟩
  refine s_ret (ev_andV (a := gTO 3 u) (ev_TO (m := 3) ev_c (ev_var rfl) hat) fun q => ?_) fun H1 e => k H1 e
  obtain ⟨x0, e0, h0⟩ := ev_nth (K := K) (σ := [some v]) (te := tVar 0) (k := 0) (ev_var rfl) hat q (by decide)
  obtain ⟨x1, e1, h1⟩ := ev_nth (K := K) (σ := [some v]) (te := tVar 0) (k := 1) (ev_var rfl) hat q (by decide)
  obtain ⟨x2, e2, h2⟩ := ev_nth (K := K) (σ := [some v]) (te := tVar 0) (k := 2) (ev_var rfl) hat q (by decide)
  exact ev_andV (ev_J e0 h0 (fine_nth q (by decide) fi)) fun _ => ev_andV (ev_J e1 h1 (fine_nth q (by decide) fi)) fun _ => ev_J e2 h2 (fine_nth q (by decide) fi)
theorem scBlk : FnScope ["thing"] ["thing"] (defScope sBlk) := ⟨rfl, rfl, rfl, by decide +kernel, rfl, by decide +kernel, by decide +kernel⟩
theorem jd_blk {f f1 f2 f3 : Addr} {fd d1 d2 d3 : FuncData} (D : Df K mg "_is_block" sBlk ["thing"] f fd) (S : Bs K mg C) (JP : Jd P wd K mg base C 1 "is_pair" "thing" f1 d1 gPair) (JI : Jd P wd K mg base C 3 "is_block_id" "thing" f2 d2 gId)
    (JC : Jd P wd K mg base C 2 "is_piece" "thing" f3 d3 gPiece) : Jd P wd K mg base C 5 "_is_block" "thing" f fd gBlk := by
  refine ⟨D.F.ok scBlk lenJ (fun cdv A outer s H vs Q E hr h => ?_), D.g, D.F.kp, D.b⟩
  obtain ⟨v, u, w, rfl, hat, fi, k⟩ := h
  refine ⟨_, pss_one (ps_ret (pe_and (pe_J JP hr (by decide) (by rfl) pass0 (pv 0)) (pe_and (pe_J JI hr (by decide) (by rfl) pass0 (pe_ix ix_tup (pv 0) pe_int (fun _ _ => rfl))) (pe_one (pe_J JC hr (by decide) (by rfl) pass0 (pe_ix ix_tup (pv 0) pe_int (fun _ _ => rfl))))))), ?_⟩
  refine s_ret (ev_andV (ev_J (ev_var rfl) hat fi) fun q => ?_) fun H1 e => k H1 e
  obtain ⟨a, b, rfl⟩ := gPair_two q
  obtain ⟨p, x, y, rfl, hp, ha, hb⟩ := pair_at hat
  exact ev_andV (ev_J (ev_ixT (j := 0) (ev_var rfl) hp rfl) ha fi.fst) fun _ => ev_J (ev_ixT (j := 1) (ev_var rfl) hp rfl) hb fi.snd
end
end Hs
namespace Hs
open PySem PySem.Spec PyProof.Rows L2 Hu Evl
abbrev sTable : Stmt := topS 64
abbrev sKept : Stmt := topS 65
abbrev sLeases : Stmt := topS 66
abbrev sLease : Stmt := topS 67
def gLease (u : U) : Bool := gTO 4 u && (gNam (nth u 0) && gHand (nth u 1)) && (gCnt (nth u 2) && gCnt (nth u 3))
def keyL (u : U) : List L2.Key := [keyU (nth u 0), keyU (nth u 1)]
def gLeases (u : U) : Bool := tv u fun us => us.all gLease && ascK (us.map keyL)
theorem gNam_str {u : U} (h : gNam u = true) : ∃ z, u = .str z := by
  cases u with
  | str z => exact ⟨z, rfl⟩
  | _ => cases h
theorem and3 {a b c : Bool} (h : (a && (b && c)) = true) : a = true ∧ b = true ∧ c = true := by
  rw [Bool.and_eq_true, Bool.and_eq_true] at h
  exact h
theorem and2 {a b : Bool} (h : (a && b) = true) : a = true ∧ b = true := by
  rw [Bool.and_eq_true] at h
  exact h
section
variable {P : Program} {wd : World} {K : PySem.W.Frag} {mg : Str → Option Value} {base : Heap} {C : Addr}
theorem isB_str {vs : List U} {z : Str} (h : vs.getD 0 .non = .str z) : isB vs = false := by
  cases vs with
  | nil => cases h
  | cons v r =>
    have h' : v = .str z := h
    rw [h']
    exact isB_first rfl
theorem names_at {w : Addr} {H : Hp} : ∀ {us : List U} {xs : List V}, AtL w C H xs us → us.all gNamed = true → ∀ (i : Nat) (x : V), xs[i]? = some x → ∃ p ys, x = .ref p ∧ H p = some (.tup ys) ∧ ys[0]? = some (.str ((us.map fun u => strU (nth u 0)).getD i e0z))
  | [], _, .nil, _, i, x, h => by simp at h
  | u :: us, _, .cons hu l, q, i, x, h => by
    rw [List.all_cons] at q
    obtain ⟨q1, q2⟩ := and2 q
    cases i with
    | zero =>
      cases h
      obtain ⟨a1, a2, _⟩ := and3 (a := gTO 3 u) (b := gNam (nth u 0)) (c := gStamp (nth u 1) && gRow (nth u 2)) q1
      obtain ⟨vs, rfl, hl⟩ := gTO_of a1
      obtain ⟨p, ys, rfl, hp, _, hys⟩ := at_tup hu
      obtain ⟨y, hy, hay⟩ := atl_get hys (k := 0) (by omega)
      obtain ⟨z, hz⟩ := gNam_str a2
      have hz' : vs.getD 0 .non = .str z := hz
      rw [hz'] at hay
      rw [at_str hay] at hy
      refine ⟨p, ys, rfl, hp.plain (isB_str hz'), ?_⟩
      rw [hy]
      show some (V.str z) = some (V.str (strU (vs.getD 0 .non)))
      rw [hz']
      rfl
    | succ i => exact names_at l q2 i x h
theorem scHeads : FnScope ["thing", "item"] ["thing"] (defScope sHeads) := ⟨rfl, rfl, rfl, by decide +kernel, rfl, by decide +kernel, by decide +kernel⟩
theorem range_names (zs : List Str) (n : Nat) (h : n = zs.length) : (List.range n).map (fun i => V.str (zs.getD i e0z)) = zs.map V.str := by
  subst h
  refine List.ext_getElem? fun j => ?_
  rw [List.getElem?_map, List.getElem?_map]
  by_cases q : j < zs.length
  · rw [List.getElem?_range q, List.getElem?_eq_getElem q]
    show some (V.str (zs.getD j e0z)) = _
    rw [getD_some (List.getElem?_eq_getElem q)]
    rfl
  · rw [List.getElem?_eq_none (by simpa using q), List.getElem?_eq_none (by simpa using q)]
    rfl
theorem jw_heads {f f1 f2 : Addr} {fd d1 d2 : FuncData} (D : Df K mg "is_heads" sHeads ["thing"] f fd) (S : Bs K mg C) (J : Jd P wd K mg base C 5 "_is_named_head" "thing" f1 d1 gNamed) (DA : Df K mg "is_ascending" sAscending ["things"] f2 d2) :
    Jw P wd K mg base C 6 "is_heads" "thing" f fd Sm gHeads := by
  refine ⟨D.F.ok scHeads lenJw (fun cdv A outer s H vs Q E hr h => ?_), D.g, D.F.kp, D.b⟩
  obtain ⟨v, u, w, rfl, hat, fi, hs, hw, k⟩ := h
  have GA : FnOk P wd K mg base CX0 5 f2 d2 ["things"] (spAscG K (rIxL K) rLtS) := (ok_ascZ DA.F S.B).mono (by decide)
  refine ⟨_, pss_cons (ps_if (PW.pt (pw_or (pt_not (pt_val (pe_isiX S (by rfl) (by rfl) S.B.tup boot_tuple' (by decide) (pv 0) (by decide) (by decide))))
      (pw_or1 (pt_not (pt_val (pe_callB (cr_all rfl) (by rfl) S.B.all boot_all' (pa_cons (pe_lc (own := [("item", 1)]) (g := gName 1) (tt := tYes) rfl scHeads.nd (pi_tup (pv 0)) (blkOk_by (N := ["thing", "item"]) (sc := defScope sHeads) (by decide +kernel))
        (fun _ _ _ _ _ => pg_name (i := 1) scHeads.nd rfl (Or.inl rfl)) (fun _ _ _ _ _ => pts_nil) (fun _ _ _ _ _ => pe_J J hr (by decide) (by rfl) pass0 (pv 1))) pa_nil)))))))
      (pss_one (ps_ret pe_bl)) pss_nil)
    (pss_one (ps_ret (pe_call GA (hr.mono (by decide)) (by rfl) DA.g DA.F.kp DA.b .nil pass0 (pa_cons (pe_lc (own := [("item", 1)]) (g := gName 1) (tt := tYes) rfl scHeads.nd (pi_tup (pv 0)) (blkOk_by (N := ["thing", "item"]) (sc := defScope sHeads) (by decide +kernel))
        (fun _ _ _ _ _ => pg_name (i := 1) scHeads.nd rfl (Or.inl rfl)) (fun _ _ _ _ _ => pts_nil) (fun _ _ _ _ _ => pe_ix (show IxR _ (rIxT K) from ix_tup) (pv 1) pe_int (fun _ _ => rfl))) pa_nil)))), ?_⟩
  refine s_if (b := !isT u "tuple" || !(tv u fun us => us.all gNamed)) (et_or (et_not (et_B (ev_isi (ev_var rfl) hat))) fun q => ?_) (fun q H1 e => ?_) (fun q H1 e => ?_)
  · rw [Bool.not_eq_false'] at q
    obtain ⟨us, rfl⟩ := isT_tup q
    obtain ⟨a, xs, rfl, ha, _, hl⟩ := at_tup hat
    exact et_not (et_B (ev_allT (g := gNamed) (ev_var rfl) ha fi.len hl (fun _ => rfl) fun x u hu hx => ev_J (ev_var rfl) hx (fi.tup u hu)))
  · refine s_ret ev_c fun H2 e2 => ?_
    have e3 : gHeads u = false := by
      cases u with
      | tup us =>
        simp [isT, isS, tyU, tv] at q
        show (us.all gNamed && _) = false
        rw [Bool.and_eq_false_iff]
        exact .inl (by simpa using q)
      | _ => rfl
    rw [← e3]
    exact k H2 (e.trans e2)
  · rw [Bool.or_eq_false_iff, Bool.not_eq_false', Bool.not_eq_false'] at q
    obtain ⟨us, rfl⟩ := isT_tup q.1
    have q2 : us.all gNamed = true := q.2
    obtain ⟨a, xs, rfl, ha, _, hl⟩ := at_tup (ex_at e hat)
    have hlen := AtL.length hl
    dsimp only [tNext]
    refine s_ret (ev_callL1 (xs := (us.map fun u => strU (nth u 0)).map V.str) (z := .bl (ascZ (us.map fun u => strU (nth u 0)))) ?_ fun p H2 h2 e2 Q q E => asc_strL h2 (by rw [List.length_map]; exact Sm.len hs) Q q E) fun H2 e2 => ?_
    · rw [← range_names _ xs.length (by rw [List.length_map]; exact hlen)]
      exact el_mapX _ (ev_var rfl) ha (by rw [hlen]; exact Sm.len hs) (fun _ => rfl) fun i x hx => by
        obtain ⟨p, ys, rfl, hp, hy⟩ := names_at hl q2 i x hx
        exact ev_ixP (j := 0) (ev_var rfl) hp hy
    · have e3 : gHeads (.tup us) = ascZ (us.map fun u => strU (nth u 0)) := by
        show (us.all gNamed && _) = _
        rw [q2]
        rfl
      rw [← e3]
      exact k H2 (e.trans e2)
/-- a call with a new list of which something is known -/
theorem ev_callX {sp : Sp} {E : XK} {z : V} {te : TE} {σ : L2.St} {H : Hp} {R : List V → Hp → Prop} (h : ∀ H0, Ex H H0 → ∀ Q : VK, (∀ p ys H', H0 p = none → Ex H0 H' → H' p = some (.lst ys) → R ys H' → Q (.ref p) H') → te σ H0 Q)
    (hs : ∀ p ys H1, H1 p = some (.lst ys) → R ys H1 → ∀ Q : VK, (∀ H2, Ex H1 H2 → Q z H2) → ∀ E, sp [.ref p] H1 Q E) : Ev (tCall sp [] E (tCons te tNil)) σ H z :=
  fun H0 e Q q => h H0 e _ fun p ys H1 hp e1 h1 r => hs p ys H1 h1 r Q (fun H2 e2 => q H2 (e1.trans e2)) _
theorem scBlocks : FnScope ["thing", "item"] ["thing"] (defScope sBlocks) := ⟨rfl, rfl, rfl, by decide +kernel, rfl, by decide +kernel, by decide +kernel⟩
theorem gHand_int {u : U} (h : gHand u = true) : ∃ i, u = .int i := by
  cases u with
  | int i => exact ⟨i, rfl⟩
  | _ => cases h
theorem gFrom_int {u : U} (h : gFrom u = true) : ∃ i, u = .int i := by
  cases u with
  | int i => exact ⟨i, rfl⟩
  | _ => cases h
theorem gId_two {u : U} (h : gId u = true) : ∃ i j, u = .tup [.int i, .int j] := by
  cases u with
  | tup us =>
    match us, h with
    | [a, b], h =>
      obtain ⟨h1, h2⟩ := and2 (a := gHand a) (b := gFrom b) h
      obtain ⟨i, rfl⟩ := gHand_int h1
      obtain ⟨j, rfl⟩ := gFrom_int h2
      exact ⟨i, j, rfl⟩
  | _ => cases h
theorem two_ints {w : Addr} {H : Hp} {v : V} {i j : Int} (h : At w C H v (.tup [.int i, .int j])) : ∃ p, v = .ref p ∧ H p = some (.tup [.int i, .int j]) := by
  obtain ⟨p, x, y, rfl, hp, hx, hy⟩ := pair_at h
  rw [at_int hx, at_int hy] at hp
  exact ⟨p, rfl, hp⟩
theorem gBlk_is {u : U} (h : gBlk u = true) : ∃ i j b, u = .tup [.tup [.int i, .int j], b] := by
  obtain ⟨h1, h2, _⟩ := and3 h
  obtain ⟨a, b, rfl⟩ := gPair_two h1
  obtain ⟨i, j, e⟩ := gId_two h2
  have e' : a = .tup [.int i, .int j] := e
  exact ⟨i, j, b, by rw [e']⟩
theorem kin_blks {us : List U} (h : us.all gBlk = true) : kinK (us.map fun u => keysU (nth u 0)) := fun ks h1 ls h2 => by
  obtain ⟨u, hu, rfl⟩ := List.mem_map.mp h1
  obtain ⟨x, hx, rfl⟩ := List.mem_map.mp h2
  obtain ⟨i, j, b, rfl⟩ := gBlk_is (List.all_eq_true.mp h u hu)
  obtain ⟨i', j', b', rfl⟩ := gBlk_is (List.all_eq_true.mp h x hx)
  rfl
theorem jw_blocks {f f1 f2 : Addr} {fd d1 d2 : FuncData} (D : Df K mg "is_blocks" sBlocks ["thing"] f fd) (S : Bs K mg C) (J : Jd P wd K mg base C 5 "_is_block" "thing" f1 d1 gBlk) (DA : Df K mg "is_ascending" sAscending ["things"] f2 d2) :
    Jw P wd K mg base C 6 "is_blocks" "thing" f fd Sm gBlocks := by
  refine ⟨D.F.ok scBlocks lenJw (fun cdv A outer s H vs Q E hr h => ?_), D.g, D.F.kp, D.b⟩
  obtain ⟨v, u, w, rfl, hat, fi, hs, hw, k⟩ := h
  have GA : FnOk P wd K mg base CX0 5 f2 d2 ["things"] (spAscG K (rIxL K) (Hk.rLtK K)) := (ok_ascK DA.F S.B).mono (by decide)
  refine ⟨_, pss_cons (ps_if (PW.pt (pw_or (pt_not (pt_val (pe_isiX S (by rfl) (by rfl) S.B.tup boot_tuple' (by decide) (pv 0) (by decide) (by decide))))
      (pw_or1 (pt_not (pt_val (pe_callB (cr_all rfl) (by rfl) S.B.all boot_all' (pa_cons (pe_lc (own := [("item", 1)]) (g := gName 1) (tt := tYes) rfl scBlocks.nd (pi_tup (pv 0)) (blkOk_by (N := ["thing", "item"]) (sc := defScope sBlocks) (by decide +kernel))
        (fun _ _ _ _ _ => pg_name (i := 1) scBlocks.nd rfl (Or.inl rfl)) (fun _ _ _ _ _ => pts_nil) (fun _ _ _ _ _ => pe_J J hr (by decide) (by rfl) pass0 (pv 1))) pa_nil)))))))
      (pss_one (ps_ret pe_bl)) pss_nil)
    (pss_one (ps_ret (pe_call GA (hr.mono (by decide)) (by rfl) DA.g DA.F.kp DA.b .nil pass0 (pa_cons (pe_lc (own := [("item", 1)]) (g := gName 1) (tt := tYes) rfl scBlocks.nd (pi_tup (pv 0)) (blkOk_by (N := ["thing", "item"]) (sc := defScope sBlocks) (by decide +kernel))
        (fun _ _ _ _ _ => pg_name (i := 1) scBlocks.nd rfl (Or.inl rfl)) (fun _ _ _ _ _ => pts_nil) (fun _ _ _ _ _ => pe_ix (show IxR _ (rIxT K) from ix_tup) (pv 1) pe_int (fun _ _ => rfl))) pa_nil)))), ?_⟩
  refine s_if (b := !isT u "tuple" || !(tv u fun us => us.all gBlk)) (et_or (et_not (et_B (ev_isi (ev_var rfl) hat))) fun q => ?_) (fun q H1 e => ?_) (fun q H1 e => ?_)
  · rw [Bool.not_eq_false'] at q
    obtain ⟨us, rfl⟩ := isT_tup q
    obtain ⟨a, xs, rfl, ha, _, hl⟩ := at_tup hat
    exact et_not (et_B (ev_allT (g := gBlk) (ev_var rfl) ha fi.len hl (fun _ => rfl) fun x u hu hx => ev_J (ev_var rfl) hx (fi.tup u hu)))
  · refine s_ret ev_c fun H2 e2 => ?_
    have e3 : gBlocks u = false := by
      cases u with
      | tup us =>
        simp [isT, isS, tyU, tv] at q
        show (us.all gBlk && _) = false
        rw [Bool.and_eq_false_iff]
        exact .inl (by simpa using q)
      | _ => rfl
    rw [← e3]
    exact k H2 (e.trans e2)
  · rw [Bool.or_eq_false_iff, Bool.not_eq_false', Bool.not_eq_false'] at q
    obtain ⟨us, rfl⟩ := isT_tup q.1
    have q2 : us.all gBlk = true := q.2
    obtain ⟨a, xs, rfl, ha, _, hl⟩ := at_tup (ex_at e hat)
    dsimp only [tNext]
    refine s_ret (v := .bl (ascK (us.map fun u => keysU (nth u 0)))) (ev_callX (R := fun ys G => TkL G ys (us.map fun u => keysU (nth u 0))) (lc_newK (K := K) (tl := tVar 0) (j := 1) (vs := [1]) (σ := [some (.ref a), none]) (f := fun u => keysU (nth u 0)) (ev_var rfl) ha (Sm.len hs) hl (fun _ => rfl) (fun x u G hu eg hx Q q => ?_)) fun p ys H3 h3 ht Q q E =>
      asc_tkL h3 ht (kin_blks q2) (by rw [List.length_map]; exact Sm.len hs) Q q E) fun H2 e2 => ?_
    · obtain ⟨i, j, b, rfl⟩ := gBlk_is (List.all_eq_true.mp q2 u hu)
      obtain ⟨p, x1, y1, rfl, hp, hx1, _⟩ := pair_at hx
      obtain ⟨p1, rfl, hp1⟩ := two_ints hx1
      exact ev_ixT (K := K) (j := 0) (te := tVar 1) (ev_var rfl) hp rfl G (Ex.refl G) Q fun H5 e5 => q p1 H5 e5 (e5 _ _ hp1)
    · have e3 : gBlocks (.tup us) = ascK (us.map fun u => keysU (nth u 0)) := by
        show (us.all gBlk && _) = _
        rw [q2]
        rfl
      rw [← e3]
      exact k H2 (e.trans e2)
end
end Hs
namespace Hs
open PySem PySem.Spec PyProof.Rows L2 Hu Evl
section
variable {P : Program} {wd : World} {K : PySem.W.Frag} {mg : Str → Option Value} {base : Heap} {C : Addr}
theorem scLease : FnScope ["thing"] ["thing"] (defScope sLease) := ⟨rfl, rfl, rfl, by decide +kernel, rfl, by decide +kernel, by decide +kernel⟩
theorem jd_lease {f f1 f2 f3 f4 : Addr} {fd d1 d2 d3 d4 : FuncData} (D : Df K mg "_is_lease" sLease ["thing"] f fd) (S : Bs K mg C) (JT : JTO P wd K mg base C f1 d1) (JN : Jd P wd K mg base C 2 "is_name" "thing" f2 d2 gNam)
    (JH : Jd P wd K mg base C 2 "is_hand" "thing" f3 d3 gHand) (JC : Jd P wd K mg base C 2 "is_count" "thing" f4 d4 gCnt) : Jd P wd K mg base C 3 "_is_lease" "thing" f fd gLease := by
  refine ⟨D.F.ok scLease lenJ (fun cdv A outer s H vs Q E hr h => ?_), D.g, D.F.kp, D.b⟩
  obtain ⟨v, u, w, rfl, hat, fi, k⟩ := h
  refine ⟨_, pss_cons (ps_if (PW.pt (pw_or (pt_not (pt_val (pe_call JT.ok (hr.mono (by decide)) (by rfl) JT.D.g JT.D.F.kp JT.D.b .nil pass0 (pa_cons pe_int (pa_cons (pv 0) pa_nil)))))
      (pw_or (pt_not (pt_val (pe_J JN hr (by decide) (by rfl) pass0 (pe_ix ix_tup (pv 0) pe_int (fun _ _ => rfl))))) (pw_or1 (pt_not (pt_val (pe_J JH hr (by decide) (by rfl) pass0 (pe_ix ix_tup (pv 0) pe_int (fun _ _ => rfl)))))))))
      (pss_one (ps_ret pe_bl)) pss_nil)
    (pss_one (ps_ret (pe_and (pe_J JC hr (by decide) (by rfl) pass0 (pe_ix ix_tup (pv 0) pe_int (fun _ _ => rfl))) (pe_one (pe_J JC hr (by decide) (by rfl) pass0 (pe_ix ix_tup (pv 0) pe_int (fun _ _ => rfl))))))), ?_⟩
  refine s_if (b := !gTO 4 u || (!gNam (nth u 0) || !gHand (nth u 1))) (et_or (et_not (et_B (ev_TO (m := 4) ev_c (ev_var rfl) hat))) fun q => ?_) (fun q H1 e => ?_) (fun q H1 e => ?_)
  · rw [Bool.not_eq_false'] at q
    obtain ⟨x0, e0, h0⟩ := ev_nth (K := K) (σ := [some v]) (te := tVar 0) (k := 0) (ev_var rfl) hat q (by decide)
    obtain ⟨x1, e1, h1⟩ := ev_nth (K := K) (σ := [some v]) (te := tVar 0) (k := 1) (ev_var rfl) hat q (by decide)
    exact et_or (et_not (et_B (ev_J e0 h0 (fine_nth q (by decide) fi)))) fun _ => et_not (et_B (ev_J e1 h1 (fine_nth q (by decide) fi)))
  · refine s_ret ev_c fun H2 e2 => ?_
    have e4 : gLease u = false := by
      unfold gLease
      revert q
      cases gTO 4 u <;> cases gNam (nth u 0) <;> cases gHand (nth u 1) <;> simp
    rw [← e4]
    exact k H2 (e.trans e2)
  · have q' : gTO 4 u = true ∧ gNam (nth u 0) = true ∧ gHand (nth u 1) = true := by
      revert q
      cases gTO 4 u <;> cases gNam (nth u 0) <;> cases gHand (nth u 1) <;> simp
    obtain ⟨q1, q2, q3⟩ := q'
    have hat1 := ex_at e hat
    obtain ⟨x2, e2, h2⟩ := ev_nth (K := K) (σ := [some v]) (te := tVar 0) (k := 2) (ev_var rfl) hat1 q1 (by decide)
    obtain ⟨x3, e3, h3⟩ := ev_nth (K := K) (σ := [some v]) (te := tVar 0) (k := 3) (ev_var rfl) hat1 q1 (by decide)
    dsimp only [tNext]
    refine s_ret (ev_andV (ev_J e2 h2 (fine_nth q1 (by decide) fi)) fun _ => ev_J e3 h3 (fine_nth q1 (by decide) fi)) fun H2 e2 => ?_
    have e4 : gLease u = (gCnt (nth u 2) && gCnt (nth u 3)) := by
      unfold gLease
      rw [q1, q2, q3]
      rfl
    rw [← e4]
    exact k H2 (e.trans e2)
theorem gLease_is {u : U} (h : gLease u = true) : ∃ z i t n, u = .tup [.str z, .int i, .int t, .int n] := by
  obtain ⟨h1, h2⟩ := and2 (a := gTO 4 u && (gNam (nth u 0) && gHand (nth u 1))) h
  obtain ⟨h3, h4, h5⟩ := and3 h1
  obtain ⟨h6, h7⟩ := and2 h2
  obtain ⟨us, rfl, hl⟩ := gTO_of h3
  match us, hl with
  | [a, b, c, d], _ =>
    obtain ⟨z, rfl⟩ := gNam_str (u := a) h4
    obtain ⟨i, rfl⟩ := gHand_int (u := b) h5
    cases c <;> cases d <;> first | exact ⟨_, _, _, _, rfl⟩ | cases h6 | cases h7
theorem kin_leases {us : List U} (h : us.all gLease = true) : kinK (us.map keyL) := fun ks h1 ls h2 => by
  obtain ⟨u, hu, rfl⟩ := List.mem_map.mp h1
  obtain ⟨x, hx, rfl⟩ := List.mem_map.mp h2
  obtain ⟨z, i, t, n, rfl⟩ := gLease_is (List.all_eq_true.mp h u hu)
  obtain ⟨z', i', t', n', rfl⟩ := gLease_is (List.all_eq_true.mp h x hx)
  rfl
theorem four_at {w : Addr} {H : Hp} {v : V} {z : Str} {i t n : Int} (h : At w C H v (.tup [.str z, .int i, .int t, .int n])) : ∃ p, v = .ref p ∧ H p = some (.tup [.str z, .int i, .int t, .int n]) := by
  obtain ⟨p, xs, rfl, hp, _, hl⟩ := at_tup h
  cases hl with
  | cons h1 hl => cases hl with
    | cons h2 hl => cases hl with
      | cons h3 hl => cases hl with
        | cons h4 hl => cases hl with
          | nil =>
            rw [at_str h1, at_int h2, at_int h3, at_int h4] at hp
            exact ⟨p, rfl, hp⟩
theorem scLeases : FnScope ["thing", "item"] ["thing"] (defScope sLeases) := ⟨rfl, rfl, rfl, by decide +kernel, rfl, by decide +kernel, by decide +kernel⟩
theorem jw_leases {f f1 f2 : Addr} {fd d1 d2 : FuncData} (D : Df K mg "_are_leases" sLeases ["thing"] f fd) (S : Bs K mg C) (J : Jd P wd K mg base C 3 "_is_lease" "thing" f1 d1 gLease) (DA : Df K mg "is_ascending" sAscending ["things"] f2 d2) :
    Jw P wd K mg base C 6 "_are_leases" "thing" f fd Sm gLeases := by
  refine ⟨D.F.ok scLeases lenJw (fun cdv A outer s H vs Q E hr h => ?_), D.g, D.F.kp, D.b⟩
  obtain ⟨v, u, w, rfl, hat, fi, hs, hw, k⟩ := h
  have GA : FnOk P wd K mg base CX0 5 f2 d2 ["things"] (spAscG K (rIxL K) (Hk.rLtK K)) := (ok_ascK DA.F S.B).mono (by decide)
  refine ⟨_, pss_cons (ps_if (PW.pt (pw_or (pt_not (pt_val (pe_isiX S (by rfl) (by rfl) S.B.tup boot_tuple' (by decide) (pv 0) (by decide) (by decide))))
      (pw_or1 (pt_not (pt_val (pe_callB (cr_all rfl) (by rfl) S.B.all boot_all' (pa_cons (pe_lc (own := [("item", 1)]) (g := gName 1) (tt := tYes) rfl scLeases.nd (pi_tup (pv 0)) (blkOk_by (N := ["thing", "item"]) (sc := defScope sLeases) (by decide +kernel))
        (fun _ _ _ _ _ => pg_name (i := 1) scLeases.nd rfl (Or.inl rfl)) (fun _ _ _ _ _ => pts_nil) (fun _ _ _ _ _ => pe_J J hr (by decide) (by rfl) pass0 (pv 1))) pa_nil)))))))
      (pss_one (ps_ret pe_bl)) pss_nil)
    (pss_one (ps_ret (pe_call GA (hr.mono (by decide)) (by rfl) DA.g DA.F.kp DA.b .nil pass0 (pa_cons (pe_lc (own := [("item", 1)]) (g := gName 1) (tt := tYes) rfl scLeases.nd (pi_tup (pv 0)) (blkOk_by (N := ["thing", "item"]) (sc := defScope sLeases) (by decide +kernel))
        (fun _ _ _ _ _ => pg_name (i := 1) scLeases.nd rfl (Or.inl rfl)) (fun _ _ _ _ _ => pts_nil) (fun _ _ _ _ _ => pe_slice (show SlR _ (rSlA K) from sl_tupA) (pv 1) po_none (po_some pe_int))) pa_nil)))), ?_⟩
  refine s_if (b := !isT u "tuple" || !(tv u fun us => us.all gLease)) (et_or (et_not (et_B (ev_isi (ev_var rfl) hat))) fun q => ?_) (fun q H1 e => ?_) (fun q H1 e => ?_)
  · rw [Bool.not_eq_false'] at q
    obtain ⟨us, rfl⟩ := isT_tup q
    obtain ⟨a, xs, rfl, ha, _, hl⟩ := at_tup hat
    exact et_not (et_B (ev_allT (g := gLease) (ev_var rfl) ha fi.len hl (fun _ => rfl) fun x u hu hx => ev_J (ev_var rfl) hx (fi.tup u hu)))
  · refine s_ret ev_c fun H2 e2 => ?_
    have e3 : gLeases u = false := by
      cases u with
      | tup us =>
        simp [isT, isS, tyU, tv] at q
        show (us.all gLease && _) = false
        rw [Bool.and_eq_false_iff]
        exact .inl (by simpa using q)
      | _ => rfl
    rw [← e3]
    exact k H2 (e.trans e2)
  · rw [Bool.or_eq_false_iff, Bool.not_eq_false', Bool.not_eq_false'] at q
    obtain ⟨us, rfl⟩ := isT_tup q.1
    have q2 : us.all gLease = true := q.2
    obtain ⟨a, xs, rfl, ha, _, hl⟩ := at_tup (ex_at e hat)
    dsimp only [tNext]
    refine s_ret (v := .bl (ascK (us.map keyL))) (ev_callX (R := fun ys G => TkL G ys (us.map keyL)) (lc_newK (K := K) (tl := tVar 0) (j := 1) (vs := [1]) (σ := [some (.ref a), none]) (f := keyL) (ev_var rfl) ha (Sm.len hs) hl (fun _ => rfl) (fun x u G hu eg hx Q q => ?_)) fun p ys H3 h3 ht Q q E =>
      asc_tkL h3 ht (kin_leases q2) (by rw [List.length_map]; exact Sm.len hs) Q q E) fun H2 e2 => ?_
    · obtain ⟨z, i, t, n, rfl⟩ := gLease_is (List.all_eq_true.mp q2 u hu)
      obtain ⟨p, rfl, hp⟩ := four_at hx
      refine ⟨_, rfl, 2, rfl, p, _, rfl, st_of hp, fun h => absurd h.2 (show ¬ (HT.sIx 4 4 (some 2) = 4) from by decide), fun _ p' hp' => q p' _ (Ex.new hp') ?_⟩
      rw [upd_same]
      rfl
    · have e3 : gLeases (.tup us) = ascK (us.map keyL) := by
        show (us.all gLease && _) = _
        rw [q2]
        rfl
      rw [← e3]
      exact k H2 (e.trans e2)
end
end Hs
namespace Hs
open PySem PySem.Spec PyProof.Rows L2 Hu Evl
def gKept (u : U) : Bool := gMembers (nth u 0) && (gAhead (nth u 1) && (gHeads (nth u 2) && gBlocks (nth u 3)))
structure OkK (u : U) : Prop where
  t : gTO 4 u = true
  a : okN (nth u 1)
  h : Sm (nth u 2)
  b : Sm (nth u 3)
section
variable {P : Program} {wd : World} {K : PySem.W.Frag} {mg : Str → Option Value} {base : Heap} {C : Addr}
theorem four_of {u : U} (h : gTO 4 u = true) : ∃ a b c d, u = .tup [a, b, c, d] := by
  obtain ⟨us, rfl, hl⟩ := gTO_of h
  match us, hl with
  | [a, b, c, d], _ => exact ⟨a, b, c, d, rfl⟩
theorem atl_four {w : Addr} {H : Hp} {xs : List V} {a b c d : U} (h : AtL w C H xs [a, b, c, d]) : ∃ x y z t, xs = [x, y, z, t] ∧ At w C H x a ∧ At w C H y b ∧ At w C H z c ∧ At w C H t d := by
  cases h with
  | cons h1 h => cases h with
    | cons h2 h => cases h with
      | cons h3 h => cases h with
        | cons h4 h => cases h with
          | nil => exact ⟨_, _, _, _, rfl, h1, h2, h3, h4⟩
theorem scKept : FnScope ["parts", "members", "ahead", "heads", "blocks"] ["parts"] (defScope sKept) := ⟨rfl, rfl, rfl, by decide +kernel, rfl, by decide +kernel, by decide +kernel⟩
theorem jw_kept {f f1 f2 f3 f4 : Addr} {fd d1 d2 d3 d4 : FuncData} (D : Df K mg "_are_kept" sKept ["parts"] f fd) (S : Bs K mg C) (JM : Jd P wd K mg base C 4 "is_members" "thing" f1 d1 gMembers) (JA : Jw P wd K mg base C 5 "is_ahead" "thing" f2 d2 okN gAhead)
    (JH : Jw P wd K mg base C 6 "is_heads" "thing" f3 d3 Sm gHeads) (JB : Jw P wd K mg base C 6 "is_blocks" "thing" f4 d4 Sm gBlocks) : Jw P wd K mg base C 7 "_are_kept" "parts" f fd OkK gKept := by
  refine ⟨D.F.ok scKept lenJw (fun cdv A outer s H vs Q E hr h => ?_), D.g, D.F.kp, D.b⟩
  obtain ⟨v, u, w, rfl, hat, fi, hs, hw, k⟩ := h
  refine ⟨_, pss_cons (ps_asg (pv 0) (pg_tup rfl (pgs_cons (pg_name (i := 1) scKept.nd rfl (.inl rfl)) (pgs_cons (pg_name (i := 2) scKept.nd rfl (.inl rfl)) (pgs_cons (pg_name (i := 3) scKept.nd rfl (.inl rfl)) (pgs_cons (pg_name (i := 4) scKept.nd rfl (.inl rfl)) pgs_nil))))))
    (pss_one (ps_ret (pe_and (pe_J JM hr (by decide) (by rfl) pass0 (pv 1)) (pe_and (pe_Jw JA hr (by decide) (by rfl) pass0 (pv 2)) (pe_and (pe_Jw JH hr (by decide) (by rfl) pass0 (pv 3)) (pe_one (pe_Jw JB hr (by decide) (by rfl) pass0 (pv 4)))))))), ?_⟩
  obtain ⟨a, b, c, d, rfl⟩ := four_of hs.t
  obtain ⟨p, xs, rfl, hp, _, hl⟩ := at_tup hat
  obtain ⟨x, y, z, t, rfl, h1, h2, h3, h4⟩ := atl_four hl
  refine ⟨_, rfl, p, _, rfl, Tu.st hp, rfl, x, _, rfl, y, _, rfl, z, _, rfl, t, _, rfl, rfl, ?_⟩
  dsimp only [gName]
  exact s_ret (ev_andV (ev_J (ev_var rfl) h1 (fi.tup a (by simp))) fun _ => ev_andV (ev_Jw (ev_var rfl) h2 (fi.tup b (by simp)) hs.a hw) fun _ => ev_andV (ev_Jw (ev_var rfl) h3 (fi.tup c (by simp)) hs.h hw) fun _ => ev_Jw (ev_var rfl) h4 (fi.tup d (by simp)) hs.b hw) k
end
end Hs
namespace Hu
open PySem PySem.Spec PyProof.Rows L2
/-- a new tuple of xs, as it pleases: open, or locked -/
def NewT (H : Hp) (xs : List V) (Q : VK) : Prop := ∀ p, H p = none → Q (.ref p) (upd H p (.tup xs)) ∨ ∀ o : Obj, o.dict = none → Q (.ref p) (upd H p (.frz o (.tup xs)))
section
variable {X : Cx} {pins : List (Addr × Obj)} {σ : L2.St} {H : Hp} {s : Shared} {Q : VK} {xs : List V} {its : List Value}
theorem newT_at (I : Inv X pins σ H s) (z : xs.length ≤ sizeLine) (r : Vals xs its) (n : NewT H xs Q) :
    EP X pins σ Q (.ref s.heap.objs.size) { s with heap := s.heap.push { cls := .type "tuple", data := .seq its.toArray } } := by
  have new : s.heap.objs.size ≤ s.heap.objs.size := Nat.le_refl _
  have got : (s.heap.push { cls := .type "tuple", data := .seq its.toArray }).get? s.heap.objs.size = some { cls := .type "tuple", data := .seq its.toArray } := Heap.get?_push_size _ rfl
  have it : IsTup (s.heap.push { cls := .type "tuple", data := .seq its.toArray }) s.heap.objs.size its.toArray := IsTup.new _ _
  have keep : ∀ (b : Addr) (u : Obj), s.heap.get? b = some u → (s.heap.push { cls := .type "tuple", data := .seq its.toArray }).get? b = some u := fun b u e => Heap.get?_push_of_some _ e
  rcases n _ (I.hok.fresh new) with q | q
  · exact ⟨.ref _, _, I.laid (t' := s.toks) (o := .tup xs) keep new ⟨z, its, r, it⟩, rfl, q⟩
  · exact ⟨.ref _, _, I.laid (t' := s.toks) (o := .frz _ (.tup xs)) keep new ⟨got, z, its, r, it⟩, rfl, q _ rfl⟩
variable {es : List Expr} {t : TA} {pos : Pos}
/-- (a, b) -/
def tTupF (t : TA) : TE := fun σ H Q => t σ H fun xs H1 => xs.length ≤ sizeLine ∧ NewT H1 xs Q
theorem pe_tupF {x1} (h : PA X es t) : PE X (.Tuple es x1 pos) (tTupF t) := by
  constructor
  intro pins s σ H Q I hq
  refine wpAny_Tuple_spliced (thn (h.run pos pins s σ H _ I hq) fun us s1 ⟨xs, H1, I1, r, z, q⟩ => ⟨by rw [← r.length]; exact z, ?_⟩)
  exact newT_at I1 z r q
/-- t + u -/
def rCatF (K : PySem.W.Frag) : R2 := fun x y H Q => ∃ a b xs ys, x = .ref a ∧ y = .ref b ∧ SqT K H a xs ∧ SqT K H b ys ∧ xs.length + ys.length ≤ sizeLine ∧
  (xs = [] → Q (.ref b) H) ∧ (xs ≠ [] → ys = [] → Q (.ref a) H) ∧ (xs ≠ [] → ys ≠ [] → NewT H (xs ++ ys) Q)
theorem op_catF : OpR X (binaryOp .Add) (rCatF X.K) := by
  intro pins s σ H x y v u Q I rx ry h
  obtain ⟨a, b, xs, ys, rfl, rfl, ha, hb, hz, q0, q1, q2⟩ := h
  cases rx
  cases ry
  obtain ⟨i1, r1, p1, _⟩ := I.tuple ha
  obtain ⟨i2, r2, p2, _⟩ := I.tuple hb
  by_cases hx : xs = []
  · subst hx
    cases r1
    exact cat_tup0 p1 p2 ⟨.ref b, H, I, rfl, q0 rfl⟩
  · refine HT.cat_tup p1 p2 (fun z => hx (r1.nil_iff.mp z)) (fun z => ⟨.ref a, H, I, rfl, q1 hx (r2.nil_iff.mp z)⟩) (fun z => ?_) (by rw [← r1.length, ← r2.length]; exact hz)
    exact newT_at (its := i1 ++ i2) I (by rw [List.length_append]; exact hz) (r1.append r2) (q2 hx fun w => z (r2.nil_iff.mpr w))
/-- t[lo:hi] -/
def rSlF (K : PySem.W.Frag) : V → Option Int → Option Int → Hp → VK → Prop := fun x lo hi H Q => ∃ a xs, x = .ref a ∧ SqT K H a xs ∧
  (HT.sIx xs.length 0 lo = 0 ∧ HT.sIx xs.length xs.length hi = xs.length → Q (.ref a) H) ∧ (¬ (HT.sIx xs.length 0 lo = 0 ∧ HT.sIx xs.length xs.length hi = xs.length) → NewT H (cutV xs lo hi) Q)
theorem sl_tupF : SlR X (rSlF X.K) := by
  intro pins s σ H x v vl vu lo hi sl Q I rx hs pl pu h
  obtain ⟨a, xs, rfl, hx, q1, q2⟩ := h
  cases rx
  obtain ⟨i1, r, ht, hz⟩ := I.tuple hx
  have hlen : i1.toArray.size = xs.length := by rw [List.size_toArray]; exact r.length.symm
  refine ⟨"tuple", _, PyProof.Rows.slot_tuple_getitem.lookup, ht.typeIs, ?_⟩
  by_cases hw : HT.sIx xs.length 0 lo = 0 ∧ HT.sIx xs.length xs.length hi = xs.length
  · exact getItem_tuple_whole ht hs pl pu (by rw [hlen]; exact hw) ⟨.ref a, H, I, rfl, q1 hw⟩
  · refine HT.getItem_tuple_cut ht hs pl pu (by rw [hlen]; exact hw) ?_ (by rw [hlen]; exact hz)
    rw [hlen]
    exact newT_at I (Nat.le_trans (cutV_length xs lo hi) hz) ((r.drop (HT.sIx xs.length 0 lo)).take (HT.sIx xs.length xs.length hi - HT.sIx xs.length 0 lo)) (q2 hw)
/-- tuple(a list), tuple(a tuple) -/
abbrev rTupF (K : PySem.W.Frag) : List V → Hp → VK → Prop := fun xs H Q => ∃ p ys, xs = [.ref p] ∧ ((SqL K H p ys ∧ NewT H ys Q) ∨ (SqT K H p ys ∧ Q (.ref p) H))
theorem call_tupF : CallR X (.type "tuple") (rTupF X.K) := by
  intro pins s σ H xs us Q I r h
  obtain ⟨p, ys, rfl, h⟩ := h
  obtain ⟨u, rfl, rx⟩ := vals1 r
  cases rx
  rcases h with ⟨hq, q⟩ | ⟨hq, q⟩
  · obtain ⟨i1, r', pl, hz⟩ := I.list hq
    have hlen := r'.length
    refine call_tuple_list pl.isList (fun h' kp => ?_) (by simp only [List.size_toArray] <;> omega)
    have I1 : Inv X pins σ H { s with heap := h' } := I.kept (t' := s.toks) kp
    exact newT_at I1 hz r' q
  · obtain ⟨i1, r', pl, hz⟩ := I.tuple hq
    exact call_tuple_same pl ⟨.ref p, H, I, rfl, q⟩
end
open Evl in
/-- a new tuple of data -/
theorem newT {H : Hp} {xs : List V} {us : List U} {Q : VK} (q : ∀ p H', H p = none → Ex H H' → Tu H' p xs us → Q (.ref p) H') : NewT H xs Q := fun p hp => by
  cases c : isB us with
  | false => exact .inl (q p _ hp (Ex.new hp) (Tu.of upd_same c))
  | true =>
    refine .inr fun o ho => q p _ hp (Ex.new hp) ?_
    unfold Tu
    rw [if_pos c]
    exact ⟨o, ho, upd_same⟩
open Evl in
theorem newT_data {w C : Addr} {H : Hp} {xs : List V} {us : List U} {Q : VK} (hw : ∃ o, H w = some o) (l : AtL w C H xs us) (q : ∀ v H', Ex H H' → At w C H' v (.tup us) → Q v H') : NewT H xs Q :=
  newT (us := us) fun p H' hp e t => q _ H' e (.tup t (fun z => by
    obtain ⟨o, ho⟩ := hw
    rw [← z, hp] at ho
    cases ho) (l.keep fun b o _ h => e b o h))
end Hu
namespace Hs
open PySem PySem.Spec PyProof.Rows L2 Hu Evl
/-- the places of a table's parts -/
structure Ct (mg : Str → Option Value) : Prop where
  p0 : ∃ t, mg "EPOCH" = some (.int 0 t)
  p1 : ∃ t, mg "MEMBERS" = some (.int 1 t)
  p2 : ∃ t, mg "AHEAD" = some (.int 2 t)
  p3 : ∃ t, mg "CLOCK" = some (.int 3 t)
  p4 : ∃ t, mg "HEADS" = some (.int 4 t)
  p5 : ∃ t, mg "BLOCKS" = some (.int 5 t)
  p6 : ∃ t, mg "LEASES" = some (.int 6 t)
  p7 : ∃ t, mg "PROMISE" = some (.int 7 t)
  p8 : ∃ t, mg "VOTED" = some (.int 8 t)
  p9 : ∃ t, mg "NEXT" = some (.int 9 t)
  many : ∃ t, mg "MANY_PARTS" = some (.int 10 t)
  ticks : ∃ t, mg "LEASE_TICKS" = some (.int 8 t)
abbrev isM1 (u : U) : Bool := isI (-1) u
structure OkT (u : U) : Prop where
  s : Sm u
def keptU (u : U) : U := .tup [nth u 1, nth u 2, nth u 4, nth u 5]
def gTable (u : U) : Bool := gTO 10 u && ((gCnt (nth u 3) && gLeases (nth u 6)) && ((gStamp (nth u 7) && gVote (nth u 8)) && ((isNon (nth u 9) || gMembers (nth u 9)) &&
  (if isM1 (nth u 0) = true then nilU (nth u 1) && (nilU (nth u 2) && (nilU (nth u 4) && nilU (nth u 5))) else gCnt (nth u 0) && gKept (keptU u)))))
theorem Sm.nth {u : U} (h : Sm u) (k : Nat) : Sm (nth u k) := by
  cases u with
  | tup us =>
    show wt (us.getD k .non) ≤ 160000
    rw [List.getD_eq_getElem?_getD]
    cases e : us[k]? with
    | none => simp [wt]
    | some x =>
      have h1 := wt_mem (List.mem_of_getElem? e)
      have h2 : wt (.tup us) ≤ 160000 := h
      simp only [wt] at h2
      show wt x ≤ 160000
      omega
  | _ => show wt U.non ≤ 160000; simp [wt]
section
variable {P : Program} {wd : World} {K : PySem.W.Frag} {mg : Str → Option Value} {base : Heap} {C : Addr}
theorem pe_gi {X : Cx} {x : Str} {i : Int} {p : Pos} (hg : Gl X x) (h : ∃ t, X.mg x = some (.int i t)) (hd : (x == ("__debug__" : Str)) = false := by decide) : PE X (.Name x p) (tC (.int i)) := by
  obtain ⟨t, h⟩ := h
  exact pe_glob (v := .int i) hg h ⟨_, rfl⟩ hd
theorem rv_m1 {w : Addr} {H : Hp} {v : V} {u : U} (q : Eqx K C) (h : At w C H v u) : RV (rEqI K) v (.int (-1)) H (.bl (isM1 u)) := rv_eqI (ni_at (-1) q h)
theorem four_nils {σ : L2.St} {H G : Hp} (eg : Ex H G) {Q : VK} (q : ∀ (p c1 c2 c3 c4 : Addr) G', Ex G G' → G' p = some (.tup ([c1, c2, c3, c4].map V.ref)) → (∀ c ∈ [c1, c2, c3, c4], G' c = some (.tup [])) → Q (.ref p) G') :
    tTup (tCons (tTup tNil) (tCons (tTup tNil) (tCons (tTup tNil) (tCons (tTup tNil) tNil)))) σ G Q := by
  have nil : ∀ G : Hp, EvU (tTup tNil) σ G [] := fun G => eu_tup ea_nil (by decide)
  have step : ∀ (r : TA) (G : Hp) (Q : List V → Hp → Prop), (∀ c G1, Ex G G1 → G1 c = some (.tup []) → r σ G1 (fun vs H2 => Q (.ref c :: vs) H2)) → tCons (tTup tNil) r σ G Q := fun r G Q h => nil G G (Ex.refl G) _ fun c G1 _ e k => h c G1 e k
  refine step _ G _ fun c1 G1 e1 k1 => ?_
  refine step _ G1 _ fun c2 G2 e2 k2 => ?_
  refine step _ G2 _ fun c3 G3 e3 k3 => ?_
  refine step _ G3 _ fun c4 G4 e4 k4 => ?_
  refine ⟨sz_of (by show (4 : Nat) ≤ 100000; decide), fun p hp => ?_⟩
  have n := Ex.new (o := HO.tup [.ref c1, .ref c2, .ref c3, .ref c4]) hp
  refine q p c1 c2 c3 c4 _ ((((e1.trans e2).trans e3).trans e4).trans n) upd_same fun c hc => ?_
  rcases List.mem_cons.mp hc with rfl | hc
  · exact n _ _ (e4 _ _ (e3 _ _ (e2 _ _ k1)))
  rcases List.mem_cons.mp hc with rfl | hc
  · exact n _ _ (e4 _ _ (e3 _ _ k2))
  rcases List.mem_cons.mp hc with rfl | hc
  · exact n _ _ (e4 _ _ k3)
  rcases List.mem_cons.mp hc with rfl | hc
  · exact n _ _ k4
  · cases hc
theorem q_asgF {σ : L2.St} {H : Hp} {ta : TA} {tz : TS} {D : Ends} {i : Nat} {xs : List V} {us : List U} (h : EvA ta σ H xs) (hz : xs.length ≤ 100000) (k : ∀ p H1, H p = none → Ex H H1 → Tu H1 p xs us → tz D (σ.set i (some (.ref p))) H1) : tSeq (tAsg (tTupF ta) (gName i)) tz D σ H :=
  h H (Ex.refl H) _ fun H1 e1 => ⟨sz_of hz, newT (us := us) fun p H2 hp e2 t => k p H2 (by
    cases q : H p with
    | none => rfl
    | some o => rw [e1 _ _ q] at hp; cases hp) (e1.trans e2) t⟩
theorem scTable : FnScope ["thing", "kept"] ["thing"] (defScope sTable) := ⟨rfl, rfl, rfl, by decide +kernel, rfl, by decide +kernel, by decide +kernel⟩
theorem jw_table {f f1 f2 f3 f4 f5 f6 f7 : Addr} {fd d1 d2 d3 d4 d5 d6 d7 : FuncData} (D : Df K mg "is_table" sTable ["thing"] f fd) (S : Bs K mg C) (N : Ct mg) (JT : JTO P wd K mg base C f1 d1) (JC : Jd P wd K mg base C 2 "is_count" "thing" f2 d2 gCnt)
    (JL : Jw P wd K mg base C 6 "_are_leases" "thing" f3 d3 Sm gLeases) (JS : Jd P wd K mg base C 3 "is_stamp" "thing" f4 d4 gStamp) (JV : Jd P wd K mg base C 5 "is_vote" "thing" f5 d5 gVote) (JM : Jd P wd K mg base C 4 "is_members" "thing" f6 d6 gMembers)
    (JK : Jw P wd K mg base C 7 "_are_kept" "parts" f7 d7 OkK gKept) : Jw P wd K mg base C 8 "is_table" "thing" f fd OkT gTable := by
  refine ⟨D.F.ok scTable lenJw (fun cdv A outer s H vs Q E hr h => ?_), D.g, D.F.kp, D.b⟩
  obtain ⟨v, u, w, rfl, hat, fi, hs, hw, k⟩ := h
  refine ⟨_, pss_cons (ps_if (pt_not (pt_val (pe_call JT.ok (hr.mono (by decide)) (by rfl) JT.D.g JT.D.F.kp JT.D.b .nil pass0 (pa_cons (pe_gi (by rfl) N.many) (pa_cons (pv 0) pa_nil))))) (pss_one (ps_ret pe_bl)) pss_nil)
    (pss_cons (ps_if (PW.pt (pw_or (pt_not (pt_val (pe_J JC hr (by decide) (by rfl) pass0 (pe_ix ix_tup (pv 0) (pe_gi (by rfl) N.p3) (fun _ _ => rfl))))) (pw_or1 (pt_not (pt_val (pe_Jw JL hr (by decide) (by rfl) pass0 (pe_ix ix_tup (pv 0) (pe_gi (by rfl) N.p6) (fun _ _ => rfl)))))))) (pss_one (ps_ret pe_bl)) pss_nil)
    (pss_cons (ps_if (PW.pt (pw_or (pt_not (pt_val (pe_J JS hr (by decide) (by rfl) pass0 (pe_ix ix_tup (pv 0) (pe_gi (by rfl) N.p7) (fun _ _ => rfl))))) (pw_or1 (pt_not (pt_val (pe_J JV hr (by decide) (by rfl) pass0 (pe_ix ix_tup (pv 0) (pe_gi (by rfl) N.p8) (fun _ _ => rfl)))))))) (pss_one (ps_ret pe_bl)) pss_nil)
    (pss_cons (ps_if (PW.pt (pw_and (pt_cmpR op_notN1 (pe_ix ix_tup (pv 0) (pe_gi (by rfl) N.p9) (fun _ _ => rfl)) pe_non (nomark _)) (pw_and1 (pt_not (pt_val (pe_J JM hr (by decide) (by rfl) pass0 (pe_ix ix_tup (pv 0) (pe_gi (by rfl) N.p9) (fun _ _ => rfl)))))))) (pss_one (ps_ret pe_bl)) pss_nil)
    (pss_cons (ps_set (i := 1) scTable.nd rfl (.inl rfl) (pe_tupF (pa_cons (pe_ix ix_tup (pv 0) (pe_gi (by rfl) N.p1) (fun _ _ => rfl)) (pa_cons (pe_ix ix_tup (pv 0) (pe_gi (by rfl) N.p2) (fun _ _ => rfl)) (pa_cons (pe_ix ix_tup (pv 0) (pe_gi (by rfl) N.p4) (fun _ _ => rfl)) (pa_cons (pe_ix ix_tup (pv 0) (pe_gi (by rfl) N.p5) (fun _ _ => rfl)) pa_nil))))))
    (pss_cons (ps_if (pt_cmpR (op_eqI (room_hu hr)) (pe_ix ix_tup (pv 0) (pe_gi (by rfl) N.p0) (fun _ _ => rfl)) (pe_un un_neg pe_int) (nomark _)) (pss_one (ps_ret (pe_cmpR (op_eqNs (room_hu hr)) (pv 1) (pe_tup (pa_cons (pe_tup pa_nil) (pa_cons (pe_tup pa_nil) (pa_cons (pe_tup pa_nil) (pa_cons (pe_tup pa_nil) pa_nil))))) (nomark _)))) pss_nil)
    (pss_one (ps_ret (pe_and (pe_J JC hr (by decide) (by rfl) pass0 (pe_ix ix_tup (pv 0) (pe_gi (by rfl) N.p0) (fun _ _ => rfl))) (pe_one (pe_Jw JK hr (by decide) (by rfl) pass0 (pv 1))))))))))), ?_⟩
  refine q_when (b := !gTO 10 u) (et_not (et_B (ev_TO (m := 10) ev_c (ev_var rfl) hat))) (fun q H1 e => ?_) (fun q H1 e => ?_)
  · refine s_ret ev_c fun H2 e2 => ?_
    have e4 : gTable u = false := by
      unfold gTable
      rw [Bool.not_eq_true'] at q
      rw [q]
      rfl
    rw [← e4]
    exact k H2 (e.trans e2)
  rw [Bool.not_eq_false'] at q
  have nt : ∀ (G : Hp), Ex H G → ∀ (τ : L2.St) (i : Nat), τ[0]? = some (some v) → i < 10 → ∃ x, Ev (tOp (rIxT K) (tVar 0) (tC (.int (i : Int)))) τ G x ∧ At w C G x (nth u i) := fun G eg τ i hi hk => ev_nth (ev_var hi) (ex_at eg hat) q hk
  have fn : ∀ i, i < 10 → Fine (nth u i) := fun i hi => fine_nth q hi fi
  have g0 : gTable u = ((gCnt (nth u 3) && gLeases (nth u 6)) && ((gStamp (nth u 7) && gVote (nth u 8)) && ((isNon (nth u 9) || gMembers (nth u 9)) &&
    (if isM1 (nth u 0) = true then nilU (nth u 1) && (nilU (nth u 2) && (nilU (nth u 4) && nilU (nth u 5))) else gCnt (nth u 0) && gKept (keptU u))))) := by
    unfold gTable
    rw [q, Bool.true_and]
  obtain ⟨x3, e3, h3⟩ := nt H1 e [some v, none] 3 rfl (by decide)
  obtain ⟨x6, e6, h6⟩ := nt H1 e [some v, none] 6 rfl (by decide)
  refine q_when (b := !gCnt (nth u 3) || !gLeases (nth u 6)) (et_or (et_not (et_B (ev_J e3 h3 (fn 3 (by decide))))) fun _ => et_not (et_B (ev_Jw e6 h6 (fn 6 (by decide)) (hs.s.nth 6) (hw.imp fun o z => e _ _ z)))) (fun q2 H2 e2 => ?_) (fun q2 H2 e2 => ?_)
  · refine s_ret ev_c fun H3 e3 => ?_
    have e4 : gTable u = false := by
      rw [g0]
      revert q2
      cases gCnt (nth u 3) <;> cases gLeases (nth u 6) <;> simp
    rw [← e4]
    exact k H3 ((e.trans e2).trans e3)
  have q2' : (gCnt (nth u 3) && gLeases (nth u 6)) = true := by
    revert q2
    cases gCnt (nth u 3) <;> cases gLeases (nth u 6) <;> simp
  rw [q2', Bool.true_and] at g0
  have e12 := e.trans e2
  obtain ⟨x7, e7, h7⟩ := nt H2 e12 [some v, none] 7 rfl (by decide)
  obtain ⟨x8, e8, h8⟩ := nt H2 e12 [some v, none] 8 rfl (by decide)
  refine q_when (b := !gStamp (nth u 7) || !gVote (nth u 8)) (et_or (et_not (et_B (ev_J e7 h7 (fn 7 (by decide))))) fun _ => et_not (et_B (ev_J e8 h8 (fn 8 (by decide))))) (fun q3 H3 e3 => ?_) (fun q3 H3 e3 => ?_)
  · refine s_ret ev_c fun H4 e4 => ?_
    have e4' : gTable u = false := by
      rw [g0]
      revert q3
      cases gStamp (nth u 7) <;> cases gVote (nth u 8) <;> simp
    rw [← e4']
    exact k H4 ((e12.trans e3).trans e4)
  have q3' : (gStamp (nth u 7) && gVote (nth u 8)) = true := by
    revert q3
    cases gStamp (nth u 7) <;> cases gVote (nth u 8) <;> simp
  rw [q3', Bool.true_and] at g0
  have e13 := e12.trans e3
  obtain ⟨x9, e9, h9⟩ := nt H3 e13 [some v, none] 9 rfl (by decide)
  refine q_when (b := !isNon (nth u 9) && !gMembers (nth u 9)) (et_and (et_test (ev_is (ev_op e9 ev_c fun G eg Q q => ⟨rfl, q G (Ex.refl G)⟩) (by rw [at_non h9]))) fun _ => et_not (et_B (ev_J e9 h9 (fn 9 (by decide))))) (fun q4 H4 e4 => ?_) (fun q4 H4 e4 => ?_)
  · refine s_ret ev_c fun H5 e5 => ?_
    have e4' : gTable u = false := by
      rw [g0]
      revert q4
      cases isNon (nth u 9) <;> cases gMembers (nth u 9) <;> simp
    rw [← e4']
    exact k H5 ((e13.trans e4).trans e5)
  have q4' : (isNon (nth u 9) || gMembers (nth u 9)) = true := by
    revert q4
    cases isNon (nth u 9) <;> cases gMembers (nth u 9) <;> simp
  rw [q4', Bool.true_and] at g0
  have e14 := e13.trans e4
  obtain ⟨x1, e1', h1⟩ := nt H4 e14 [some v, none] 1 rfl (by decide)
  obtain ⟨x2, e2', h2⟩ := nt H4 e14 [some v, none] 2 rfl (by decide)
  obtain ⟨x4, e4', h4⟩ := nt H4 e14 [some v, none] 4 rfl (by decide)
  obtain ⟨x5, e5', h5⟩ := nt H4 e14 [some v, none] 5 rfl (by decide)
  refine q_asgF (us := [nth u 1, nth u 2, nth u 4, nth u 5]) (ea_cons e1' (ea_cons e2' (ea_cons e4' (ea_cons e5' ea_nil)))) (by show (4 : Nat) ≤ 100000; decide) fun pk H5 hpk e5 hk => ?_
  have e15 := e14.trans e5
  obtain ⟨x0, e0', h0⟩ := nt H5 e15 [some v, some (.ref pk)] 0 rfl (by decide)
  have a1 := ex_at e5 h1
  have a2 := ex_at e5 h2
  have a4 := ex_at e5 h4
  have a5 := ex_at e5 h5
  refine q_when (b := isM1 (nth u 0)) (et_test (ev_op e0' (ev_un ev_c ru_neg) (rv_m1 S.q h0))) (fun q5 H6 e6 => ?_) (fun q5 H6 e6 => ?_)
  · refine s_ret (v := .bl (nilU (nth u 1) && (nilU (nth u 2) && (nilU (nth u 4) && nilU (nth u 5))))) (fun G eg Q q => ⟨_, rfl, four_nils (Ex.refl G) fun p c1 c2 c3 c4 G' e7 hp hc => ?_⟩) fun H7 e7 => ?_
    · have ee := (e6.trans eg).trans e7
      refine ⟨pk, p, _, [c1, c2, c3, c4], [nilU (nth u 1), nilU (nth u 2), nilU (nth u 4), nilU (nth u 5)], rfl, rfl, Tu.st (Tu.ex ee hk), st_of hp, fun c hc' => st_of (hc c hc'), rfl,
        .cons (nc_at S.q (ex_at ee a1)) (.cons (nc_at S.q (ex_at ee a2)) (.cons (nc_at S.q (ex_at ee a4)) (.cons (nc_at S.q (ex_at ee a5)) .nil))), ?_⟩
      have ea : [nilU (nth u 1), nilU (nth u 2), nilU (nth u 4), nilU (nth u 5)].all id = (nilU (nth u 1) && (nilU (nth u 2) && (nilU (nth u 4) && nilU (nth u 5)))) := by
        simp
      rw [ea]
      exact q G' e7
    · have e4' : gTable u = (nilU (nth u 1) && (nilU (nth u 2) && (nilU (nth u 4) && nilU (nth u 5)))) := by rw [g0, if_pos q5]
      rw [← e4']
      exact k H7 ((e15.trans e6).trans e7)
  · have fk : Fine (keptU u) := by
      obtain ⟨us, rfl, hl⟩ := gTO_of q
      refine ⟨?_, ?_⟩
      · have w1 : wt (nth (.tup us) 1) ≤ 160000 := hs.s.nth 1
        have w2 : wt (nth (.tup us) 2) ≤ 160000 := hs.s.nth 2
        have w4 : wt (nth (.tup us) 4) ≤ 160000 := hs.s.nth 4
        have w5 : wt (nth (.tup us) 5) ≤ 160000 := hs.s.nth 5
        unfold keptU
        simp only [wt, wtL]
        omega
      · unfold keptU
        simp only [clean, cleanL]
        exact ⟨(fn 1 (by decide)).c, (fn 2 (by decide)).c, (fn 4 (by decide)).c, (fn 5 (by decide)).c, trivial⟩
    have hkw : pk ≠ w := fun z => by
      obtain ⟨o, ho⟩ := hw
      have := e14 _ _ ho
      rw [← z, hpk] at this
      cases this
    have ak : At w C H6 (.ref pk) (keptU u) := .tup (Tu.ex e6 hk) hkw (.cons (ex_at e6 a1) (.cons (ex_at e6 a2) (.cons (ex_at e6 a4) (.cons (ex_at e6 a5) .nil))))
    have a0 := ex_at e6 h0
    dsimp only [tNext]
    refine s_ret (ev_andV (ev_J (e0'.mono e6) a0 (fn 0 (by decide))) fun _ => ev_Jw (ev_var rfl) ak fk ⟨rfl, trivial, hs.s.nth 4, hs.s.nth 5⟩ (hw.imp fun o z => (e15.trans e6) _ _ z)) fun H7 e7 => ?_
    have e4' : gTable u = (gCnt (nth u 0) && gKept (keptU u)) := by rw [g0, if_neg (by rw [q5]; decide)]
    rw [← e4']
    exact k H7 ((e15.trans e6).trans e7)
end
end Hs
namespace Hs
open PySem PySem.Spec PyProof.Rows L2 Hu Evl
open Hk (SI ltSI)
abbrev Ls : Type := SI × (Int × Int)
def getL : List Ls → SI → Option (Int × Int)
  | [], _ => none
  | l :: r, k => if l.1 = k then some l.2 else getL r k
def putL : List Ls → SI → Int × Int → List Ls
  | [], k, v => [(k, v)]
  | l :: r, k, v => if l.1 = k then (k, v) :: r else l :: putL r k v
def dropL (L : List Ls) (k : SI) : List Ls := L.filter fun l => decide (l.1 ≠ k)
def ndK (L : List Ls) : Prop := (L.map (·.1)).Nodup
def srt (L : List Ls) : Prop := (L.map (·.1)).Pairwise fun a b => ltSI a b = true
theorem getL_cons (l : Ls) (r : List Ls) (k : SI) : getL (l :: r) k = if l.1 = k then some l.2 else getL r k := rfl
theorem getL_none {L : List Ls} {k : SI} : getL L k = none ↔ ∀ l ∈ L, l.1 ≠ k := by
  induction L with
  | nil => simp [getL]
  | cons l r ih =>
    unfold getL
    by_cases h : l.1 = k
    · rw [if_pos h]
      simp [h]
    · rw [if_neg h, ih]
      simp [h]
theorem getL_mem {L : List Ls} {k : SI} {v : Int × Int} (h : getL L k = some v) : (k, v) ∈ L := by
  induction L with
  | nil => cases h
  | cons l r ih =>
    unfold getL at h
    by_cases q : l.1 = k
    · rw [if_pos q] at h
      cases h
      rw [← q]
      exact List.mem_cons_self ..
    · rw [if_neg q] at h
      exact List.mem_cons_of_mem _ (ih h)
theorem getL_of {L : List Ls} (n : ndK L) {l : Ls} (h : l ∈ L) : getL L l.1 = some l.2 := by
  induction L with
  | nil => cases h
  | cons x r ih =>
    unfold ndK at n
    rw [List.map_cons, List.nodup_cons] at n
    unfold getL
    rcases List.mem_cons.mp h with rfl | h
    · rw [if_pos rfl]
    · have : x.1 ≠ l.1 := fun e => n.1 (by rw [e]; exact List.mem_map.mpr ⟨l, h, rfl⟩)
      rw [if_neg this]
      exact ih n.2 h
theorem getL_put {L : List Ls} {k j : SI} {v : Int × Int} : getL (putL L k v) j = if j = k then some v else getL L j := by
  induction L with
  | nil =>
    unfold putL getL
    by_cases h : k = j
    · rw [if_pos h, if_pos h.symm]
    · rw [if_neg h, if_neg (fun e => h e.symm)]
      rfl
  | cons l r ih =>
    unfold putL
    by_cases q : l.1 = k
    · rw [if_pos q]
      by_cases h : j = k
      · rw [if_pos h]
        unfold getL
        rw [if_pos h.symm]
      · rw [if_neg h]
        rw [getL_cons, getL_cons, if_neg (fun e => h e.symm), if_neg (fun e => h (e.symm.trans q))]
    · rw [if_neg q]
      unfold getL
      rw [ih]
      by_cases h : l.1 = j
      · rw [if_pos h, if_pos h, if_neg (fun e => q (h.trans e))]
      · rw [if_neg h, if_neg h]
theorem keys_put {L : List Ls} {k : SI} {v : Int × Int} : ∀ j ∈ (putL L k v).map (·.1), j = k ∨ j ∈ L.map (·.1) := by
  induction L with
  | nil =>
    intro j h
    simp [putL] at h
    exact .inl h
  | cons l r ih =>
    intro j h
    unfold putL at h
    by_cases q : l.1 = k
    · rw [if_pos q, List.map_cons] at h
      rcases List.mem_cons.mp h with h | h
      · exact .inl h
      · exact .inr (List.mem_cons_of_mem _ h)
    · rw [if_neg q, List.map_cons] at h
      rcases List.mem_cons.mp h with h | h
      · exact .inr (by rw [h]; exact List.mem_cons_self ..)
      · rcases ih j h with h | h
        · exact .inl h
        · exact .inr (List.mem_cons_of_mem _ h)
theorem ndK_put {L : List Ls} {k : SI} {v : Int × Int} (n : ndK L) : ndK (putL L k v) := by
  induction L with
  | nil => simp [putL, ndK]
  | cons l r ih =>
    unfold ndK at n
    rw [List.map_cons, List.nodup_cons] at n
    unfold putL
    by_cases q : l.1 = k
    · rw [if_pos q]
      unfold ndK
      rw [List.map_cons, List.nodup_cons]
      exact ⟨by rw [← q]; exact n.1, n.2⟩
    · rw [if_neg q]
      unfold ndK
      rw [List.map_cons, List.nodup_cons]
      refine ⟨fun h => ?_, ih n.2⟩
      rcases keys_put _ h with h | h
      · exact q h
      · exact n.1 h
theorem len_put (L : List Ls) (k : SI) (v : Int × Int) : (putL L k v).length ≤ L.length + 1 := by
  induction L with
  | nil => simp [putL]
  | cons l r ih =>
    unfold putL
    by_cases q : l.1 = k
    · rw [if_pos q]
      simp
    · rw [if_neg q, List.length_cons, List.length_cons]
      omega
theorem put_new {L : List Ls} {k : SI} {v : Int × Int} (h : getL L k = none) : putL L k v = L ++ [(k, v)] := by
  induction L with
  | nil => rfl
  | cons l r ih =>
    unfold getL at h
    by_cases q : l.1 = k
    · rw [if_pos q] at h
      cases h
    · rw [if_neg q] at h
      unfold putL
      rw [if_neg q, ih h]
      rfl
theorem srt_nd {L : List Ls} (h : srt L) : ndK L := by
  unfold ndK
  unfold srt at h
  refine List.Pairwise.imp (fun {a b} q e => ?_) h
  rw [e, Hk.ltSI_irr] at q
  cases q
/-- rows in order are told by what they hold -/
theorem srt_uniq : ∀ {A B : List Ls}, srt A → srt B → (∀ k, getL A k = getL B k) → A = B
  | [], [], _, _, _ => rfl
  | [], b :: B, _, _, h => by
    have := h b.1
    unfold getL at this
    rw [if_pos rfl] at this
    cases this
  | a :: A, [], _, _, h => by
    have := h a.1
    unfold getL at this
    rw [if_pos rfl] at this
    cases this
  | a :: A, b :: B, ha, hb, h => by
    have na := srt_nd ha
    have nb := srt_nd hb
    have ga : ∀ x ∈ b :: B, x ∈ a :: A := fun x hx => by
      have e := getL_of nb hx
      rw [← h] at e
      exact getL_mem e
    have gb : ∀ x ∈ a :: A, x ∈ b :: B := fun x hx => by
      have e := getL_of na hx
      rw [h] at e
      exact getL_mem e
    have ha' := ha
    have hb' := hb
    unfold srt at ha hb
    rw [List.map_cons, List.pairwise_cons] at ha hb
    have e : a = b := by
      rcases List.mem_cons.mp (gb a (List.mem_cons_self ..)) with q | q
      · exact q
      · rcases List.mem_cons.mp (ga b (List.mem_cons_self ..)) with q2 | q2
        · exact q2.symm
        · have l1 := hb.1 a.1 (List.mem_map.mpr ⟨a, q, rfl⟩)
          have l2 := ha.1 b.1 (List.mem_map.mpr ⟨b, q2, rfl⟩)
          rw [Hk.ltSI_asym l1] at l2
          cases l2
    subst e
    unfold ndK at na nb
    rw [List.map_cons, List.nodup_cons] at na nb
    rw [srt_uniq (A := A) (B := B) ha.2 hb.2 fun k => ?_]
    by_cases q : a.1 = k
    · rw [getL_none.mpr fun x hx e => na.1 (by rw [q, ← e]; exact List.mem_map.mpr ⟨x, hx, rfl⟩), getL_none.mpr fun x hx e => nb.1 (by rw [q, ← e]; exact List.mem_map.mpr ⟨x, hx, rfl⟩)]
    · have := h k
      unfold getL at this
      rw [if_neg q, if_neg q] at this
      exact this
/-- the holders in order, each with what stands there -/
def byKeys (L : List Ls) (zs : List SI) : List Ls := zs.map fun z => (z, (getL L z).getD (0, 0))
theorem byKeys_srt {L : List Ls} {zs : List SI} (n : ndK L) (hp : zs.Perm (L.map (·.1))) (hs : zs.Pairwise fun x y => ltSI y x = false) : srt (byKeys L zs) ∧ ∀ k, getL (byKeys L zs) k = getL L k := by
  have ek : (byKeys L zs).map (·.1) = zs := by
    unfold byKeys
    rw [List.map_map]
    exact (List.map_congr_left fun _ _ => rfl).trans (List.map_id _)
  have nz : zs.Nodup := hp.nodup_iff.mpr n
  have st : srt (byKeys L zs) := by
    unfold srt
    rw [ek]
    refine (hs.and nz).imp (fun {a b} q => ?_)
    rcases Hk.ltSI_tri a b with h | h | h
    · exact h
    · exact absurd h q.2
    · rw [q.1] at h
      cases h
  refine ⟨st, fun k => ?_⟩
  cases e : getL (byKeys L zs) k with
  | none =>
    rw [getL_none] at e
    refine (getL_none.mpr fun l hl ek => ?_).symm
    have : l.1 ∈ zs := hp.mem_iff.mpr (List.mem_map.mpr ⟨l, hl, rfl⟩)
    exact e (l.1, (getL L l.1).getD (0, 0)) (List.mem_map.mpr ⟨l.1, this, rfl⟩) ek
  | some v =>
    have m := getL_mem e
    obtain ⟨z, hz, ez⟩ := List.mem_map.mp m
    have e1 : z = k := congrArg Prod.fst ez
    subst e1
    obtain ⟨l, hl, e2⟩ := List.mem_map.mp (hp.mem_iff.mp hz)
    have g := getL_of n hl
    rw [e2] at g
    have e3 : (getL L z).getD (0, 0) = v := congrArg Prod.snd ez
    rw [g] at e3 ⊢
    rw [← e3]
    rfl
inductive Deed where
  | lease (k : SI) (t : Int)
  | free (k : SI) (t : Int)
  | tick
  | rise
/-- what stands at a holder behind a deed; c the clock behind it -/
def fD (D : Deed) (c : Int) (k : SI) (o : Option (Int × Int)) : Option (Int × Int) := match D with
  | .lease j t => if k = j then some (match o with | some v => max t v.1 | none => t, c + 8) else o
  | .free j t => if k = j then o.filter fun v => decide (t ≤ v.1) else o
  | .tick => o.filter fun v => decide (c < v.2)
  | .rise => o.map fun v => (v.1, c + 8)
end Hs
namespace Hu
open PySem
mutual
/-- nothing, integers, texts, tuples of such -/
def pln : U → Prop
  | .tup us => plnL us
  | .lst _ | .dct _ | .exc | .bl _ => False
  | _ => True
def plnL : List U → Prop
  | [] => True
  | u :: us => pln u ∧ plnL us
end
theorem plnL_all {us : List U} : plnL us ↔ ∀ u ∈ us, pln u := by
  induction us with
  | nil => simp [plnL]
  | cons u us ih => simp [plnL, ih]
end Hu
namespace Hs
open PySem PySem.Spec PyProof.Rows L2 Hu Evl
section
variable {w C : Addr} {H H' : Hp}
/-- a tuple, open or locked -/
def TQ (o : HO) : Prop := ∃ zs, o = .tup zs ∨ ∃ b, o = .frz b (.tup zs)
theorem tq_upd {l : Addr} {xs : List V} {x : HO} (hl : H l = some (.lst xs)) : ∀ b o, b ≠ w → TQ o → H b = some o → upd H l x b = some o := fun b o _ q e => by
  rw [upd_ne (fun z => by
    rw [z, hl] at e
    cases e
    obtain ⟨zs, q | ⟨c, q⟩⟩ := q <;> cases q)]
  exact e
theorem tu_tups {a : Addr} {xs : List V} {us : List U} (k : ∀ b o, b ≠ w → TQ o → H b = some o → H' b = some o) (n : a ≠ w) (h : Tu H a xs us) : Tu H' a xs us := by
  cases c : isB us with
  | false => exact Tu.of (k _ _ n ⟨xs, .inl rfl⟩ (h.plain c)) c
  | true =>
    obtain ⟨o, d, e⟩ := h.lock c
    unfold Tu
    rw [if_pos c]
    exact ⟨o, d, k _ _ n ⟨xs, .inr ⟨o, rfl⟩⟩ e⟩
mutual
theorem at_tups (k : ∀ b o, b ≠ w → TQ o → H b = some o → H' b = some o) : ∀ {u : U} {v : V}, pln u → At w C H v u → At w C H' v u
  | _, _, _, .non => .non
  | .bl _, _, p, _ => p.elim
  | _, _, _, .int i => .int i
  | _, _, _, .str z => .str z
  | _, _, p, .tup h n l => .tup (tu_tups k n h) n (atl_tups k p l)
  | _, _, p, .lst _ _ _ => p.elim
  | _, _, p, .dct _ _ _ _ _ => p.elim
  | _, _, p, .exc _ _ _ _ => p.elim
theorem atl_tups (k : ∀ b o, b ≠ w → TQ o → H b = some o → H' b = some o) : ∀ {us : List U} {vs : List V}, plnL us → AtL w C H vs us → AtL w C H' vs us
  | _, _, _, .nil => .nil
  | _, _, p, .cons x l => .cons (at_tups k p.1 x) (atl_tups k p.2 l)
end
/-- evaluates to a value of this data -/
def EvD (w C : Addr) (te : TE) (σ : L2.St) (H : Hp) (u : U) : Prop := ∀ H1, Ex H H1 → ∀ Q : VK, (∀ v H2, Ex H1 H2 → At w C H2 v u → Q v H2) → te σ H1 Q
def EvDs (w C : Addr) (ta : TA) (σ : L2.St) (H : Hp) (us : List U) : Prop := ∀ H1, Ex H H1 → ∀ Q : List V → Hp → Prop, (∀ vs H2, Ex H1 H2 → AtL w C H2 vs us → Q vs H2) → ta σ H1 Q
/-- to a new list of this data -/
def EvLD (w C : Addr) (te : TE) (σ : L2.St) (H : Hp) (us : List U) : Prop := ∀ H1, Ex H H1 → ∀ Q : VK, (∀ p ys H2, H1 p = none → Ex H1 H2 → H2 p = some (.lst ys) → AtL w C H2 ys us → Q (.ref p) H2) → te σ H1 Q
theorem EvD.mono {te : TE} {σ : L2.St} {u : U} (e : Ex H H') (h : EvD w C te σ H u) : EvD w C te σ H' u := fun H1 e1 Q q => h H1 (e.trans e1) Q q
theorem EvLD.mono {te : TE} {σ : L2.St} {us : List U} (e : Ex H H') (h : EvLD w C te σ H us) : EvLD w C te σ H' us := fun H1 e1 Q q => h H1 (e.trans e1) Q q
section
variable {K : PySem.W.Frag} {σ : L2.St} {te tb tl : TE} {t : TT} {ta tr : TA} {v : V} {u : U} {us us1 us2 : List U} {xs : List V}
theorem ed_ev (h : Ev te σ H v) (hat : At w C H v u) : EvD w C te σ H u := fun H1 e Q q => h H1 e _ fun H2 e2 => q v H2 e2 (ex_at (e.trans e2) hat)
theorem eds_nil : EvDs w C tNil σ H [] := fun H1 e Q q => q [] H1 (Ex.refl H1) .nil
theorem eds_cons (h : EvD w C te σ H u) (hr : EvDs w C tr σ H us) : EvDs w C (tCons te tr) σ H (u :: us) := fun H1 e Q q =>
  h H1 e _ fun v H2 e2 a => hr H2 (e.trans e2) _ fun vs H3 e3 l => q (v :: vs) H3 (e2.trans e3) (.cons (ex_at e3 a) l)
theorem ed_tup (hw : ∃ o, H w = some o) (h : EvDs w C ta σ H us) (hz : us.length ≤ 100000) : EvD w C (tTupF ta) σ H (.tup us) := fun H1 e Q q =>
  h H1 e _ fun vs H2 e2 l => ⟨sz_of (by rw [AtL.length l]; exact hz), newT_data (hw.imp fun o z => (e.trans e2) _ _ z) l fun v H3 e3 a => q v H3 (e2.trans e3) a⟩
def cutU (us : List U) (lo hi : Option Int) : List U := (us.drop (HT.sIx us.length 0 lo)).take (HT.sIx us.length us.length hi - HT.sIx us.length 0 lo)
theorem atl_cut {lo hi : Option Int} (l : AtL w C H xs us) : AtL w C H (cutV xs lo hi) (cutU us lo hi) := by
  unfold cutV cutU
  rw [AtL.length l]
  exact AtL.take _ (AtL.drop _ l)
theorem ed_slice {a : Addr} {tl th : TO} {lo hi : Option Int} (hw : ∃ o, H w = some o) (h : Ev te σ H (.ref a)) (hx : Tu H a xs us) (na : a ≠ w) (l : AtL w C H xs us) (h1 : EvO tl σ H lo) (h2 : EvO th σ H hi) : EvD w C (tSl (rSlF K) te tl th) σ H (.tup (cutU us lo hi)) := fun H1 e Q q =>
  h H1 e _ fun H2 e2 => h1 H2 (e.trans e2) _ fun H3 e3 => h2 H3 ((e.trans e2).trans e3) _ fun H4 e4 => by
    have e5 := ((e.trans e2).trans e3).trans e4
    refine ⟨a, xs, rfl, Tu.st (Tu.ex e5 hx), fun hh => ?_, fun _ => newT_data (hw.imp fun o z => e5 _ _ z) (atl_cut (ex_atl e5 l)) fun v H5 e6 a => q v H5 (((e2.trans e3).trans e4).trans e6) a⟩
    have eu : cutU us lo hi = us := by
      unfold cutU
      rw [← AtL.length l, hh.1, hh.2, AtL.length l, List.drop_zero, Nat.sub_zero, List.take_length]
    exact q _ H4 ((e2.trans e3).trans e4) (by rw [eu]; exact .tup (Tu.ex e5 hx) na (ex_atl e5 l))
theorem ed_cat (hw : ∃ o, H w = some o) (h1 : EvD w C te σ H (.tup us1)) (h2 : EvD w C tb σ H (.tup us2)) (hz : us1.length + us2.length ≤ 100000) : EvD w C (tOp (rCatF K) te tb) σ H (.tup (us1 ++ us2)) := fun H1 e Q q =>
  h1 H1 e _ fun v1 H2 e2 a1 => h2 H2 (e.trans e2) _ fun v2 H3 e3 a2 => by
    obtain ⟨p1, x1, rfl, g1, n1, t1⟩ := at_tup (ex_at e3 a1)
    obtain ⟨p2, x2, rfl, g2, n2, t2⟩ := at_tup a2
    refine ⟨p1, p2, x1, x2, rfl, rfl, Tu.st g1, Tu.st g2, sz_of (by rw [AtL.length t1, AtL.length t2]; exact hz), fun z => ?_, fun _ z => ?_, fun _ _ => newT_data (hw.imp fun o z => ((e.trans e2).trans e3) _ _ z) (AtL.append t1 t2) fun v H5 e6 a => q v H5 ((e2.trans e3).trans e6) a⟩
    · subst z
      cases t1
      exact q _ H3 (e2.trans e3) a2
    · subst z
      cases t2
      rw [List.append_nil] at q
      exact q _ H3 (e2.trans e3) (ex_at e3 a1)
/-- tuple(a new list) -/
abbrev rTupO (K : PySem.W.Frag) : List V → Hp → VK → Prop := rTupF K
theorem ed_tupL (hw : ∃ o, H w = some o) (h : EvLD w C te σ H us) : EvD w C (tCB (rTupO K) (tCons te tNil)) σ H (.tup us) := fun H1 e Q q =>
  h H1 e _ fun p ys H2 hp e2 h2 l => ⟨p, ys, rfl, .inl ⟨sq_of h2, newT_data (hw.imp fun o z => (e.trans e2) _ _ z) l fun v H3 e3 a => q v H3 (e2.trans e3) a⟩⟩
theorem take_filter {us : List U} {i : Nat} {u : U} (g : U → Bool) (h : us[i]? = some u) : (us.take (i + 1)).filter g = (us.take i).filter g ++ if g u = true then [u] else [] := by
  rw [List.take_add_one, h, List.filter_append]
  congr 1
  by_cases q : g u = true
  · rw [if_pos q]
    show List.filter g [u] = _
    rw [List.filter_cons_of_pos q]
    rfl
  · rw [if_neg q]
    show List.filter g [u] = _
    rw [List.filter_cons_of_neg q]
    rfl
/-- [f(x) for x in a tuple if g(x)] -/
theorem lc_D {a : Addr} {j : Nat} {vs : List Nat} {g : U → Bool} {f : U → U} (h : Ev tl σ H (.ref a)) (hx : Tu H a xs us) (hl : AtL w C H xs us) (hz : us.length ≤ 40000) (hp : ∀ u ∈ us, pln (f u)) (hw : ∀ x, wipe ((wipe σ vs).set j (some x)) vs = wipe σ vs)
    (ht : ∀ (x : V) (u : U) G, u ∈ us → Ex H G → At w C G x u → EvT t ((wipe σ vs).set j (some x)) G (g u)) (he : ∀ (x : V) (u : U) G, u ∈ us → g u = true → Ex H G → At w C G x u → EvD w C te ((wipe σ vs).set j (some x)) G (f u)) :
    EvLD w C (tLc (iTup K tl) (gName j) t te vs) σ H ((us.filter g).map f) := fun H0 e Q q => h H0 e _ fun H1 e1 => ⟨a, rfl, ⟨xs, Tu.st (Tu.ex (e.trans e1) hx)⟩, fun Dl hD =>
  lc_tup (xs := xs) (fun i H' => Ex H1 H' ∧ ∃ ys, H' Dl = some (.lst ys) ∧ ys.length ≤ i ∧ AtL w C H' ys (((us.take i).filter g).map f)) ⟨Ex.new hD, [], upd_same, Nat.le_refl _, .nil⟩ (fun i H' _ p => Tu.st (Tu.ex ((e.trans e1).trans p.1) hx)) (fun i x H2 hi p => by
    obtain ⟨p1, ys, p2, p3, p4⟩ := p
    have hlen := AtL.length hl
    have hu : i < us.length := by
      have := (List.getElem?_eq_some_iff.mp hi).1
      omega
    obtain ⟨x', hx', hax⟩ := AtL.get hl (List.getElem?_eq_getElem hu)
    rw [hi] at hx'
    cases hx'
    have e2 := (e.trans e1).trans p1
    refine ⟨hw x, ht x us[i] H2 (List.getElem_mem hu) e2 (ex_at e2 hax) H2 (Ex.refl H2) _ fun H3 e3 => ?_⟩
    have eg := take_filter g (List.getElem?_eq_getElem hu)
    cases hg : g us[i] with
    | false =>
      rw [hg] at eg
      rw [if_neg Bool.false_ne_true, List.append_nil] at eg
      rw [if_neg Bool.false_ne_true]
      exact ⟨p1.trans e3, ys, e3 _ _ p2, by omega, by rw [eg]; exact ex_atl e3 p4⟩
    | true =>
      rw [hg, if_pos rfl] at eg
      rw [if_pos rfl]
      refine he x us[i] H3 (List.getElem_mem hu) hg (e2.trans e3) (ex_at (e2.trans e3) hax) H3 (Ex.refl H3) _ fun v H4 e4 a4 => ⟨ys, e4 _ _ (e3 _ _ p2), ?_, fun q o hq => ?_, ys ++ [v], upd_same, ?_, ?_⟩
      · have := bit_line
        unfold bit at this
        omega
      · rw [upd_ne (ne_of_none hq hD)]
        exact e4 _ _ (e3 _ _ (p1 _ _ hq))
      · rw [List.length_append]
        show ys.length + 1 ≤ i + 1
        omega
      · have nt := tq_upd (w := w) (x := .lst (ys ++ [v])) (e4 _ _ (e3 _ _ p2))
        rw [eg, List.map_append]
        refine AtL.append (atl_tups nt (plnL_all.mpr fun y hy => ?_) (ex_atl (e3.trans e4) p4)) (.cons (at_tups nt (hp _ (List.getElem_mem hu)) a4) .nil)
        obtain ⟨z, hz', rfl⟩ := List.mem_map.mp hy
        exact hp z (List.mem_of_mem_take (List.mem_filter.mp hz').1)) (fun H' p => by
    obtain ⟨p1, ys, p2, p3, p4⟩ := p
    rw [AtL.length hl, List.take_length] at p4
    exact q Dl ys H' (fresh_back e1 hD) (e1.trans p1) p2 p4)⟩
end
end
end Hs
namespace Hs
open PySem PySem.Spec PyProof.Rows L2 Hu Evl
open Hk (SI ltSI)
def lsU (l : Ls) : U := .tup [.str l.1.1, .int l.1.2, .int l.2.1, .int l.2.2]
section
variable {P : Program} {wd : World} {K : PySem.W.Frag} {mg : Str → Option Value} {base : Heap} {C : Addr}
def spCh (C : Addr) : Sp := fun vs H Q _ => ∃ (x y : V) (k : Nat) (us : List U) (u : U) (w : Addr), vs = [x, .int (k : Int), y] ∧ At w C H x (.tup us) ∧ At w C H y u ∧ (∃ o, H w = some o) ∧ k < us.length ∧ us.length ≤ 1000 ∧
  ∀ v H', Same H H' → At w C H' v (.tup (us.set k u)) → Q v H'
theorem set_cut (us : List U) (k : Nat) (u : U) (h : k < us.length) : cutU us none (some (k : Int)) ++ [u] ++ cutU us (some ((k : Int) + 1)) none = us.set k u := by
  have e1 : cutU us none (some (k : Int)) = us.take k := by
    unfold cutU
    have z1 : HT.sIx us.length 0 none = 0 := rfl
    have z2 : HT.sIx us.length us.length (some (k : Int)) = k := by
      simp only [HT.sIx]
      rw [if_neg (by omega)]
      omega
    rw [z1, z2]
    simp
  have e2 : cutU us (some ((k : Int) + 1)) none = us.drop (k + 1) := by
    unfold cutU
    have z1 : HT.sIx us.length 0 (some ((k : Int) + 1)) = k + 1 := by
      simp only [HT.sIx]
      rw [if_neg (by omega)]
      omega
    have z2 : HT.sIx us.length us.length none = us.length := rfl
    rw [z1, z2, List.take_of_length_le (by rw [List.length_drop]; omega)]
  rw [e1, e2, List.set_eq_take_append_cons_drop, if_pos h]
  simp
inductive Dl (H : Hp) : List (List L2.Key × V) → List Ls → Prop
  | nil : Dl H [] []
  | cons {p : Addr} {l : Ls} {kvs : List (List L2.Key × V)} {L : List Ls} : H p = some (.tup [.int l.2.1, .int l.2.2]) → Dl H kvs L → Dl H ((Hk.keySI l.1, .ref p) :: kvs) (l :: L)
theorem Dl.tups {H H' : Hp} {kvs : List (List L2.Key × V)} {L : List Ls} (e : ∀ b zs, H b = some (.tup zs) → H' b = some (.tup zs)) (h : Dl H kvs L) : Dl H' kvs L := by
  induction h with
  | nil => exact .nil
  | cons h _ ih => exact .cons (e _ _ h) ih
theorem Dl.len {H : Hp} {kvs : List (List L2.Key × V)} {L : List Ls} (h : Dl H kvs L) : kvs.length = L.length := by
  induction h with
  | nil => rfl
  | cons _ _ ih => rw [List.length_cons, List.length_cons, ih]
theorem Dl.keys {H : Hp} {kvs : List (List L2.Key × V)} {L : List Ls} (h : Dl H kvs L) : kvs.map (·.1) = (L.map (·.1)).map Hk.keySI := by
  induction h with
  | nil => rfl
  | cons _ _ ih => rw [List.map_cons, List.map_cons, List.map_cons, ih]
theorem keySI_inj {a b : SI} (h : Hk.keySI a = Hk.keySI b) : a = b := by
  injection h with h1 h2
  injection h2 with h3 h4
  exact Prod.ext (Sum.inr.inj h1) (Sum.inl.inj h3)
theorem Dl.vnone {H : Hp} {kvs : List (List L2.Key × V)} {L : List Ls} (h : Dl H kvs L) {k : SI} (g : getL L k = none) : valV kvs (Hk.keySI k) = none := by
  induction h with
  | nil => rfl
  | @cons p l kvs L _ _ ih =>
    rw [getL_cons] at g
    by_cases q : l.1 = k
    · rw [if_pos q] at g
      cases g
    · rw [if_neg q] at g
      rw [valV_neg fun e => q (keySI_inj e)]
      exact ih g
theorem Dl.vsome {H : Hp} {kvs : List (List L2.Key × V)} {L : List Ls} (h : Dl H kvs L) {k : SI} {v : Int × Int} (g : getL L k = some v) : ∃ p, valV kvs (Hk.keySI k) = some (.ref p) ∧ H p = some (.tup [.int v.1, .int v.2]) := by
  induction h with
  | nil => cases g
  | @cons p l kvs L hp _ ih =>
    rw [getL_cons] at g
    by_cases q : l.1 = k
    · rw [if_pos q] at g
      cases g
      rw [valV_pos (congrArg Hk.keySI q)]
      exact ⟨p, rfl, hp⟩
    · rw [if_neg q] at g
      rw [valV_neg fun e => q (keySI_inj e)]
      exact ih g
theorem Dl.append {H : Hp} {kvs kvs2 : List (List L2.Key × V)} {L L2 : List Ls} (h : Dl H kvs L) (h2 : Dl H kvs2 L2) : Dl H (kvs ++ kvs2) (L ++ L2) := by
  induction h with
  | nil => exact h2
  | cons hp _ ih => exact .cons hp ih
theorem Dl.repl {H : Hp} {kvs : List (List L2.Key × V)} {L : List Ls} {k : SI} {p : Addr} {v : Int × Int} (hp : H p = some (.tup [.int v.1, .int v.2])) (h : Dl H kvs L) :
    Dl H (kvs.map fun kv => if kv.1 = Hk.keySI k then (kv.1, V.ref p) else kv) (L.map fun l => if l.1 = k then (k, v) else l) := by
  induction h with
  | nil => exact .nil
  | @cons p' l kvs L hp' _ ih =>
    rw [List.map_cons, List.map_cons]
    by_cases q : l.1 = k
    · rw [if_pos q, if_pos (congrArg Hk.keySI q)]
      have : (Hk.keySI l.1, V.ref p) = (Hk.keySI ((k, v) : Ls).1, V.ref p) := by rw [q]
      rw [this]
      exact .cons hp ih
    · rw [if_neg q, if_neg fun e => q (keySI_inj e)]
      exact .cons hp' ih
theorem putL_map {L : List Ls} {k : SI} {v : Int × Int} (n : ndK L) (g : (getL L k).isSome = true) : putL L k v = L.map fun l => if l.1 = k then (k, v) else l := by
  induction L with
  | nil => cases g
  | cons l r ih =>
    unfold ndK at n
    rw [List.map_cons, List.nodup_cons] at n
    unfold putL
    rw [getL_cons] at g
    rw [List.map_cons]
    by_cases q : l.1 = k
    · rw [if_pos q, if_pos q]
      congr 1
      refine ((List.map_congr_left fun x hx => ?_).trans (List.map_id _)).symm
      exact if_neg fun e => n.1 (by rw [q, ← e]; exact List.mem_map.mpr ⟨x, hx, rfl⟩)
    · rw [if_neg q] at g
      rw [if_neg q, if_neg q, ih n.2 g]
theorem Dl.put {H : Hp} {kvs : List (List L2.Key × V)} {L : List Ls} (n : ndK L) {k : SI} {p : Addr} {v : Int × Int} (h : Dl H kvs L) (hp : H p = some (.tup [.int v.1, .int v.2])) : Dl H (putK kvs (Hk.keySI k) (.ref p)) (putL L k v) := by
  cases g : getL L k with
  | none =>
    rw [putK_new _ (h.vnone g), put_new g]
    exact h.append (.cons (l := (k, v)) hp .nil)
  | some x =>
    obtain ⟨q, hq, _⟩ := h.vsome g
    have ha : (kvs.any fun kv => decide (kv.1 = Hk.keySI k)) = true := by
      rw [valV_any, hq]
      rfl
    rw [putL_map n (by rw [g]; rfl)]
    unfold putK
    rw [if_pos ha]
    exact h.repl hp
theorem Dl.drop {H : Hp} {kvs : List (List L2.Key × V)} {L : List Ls} (k : SI) (h : Dl H kvs L) : Dl H (dropK kvs (Hk.keySI k)) (dropL L k) := by
  induction h with
  | nil => exact .nil
  | @cons p l kvs L hp _ ih =>
    unfold dropK dropL at *
    by_cases q : l.1 = k
    · rw [List.filter_cons_of_neg (by rw [q]; simp), List.filter_cons_of_neg (by simp [q])]
      exact ih
    · rw [List.filter_cons_of_pos (p := fun kv : List L2.Key × V => decide (kv.1 ≠ Hk.keySI k)) (decide_eq_true fun e => q (keySI_inj e)), List.filter_cons_of_pos (p := fun l : Ls => decide (l.1 ≠ k)) (decide_eq_true q)]
      exact .cons hp ih
end
end Hs
namespace Hs
open PySem PySem.Spec PyProof.Rows L2 Hu Evl
open Hk (SI ltSI)
theorem lsU_pln (l : Ls) : pln (lsU l) := by
  unfold lsU
  simp [pln, plnL]
section
variable {P : Program} {wd : World} {K : PySem.W.Frag} {mg : Str → Option Value} {base : Heap} {C : Addr}
theorem nth_at {w : Addr} {H : Hp} {x : V} {us : List U} {σ : L2.St} {te : TE} (hat : At w C H x (.tup us)) (h : Ev te σ H x) (k : Nat) (hk : k < us.length) : ∃ y, Ev (tOp (rIxT K) te (tC (.int (k : Int)))) σ H y ∧ At w C H y (us.getD k .non) :=
  ev_nth (m := us.length) h hat (decide_eq_true rfl) hk
end
end Hs
namespace Hs
open PySem PySem.Spec PyProof.Rows L2 Hu Evl
open Hk (SI ltSI)
abbrev sPart : Stmt := topS 38
abbrev sParts : Stmt := topS 40
theorem pss_dead {X : Cx} {l : List Stmt} : PSs X l (fun _ _ _ => False) := ⟨fun _ _ _ _ _ _ h => h.elim⟩
/-- the lists of words that the text names -/
def TupK (K : PySem.W.Frag) (a : Addr) (zs : List Str) : Prop := ∀ H, SqT K H a (zs.map V.str)
/-- a deed of a right form -/
def Deed.ok : Deed → Prop
  | .lease k t => gNam (.str k.1) = true ∧ gHand (.int k.2) = true ∧ 0 ≤ t
  | .free k t => gNam (.str k.1) = true ∧ gHand (.int k.2) = true ∧ 0 ≤ t
  | _ => True
end Hs
namespace Hs
open PySem PySem.Spec PyProof.Rows L2 Hu Evl
open Hk (SI ltSI)
theorem walk_zipT {K : PySem.W.Frag} {a b : Addr} {xs ys : List V} (hl : xs.length = ys.length) : Walk (RZ.ItzT K a b) xs.length (fun H => SqT K H a xs ∧ SqT K H b ys) (fun i H v H' => ∃ T x y, v = .ref T ∧ H T = none ∧ H' = upd H T (.tup [x, y]) ∧ xs[i]? = some x ∧ ys[i]? = some y) :=
  ⟨fun i H hi q => ⟨xs, ys, xs[i], ys[i]'(by omega), q.1, q.2, List.getElem?_eq_getElem hi, List.getElem?_eq_getElem (by omega)⟩, fun H q => ⟨xs, ys, q.1, q.2, .inl (Nat.le_refl _)⟩, fun i H v H' hi q ⟨T, x, y, e1, e2, e3, e4, e5⟩ => ⟨T, x, y, e1, e2, e3, e4 _ q.1, e5 _ q.2⟩⟩
section
variable {P : Program} {wd : World} {K : PySem.W.Frag} {mg : Str → Option Value} {base : Heap} {C : Addr}
theorem cut_one (u : U) (us : List U) : cutU (u :: us) (some 1) none = us := by
  unfold cutU
  have z1 : HT.sIx (u :: us).length 0 (some 1) = 1 := by
    simp only [HT.sIx]
    rw [if_neg (by decide), List.length_cons]
    show min 1 (us.length + 1) = 1
    omega
  have z2 : HT.sIx (u :: us).length (u :: us).length none = (u :: us).length := rfl
  rw [z1, z2]
  simp
end
end Hs
namespace Hs
open PySem PySem.Spec PyProof.Rows L2 Hu Evl
/-- what is tracked in H' at places that were free in H -/
def fresh (H H' : Hp) : Hp := fun b => match H b with | none => H' b | some _ => none
mutual
def tidy (b : Nat) : U → Prop
  | .int i => i.natAbs < 2 ^ 64 + b
  | .str z => ∀ c ∈ TL.tl z, okS c = true ∨ c = 10
  | .tup us | .lst us | .dct us => tidyL b us
  | _ => True
def tidyL (b : Nat) : List U → Prop
  | [] => True
  | u :: us => tidy b u ∧ tidyL b us
end
mutual
theorem tidy_clean {b : Nat} (hb : b ≤ 100) : ∀ u : U, tidy b u → clean u
  | .non, _ => trivial
  | .bl _, _ => trivial
  | .int i, h => by simp only [tidy] at h; simp only [clean]; omega
  | .str z, h => by simpa only [clean, tidy] using h
  | .tup us, h => by simp only [clean]; exact tidyL_clean hb us (by simpa only [tidy] using h)
  | .lst us, h => by simp only [clean]; exact tidyL_clean hb us (by simpa only [tidy] using h)
  | .dct us, h => by simp only [clean]; exact tidyL_clean hb us (by simpa only [tidy] using h)
  | .exc, _ => trivial
theorem tidyL_clean {b : Nat} (hb : b ≤ 100) : ∀ us : List U, tidyL b us → cleanL us
  | [], _ => trivial
  | u :: us, h => ⟨tidy_clean hb u h.1, tidyL_clean hb us h.2⟩
end
mutual
theorem tidy_mono {b b' : Nat} (hb : b ≤ b') : ∀ u : U, tidy b u → tidy b' u
  | .non, _ => trivial
  | .bl _, _ => trivial
  | .int i, h => by simp only [tidy] at *; omega
  | .str z, h => by simpa only [tidy] using h
  | .tup us, h => by simp only [tidy] at *; exact tidyL_mono hb us h
  | .lst us, h => by simp only [tidy] at *; exact tidyL_mono hb us h
  | .dct us, h => by simp only [tidy] at *; exact tidyL_mono hb us h
  | .exc, _ => trivial
theorem tidyL_mono {b b' : Nat} (hb : b ≤ b') : ∀ us : List U, tidyL b us → tidyL b' us
  | [], _ => trivial
  | u :: us, h => ⟨tidy_mono hb u h.1, tidyL_mono hb us h.2⟩
end
/-- bounds -/
structure Bd (u : U) (m d b : Nat) : Prop where
  w : wt u ≤ m
  d : dep u ≤ d
  c : tidy b u
theorem Bd.mono {u : U} {m d b m' d' b' : Nat} (h : Bd u m d b) (hm : m ≤ m') (hd : d ≤ d') (hb : b ≤ b') : Bd u m' d' b' := ⟨Nat.le_trans h.w hm, Nat.le_trans h.d hd, tidy_mono hb _ h.c⟩
theorem Bd.fine {u : U} {m d b : Nat} (h : Bd u m d b) (hm : m ≤ 1000000) (hb : b ≤ 100) : Fine u := ⟨Nat.le_trans h.w hm, tidy_clean hb _ h.c⟩
structure BdL (us : List U) (m d b : Nat) : Prop where
  w : wtL us ≤ m
  d : depL us ≤ d
  c : tidyL b us
theorem BdL.nil {d b : Nat} : BdL [] 0 d b := ⟨Nat.le_refl _, Nat.zero_le _, trivial⟩
theorem wtL_append : ∀ us us' : List U, wtL (us ++ us') = wtL us + wtL us'
  | [], us' => by simp [wtL]
  | u :: us, us' => by simp only [List.cons_append, wtL, wtL_append us us']; omega
theorem depL_append : ∀ us us' : List U, depL (us ++ us') = max (depL us) (depL us')
  | [], us' => by simp [depL]
  | u :: us, us' => by simp only [List.cons_append, depL, depL_append us us']; omega
theorem tidyL_append {b : Nat} : ∀ {us us' : List U}, tidyL b us → tidyL b us' → tidyL b (us ++ us')
  | [], _, _, h => h
  | _ :: _, _, h, h' => ⟨h.1, tidyL_append h.2 h'⟩
theorem BdL.append {us us' : List U} {m m' d b : Nat} (h : BdL us m d b) (h' : BdL us' m' d b) : BdL (us ++ us') (m + m') d b := by
  refine ⟨?_, ?_, tidyL_append h.c h'.c⟩
  · rw [wtL_append]
    have := h.w
    have := h'.w
    omega
  · rw [depL_append]
    have := h.d
    have := h'.d
    omega
theorem BdL.one {u : U} {m d b : Nat} (h : Bd u m d b) : BdL [u] (m + 2) d b := ⟨by have := h.w; simp only [wtL]; omega, by have := h.d; simp only [depL]; omega, ⟨h.c, trivial⟩⟩
theorem BdL.snoc {us : List U} {u : U} {m m' d b : Nat} (h : BdL us m d b) (q : Bd u m' d b) : BdL (us ++ [u]) (m + (m' + 2)) d b := h.append (.one q)
theorem BdL.mono {us : List U} {m d b m' d' b' : Nat} (h : BdL us m d b) (hm : m ≤ m') (hd : d ≤ d') (hb : b ≤ b') : BdL us m' d' b' := ⟨Nat.le_trans h.w hm, Nat.le_trans h.d hd, tidyL_mono hb _ h.c⟩
theorem BdL.take {us : List U} {m d b : Nat} : ∀ (n : Nat), BdL us m d b → BdL (us.take n) m d b := fun n h => by
  have e := List.take_append_drop n us
  refine ⟨?_, ?_, ?_⟩
  · have := h.w
    rw [← e, wtL_append] at this
    omega
  · have := h.d
    rw [← e, depL_append] at this
    omega
  · have := h.c
    clear e h
    induction us generalizing n with
    | nil => rw [List.take_nil]; trivial
    | cons u us ih => cases n with
      | zero => trivial
      | succ n => exact ⟨this.1, ih n this.2⟩
theorem BdL.drop {us : List U} {m d b : Nat} : ∀ (n : Nat), BdL us m d b → BdL (us.drop n) m d b := fun n h => by
  have e := List.take_append_drop n us
  refine ⟨?_, ?_, ?_⟩
  · have := h.w
    rw [← e, wtL_append] at this
    omega
  · have := h.d
    rw [← e, depL_append] at this
    omega
  · have := h.c
    clear e h
    induction us generalizing n with
    | nil => rw [List.drop_nil]; trivial
    | cons u us ih => cases n with
      | zero => exact this
      | succ n => exact ih n this.2
theorem BdL.get {us : List U} {m d b : Nat} {u : U} (h : BdL us m d b) (hu : u ∈ us) : Bd u m d b := by
  obtain ⟨w, dd, c⟩ := h
  refine ⟨Nat.le_trans (wt_mem hu) w, Nat.le_trans ?_ dd, ?_⟩
  · clear w c dd
    induction us with
    | nil => cases hu
    | cons a r ih =>
      simp only [depL]
      rcases List.mem_cons.mp hu with rfl | hu
      · omega
      · have := ih hu
        omega
  · clear w dd
    induction us with
    | nil => cases hu
    | cons a r ih =>
      rcases List.mem_cons.mp hu with rfl | hu
      · exact c.1
      · exact ih hu c.2
theorem Bd.tup {us : List U} {m d b : Nat} (h : BdL us m d b) : Bd (.tup us) (m + 3) (d + 1) b := ⟨by have := h.w; simp only [wt]; omega, by have := h.d; simp only [dep]; omega, by simpa only [tidy] using h.c⟩
theorem Bd.lst {us : List U} {m d b : Nat} (h : BdL us m d b) : Bd (.lst us) (m + 3) (d + 1) b := ⟨by have := h.w; simp only [wt]; omega, by have := h.d; simp only [dep]; omega, by simpa only [tidy] using h.c⟩
theorem AtL.snoc {w C : Addr} {H : Hp} {vs : List V} {us : List U} {v : V} {u : U} (l : AtL w C H vs us) (h : At w C H v u) : AtL w C H (vs ++ [v]) (us ++ [u]) := AtL.append l (.cons h .nil)
section
variable {P : Program} {wd : World} {K : PySem.W.Frag} {mg : Str → Option Value} {base : Heap} {C : Addr}
/-- the defs that draw, ready to be called -/
structure Dd (P : Program) (wd : World) (K : PySem.W.Frag) (mg : Str → Option Value) (base : Heap) (f : Addr) (d : FuncData) : Prop where
  ok : FnOk P wd K mg base CX0 1 f d ["hat", "many"] spDraw
  g : mg "_law_draw" = some (.ref f)
  kp : PySem.W.keepIn K (.ref f) = true
  b : Binds K d ["hat", "many"] []
end
section
variable {X : Cx} {fD : Addr} {dD : FuncData} {e1 e2 : Expr} {t1 t2 : TE} {ps pos : Pos} {k : Nat}
theorem pe_draw (D : Dd X.prog X.w X.K X.mg X.base fD dD) (hr : Room k X.A) (h : 1 ≤ k) (hg : Gl X "_law_draw") (h1 : PE X e1 t1) (h2 : PE X e2 t2) (hst : starEach [e1, e2] X.env = (false, eval e1 X.env) :: starEach [e2] X.env := by rfl) (hst2 : starEach [e2] X.env = (false, eval e2 X.env) :: starEach [] X.env := by rfl)
    (hpl : (backTo pos (starEach [e2] X.env)).any (·.1) = false := by rfl) : PE X (.Call (.Name "_law_draw" ps) [e1, e2] [] pos) (tCall spDraw [] E0 (tCons t1 (tCons t2 tNil))) :=
  pe_call (D.ok.mono h) hr hg D.g D.kp D.b .nil pass0 (pa_cons h1 (pa_cons h2 pa_nil hst2) hst) (by decide) hst hpl
end
end Hs
namespace Hs
open PySem PySem.Spec PyProof.Rows L2 Hu Evl
section
variable {P : Program} {wd : World} {K : PySem.W.Frag} {mg : Str → Option Value} {base : Heap} {C : Addr} {fD : Addr} {dD : FuncData}
theorem idOk {i j : Int} (h : 1 ≤ i ∧ i ≤ 99 ∧ 1 ≤ j) : gId (.tup [.int i, .int j]) = true := by
  show ((decide (1 ≤ i) && decide (i ≤ 99)) && decide (1 ≤ j)) = true
  rw [decide_eq_true h.1, decide_eq_true h.2.1, decide_eq_true h.2.2]
  rfl
theorem stampOk {i j : Int} (h : (i = 0 ∧ j = 0) ∨ (1 ≤ i ∧ 1 ≤ j ∧ j ≤ 99)) : gStamp (.tup [.int i, .int j]) = true := by
  show ((decide (i = 0) && decide (j = 0)) || (decide (1 ≤ i) && (decide (1 ≤ j) && decide (j ≤ 99)))) = true
  rcases h with ⟨h1, h2⟩ | ⟨h1, h2, h3⟩
  · rw [decide_eq_true h1, decide_eq_true h2]
    rfl
  · rw [decide_eq_true h1, decide_eq_true h2, decide_eq_true h3]
    simp
abbrev rTupQ (K : PySem.W.Frag) : List V → Hp → VK → Prop := fun xs H Q => ∃ p ys, xs = [.ref p] ∧ ((SqL K H p ys ∧ ∀ l, H l = none → Q (.ref l) (upd H l (.tup ys))) ∨ (SqT K H p ys ∧ Q (.ref p) H))
theorem s_retTL {σ : L2.St} {H : Hp} {te : TE} {xs : List V} {D : Ends} (h : EvL te σ H xs) (k : ∀ p H1, H p = none → Ex H H1 → H1 p = some (.tup xs) → D.rt (.ref p) H1) : tRet (tCB (rTupQ K) (tCons te tNil)) D σ H :=
  h H (Ex.refl H) _ fun D' H2 hD e2 h2 => ⟨D', _, rfl, .inl ⟨SqL.of h2, fun p hp => k p _ (fresh_back e2 hp) (e2.trans (Ex.new hp)) upd_same⟩⟩
theorem bits_some (d : Int) (d0 : 0 ≤ d) (d1 : d < 511) : ∃ i, i < 9 ∧ decide (V.int (((1 + d) / (2 ^ i : Int)).fmod 2) = V.int 1) = true := by
  have key : ∀ n : Fin 511, ∃ i : Fin 9, ((1 + (n.1 : Int)) / (2 ^ i.1 : Int)).fmod 2 = 1 := by decide +kernel
  obtain ⟨i, hi⟩ := key ⟨d.toNat, by omega⟩
  refine ⟨i.1, i.2, decide_eq_true ?_⟩
  have e : ((d.toNat : Nat) : Int) = d := by omega
  rw [← e]
  exact congrArg V.int hi
end
end Hs
namespace Hs
open PySem PySem.Spec PyProof.Rows L2 Hu Evl
section
variable {P : Program} {wd : World} {K : PySem.W.Frag} {mg : Str → Option Value} {base : Heap} {C : Addr} {fD : Addr} {dD : FuncData}
def spName : Sp := fun vs H Q _ => ∃ wl : WA, vs = [.ref wl.w] ∧ Well H wl ∧ ∀ (z : Str) (H' : Hp), gNam (.str z) = true → Drawn wl H H' → Q (.str z) H'
end
end Hs
namespace Hs
open PySem PySem.Spec PyProof.Rows L2 Hu Evl
open Hk (SI ltSI)
def ltZ (a b : Str) : Prop := a.cps.toList < b.cps.toList
/-- the pairs of integers of these values -/
inductive P2 (H : Hp) : List V → List (Int × Int) → Prop
  | nil : P2 H [] []
  | cons {p : Addr} {k : Int × Int} {vs : List V} {ks : List (Int × Int)} : H p = some (.tup [.int k.1, .int k.2]) → P2 H vs ks → P2 H (.ref p :: vs) (k :: ks)
theorem P2.tups {H H' : Hp} {vs : List V} {ks : List (Int × Int)} (e : ∀ b zs, H b = some (.tup zs) → H' b = some (.tup zs)) (h : P2 H vs ks) : P2 H' vs ks := by
  induction h with
  | nil => exact .nil
  | cons h _ ih => exact .cons (e _ _ h) ih
theorem P2.len {H : Hp} {vs : List V} {ks : List (Int × Int)} (h : P2 H vs ks) : vs.length = ks.length := by
  induction h with
  | nil => rfl
  | cons _ _ ih => rw [List.length_cons, List.length_cons, ih]
theorem P2.snoc {H : Hp} {vs : List V} {ks : List (Int × Int)} {p : Addr} {k : Int × Int} (h : P2 H vs ks) (hp : H p = some (.tup [.int k.1, .int k.2])) : P2 H (vs ++ [.ref p]) (ks ++ [k]) := by
  induction h with
  | nil => exact .cons hp .nil
  | cons h _ ih => exact .cons h ih
theorem P2.get {H : Hp} {vs : List V} {ks : List (Int × Int)} (h : P2 H vs ks) : ∀ {j : Nat} {v : V}, vs[j]? = some v → ∃ p k, v = .ref p ∧ ks[j]? = some k ∧ H p = some (.tup [.int k.1, .int k.2]) := by
  induction h with
  | nil => exact fun e => by simp at e
  | cons h _ ih =>
    intro j v e
    cases j with
    | zero =>
      cases e
      exact ⟨_, _, rfl, rfl, h⟩
    | succ j => exact ih e
def kf (H : Hp) (v : V) : Int × Int := match v with
  | .ref p => match H p with
    | some (.tup [.int i, .int j]) => (i, j)
    | _ => (0, 0)
  | _ => (0, 0)
theorem P2.of {H : Hp} : ∀ {vs : List V}, (∀ v ∈ vs, ∃ p, v = .ref p ∧ H p = some (.tup [.int (Hs.kf H v).1, .int (Hs.kf H v).2])) → P2 H vs (vs.map (Hs.kf H))
  | [], _ => .nil
  | v :: vs, h => by
    obtain ⟨p, rfl, hp⟩ := h v (List.mem_cons_self ..)
    exact .cons hp (P2.of fun u hu => h u (List.mem_cons_of_mem _ hu))
end Hs
namespace Hs
open PySem PySem.Spec PyProof.Rows L2 Hu Evl
open Hk (SI ltSI)
def ltI2 (a b : Int × Int) : Prop := a.1 < b.1 ∨ (a.1 = b.1 ∧ a.2 < b.2)
end Hs
namespace Hs
open PySem PySem.Spec PyProof.Rows L2 Hu Evl
section
variable {P : Program} {wd : World} {K : PySem.W.Frag} {mg : Str → Option Value} {base : Heap} {C : Addr} {fD : Addr} {dD : FuncData}
theorem At.drawn {wl : WA} {H H' : Hp} {v : V} {u : U} (D : Drawn wl H H') (h : At wl.w C H v u) : At wl.w C H' v u := h.keep fun b o nb q => D.keep b o nb q
theorem AtL.drawn {wl : WA} {H H' : Hp} {vs : List V} {us : List U} (D : Drawn wl H H') (h : AtL wl.w C H vs us) : AtL wl.w C H' vs us := h.keep fun b o nb q => D.keep b o nb q
end
end Hs
namespace Hs
open PySem PySem.Spec PyProof.Rows L2 Hu Evl
open Hk (SI ltSI)
theorem gId_pln {u : U} (h : gId u = true) : pln u := by
  obtain ⟨i, j, rfl⟩ := gId_two h
  simp [pln, plnL]
theorem gRow_pln {u : U} (h : gRow u = true) : pln u := by
  cases u with
  | tup us =>
    have h2 : (decide (us.length ≤ 12) && us.all gId) = true := h
    exact plnL_all.mpr fun x hx => gId_pln (List.all_eq_true.mp (and2 h2).2 x hx)
  | non => trivial
  | _ => cases h
theorem gStamp_two {u : U} (h : gStamp u = true) : ∃ i j, u = .tup [.int i, .int j] := by
  cases u with
  | tup us =>
    match us, h with
    | [a, b], h =>
      cases a with
      | int i => cases b with
        | int j => exact ⟨i, j, rfl⟩
        | _ => cases h
      | _ => cases h
  | _ => cases h
theorem gStamp_pln {u : U} (h : gStamp u = true) : pln u := by
  obtain ⟨i, j, rfl⟩ := gStamp_two h
  simp [pln, plnL]
theorem gMembers_pln {u : U} (h : gMembers u = true) : pln u := by
  cases u with
  | tup us =>
    have h2 : (((decide (1 ≤ us.length) && decide (us.length ≤ 9)) && us.all gHome) && ascI (us.map intU)) = true := h
    refine plnL_all.mpr fun x hx => ?_
    have := List.all_eq_true.mp (and2 (and2 h2).1).2 x hx
    cases x with
    | int i => trivial
    | _ => cases this
  | _ => cases h
theorem ascN_all {n : Nat} {lt : Nat → Bool} (h : ∀ k, k + 1 < n → lt k = true) : ascN n lt = true := by
  unfold ascN
  rw [List.all_eq_true]
  intro k hk
  rw [List.mem_range] at hk
  exact h k (by omega)
theorem pw_at {α : Type} {R : α → α → Prop} {xs : List α} {d : α} (h : xs.Pairwise R) {k : Nat} (hk : k + 1 < xs.length) : R (xs.getD k d) (xs.getD (k + 1) d) := by
  rw [getD_some (List.getElem?_eq_getElem (show k < xs.length by omega)), getD_some (List.getElem?_eq_getElem hk)]
  exact List.pairwise_iff_getElem.mp h k (k + 1) (by omega) hk (by omega)
theorem ascZ_pw {zs : List Str} (h : zs.Pairwise ltZ) : ascZ zs = true := ascN_all fun k hk => decide_eq_true (pw_at h hk)
theorem ascK_pw {kss : List (List L2.Key)} (h : kss.Pairwise fun a b => Hk.ltK a b = true) : ascK kss = true := ascN_all fun k hk => pw_at h hk
theorem ltK_i2 {a b : Int × Int} (h : ltI2 a b) : Hk.ltK [.inl a.1, .inl a.2] [.inl b.1, .inl b.2] = true := by
  show (if Hk.kEq (.inl a.1) (.inl b.1) = true then (if Hk.kEq (.inl a.2) (.inl b.2) = true then Hk.ltK [] [] else Hk.kLt (.inl a.2) (.inl b.2)) else Hk.kLt (.inl a.1) (.inl b.1)) = true
  rcases h with h | ⟨h1, h2⟩
  · rw [if_neg (fun e => by have := Sum.inl.inj (Hk.kEq_iff.mp e); omega)]
    exact decide_eq_true h
  · rw [if_pos (Hk.kEq_iff.mpr (by rw [h1])), if_neg (fun e => by have := Sum.inl.inj (Hk.kEq_iff.mp e); omega)]
    exact decide_eq_true h2
theorem ltK_si {a b : SI} (h : ltSI a b = true) : Hk.ltK [.inr a.1, .inl a.2] [.inr b.1, .inl b.2] = true := by
  show (if Hk.kEq (.inr a.1) (.inr b.1) = true then (if Hk.kEq (.inl a.2) (.inl b.2) = true then Hk.ltK [] [] else Hk.kLt (.inl a.2) (.inl b.2)) else Hk.kLt (.inr a.1) (.inr b.1)) = true
  rcases Hk.ltSI_iff.mp h with h | ⟨h1, h2⟩
  · rw [if_neg (fun e => by
      have e1 := Sum.inr.inj (Hk.kEq_iff.mp e)
      rw [e1] at h
      exact List.lt_irrefl _ h)]
    exact decide_eq_true h
  · rw [if_pos (Hk.kEq_iff.mpr (by rw [h1])), if_neg (fun e => by have := Sum.inl.inj (Hk.kEq_iff.mp e); omega)]
    exact decide_eq_true h2
theorem mem9 : ∀ b0 b1 b2 b3 b4 b5 b6 b7 b8 : Bool, (b0 || b1 || b2 || b3 || b4 || b5 || b6 || b7 || b8) = true → gMembers (.tup (((List.range 9).filter fun i => [b0, b1, b2, b3, b4, b5, b6, b7, b8].getD i false).map fun i : Nat => U.int (i : Int))) = true := by
  decide +kernel
def memU (f : Nat → Bool) : U := .tup (((List.range 9).filter f).map fun i : Nat => U.int (i : Int))
theorem memU_ok {f : Nat → Bool} (h : ∃ i, i < 9 ∧ f i = true) : gMembers (memU f) = true := by
  have e : (List.range 9).filter f = (List.range 9).filter fun i => [f 0, f 1, f 2, f 3, f 4, f 5, f 6, f 7, f 8].getD i false := by
    refine List.filter_congr fun i hi => ?_
    rw [List.mem_range] at hi
    match i, hi with
    | 0, _ | 1, _ | 2, _ | 3, _ | 4, _ | 5, _ | 6, _ | 7, _ | 8, _ => rfl
  unfold memU
  rw [e]
  refine mem9 _ _ _ _ _ _ _ _ _ ?_
  obtain ⟨i, hi, hf⟩ := h
  match i, hi with
  | 0, _ | 1, _ | 2, _ | 3, _ | 4, _ | 5, _ | 6, _ | 7, _ | 8, _ => simp [hf]
theorem atl_ints {w C : Addr} {H : Hp} : ∀ ns : List Nat, AtL w C H (ns.map fun i : Nat => V.int (i : Int)) (ns.map fun i : Nat => U.int (i : Int))
  | [] => .nil
  | n :: ns => .cons (.int _) (atl_ints ns)
theorem isB_mem {f : Nat → Bool} (hf : ∃ i, i < 9 ∧ f i = true) : isB (((List.range 9).filter f).map fun i : Nat => U.int (i : Int)) = false := by
  cases q : (List.range 9).filter f with
  | nil =>
    obtain ⟨i, hi, hfi⟩ := hf
    have : i ∈ (List.range 9).filter f := List.mem_filter.mpr ⟨List.mem_range.mpr hi, hfi⟩
    rw [q] at this
    cases this
  | cons n r => exact isB_first rfl
theorem tidy_int {i : Int} (h : i.natAbs < 2 ^ 60) : tidy 0 (.int i) := by
  simp only [tidy]
  omega
theorem not_well {H : Hp} {wl : WA} {p : Addr} {xs : List V} (W : Well H wl) (h : H p = some (.tup xs)) : p ≠ wl.w := fun z => by
  obtain ⟨x, y, h1, _⟩ := W.ex
  rw [← z, h] at h1
  cases h1
theorem mem_at {C : Addr} {H : Hp} {wl : WA} {p : Addr} {f : Nat → Bool} (hf : ∃ i, i < 9 ∧ f i = true) (W : Well H wl) (h : H p = some (.tup (given 9 f fun i : Nat => V.int (i : Int)))) : At wl.w C H (.ref p) (memU f) := by
  refine .tup (Tu.of h (isB_mem hf)) (not_well W h) ?_
  unfold given
  exact atl_ints _
theorem memU_bd (f : Nat → Bool) : Bd (memU f) 800 1 0 := by
  have hl : ((List.range 9).filter f).length ≤ 9 := by
    have := List.length_filter_le f (List.range 9)
    rwa [List.length_range] at this
  have key : ∀ ns : List Nat, (∀ n ∈ ns, n < 9) → wtL (ns.map fun i : Nat => U.int (i : Int)) = 82 * ns.length ∧ depL (ns.map fun i : Nat => U.int (i : Int)) = 0 ∧ tidyL 0 (ns.map fun i : Nat => U.int (i : Int)) := by
    intro ns
    induction ns with
    | nil => exact fun _ => ⟨rfl, rfl, trivial⟩
    | cons n ns ih =>
      intro h
      obtain ⟨i1, i2, i3⟩ := ih fun x hx => h x (List.mem_cons_of_mem _ hx)
      have := h n (List.mem_cons_self ..)
      refine ⟨?_, ?_, ?_, i3⟩
      · simp only [List.map_cons, wtL, i1, List.length_cons, wt]
        omega
      · simp only [List.map_cons, depL, i2, dep]
        omega
      · exact tidy_int (by omega)
  obtain ⟨k1, k2, k3⟩ := key ((List.range 9).filter f) fun n hn => by
    have := (List.mem_filter.mp hn).1
    rwa [List.mem_range] at this
  unfold memU
  refine ⟨?_, ?_, ?_⟩
  · simp only [wt, k1]
    omega
  · simp only [dep, k2]
    omega
  · simpa only [tidy] using k3
end Hs
namespace Hs
open PySem PySem.Spec PyProof.Rows L2 Hu Evl
open Hk (SI ltSI)
abbrev lHeads : Stmt := topS 158
abbrev lBlocks : Stmt := topS 159
theorem gNamed_pln {u : U} (h : gNamed u = true) : pln u := by
  obtain ⟨h1, h2, h3⟩ := and3 (a := gTO 3 u) (b := gNam (nth u 0)) (c := gStamp (nth u 1) && gRow (nth u 2)) h
  obtain ⟨h4, h5⟩ := and2 h3
  obtain ⟨us, rfl, hl⟩ := gTO_of h1
  match us, hl with
  | [a, b, c], _ =>
    obtain ⟨z, rfl⟩ := gNam_str (u := a) h2
    exact ⟨trivial, gStamp_pln (u := b) h4, gRow_pln (u := c) h5, trivial⟩
theorem gBlk_pln {u : U} (h : gBlk u = true) : pln u := by
  obtain ⟨h1, h2, h3⟩ := and3 h
  obtain ⟨a, b, rfl⟩ := gPair_two h1
  have h3' : gPiece b = true := h3
  have pb : pln b := by
    cases b with
    | str z => trivial
    | _ => cases h3'
  exact ⟨gId_pln (u := a) h2, pb, trivial⟩
theorem nam_bd {z : Str} (h : gNam (.str z) = true) : Bd (.str z) 20 0 0 := by
  have h' : ((decide (1 ≤ z.length) && decide (z.length ≤ 8)) && (TL.tl z).all lowc) = true := h
  obtain ⟨h1, h2⟩ := and2 h'
  have h3 := of_decide_eq_true (and2 h1).2
  refine ⟨?_, Nat.zero_le _, ?_⟩
  · simp only [wt]
    omega
  · simp only [tidy]
    intro c hc
    have := List.all_eq_true.mp h2 c hc
    unfold lowc at this
    have q := and2 this
    have q1 := of_decide_eq_true q.1
    have q2 := of_decide_eq_true q.2
    refine .inl ?_
    unfold okS okc
    rw [decide_eq_true (by omega), decide_eq_true (by omega), decide_eq_true (by omega)]
    rfl
section
variable {P : Program} {wd : World} {K : PySem.W.Frag} {mg : Str → Option Value} {base : Heap} {C : Addr} {fD : Addr} {dD : FuncData}
/-- the rows that were made stand as they were while the list of them grows -/
theorem atl_put {w : Addr} {H : Hp} {l : Addr} {xs : List V} {o : HO} {vs : List V} {us : List U} (hl : H l = some (.lst xs)) (hp : ∀ u ∈ us, pln u) (h : AtL w C H vs us) : AtL w C (upd H l o) vs us :=
  atl_tups (tq_upd hl) (plnL_all.mpr hp) h
/-- the ids that the law draws: a list of them -/
structure Ids (C : Addr) (wl : WA) (H : Hp) (I : Addr) (xs : List V) (js : List (Int × Int)) : Prop where
  h : H I = some (.lst xs)
  ne : I ≠ wl.w
  p : P2 H xs js
  n : 1 ≤ js.length ∧ js.length ≤ 10
  b : ∀ j ∈ js, 1 ≤ j.1 ∧ j.1 ≤ 99 ∧ 1 ≤ j.2 ∧ j.2 < 2 ^ 60
  st : js.Pairwise ltI2
theorem Ids.keep {wl : WA} {H H' : Hp} {I : Addr} {xs : List V} {js : List (Int × Int)} (x : Ids C wl H I xs js) (W : Well H wl) (D : Drawn wl H H') : Ids C wl H' I xs js :=
  ⟨D.keep _ _ x.ne x.h, x.ne, x.p.tups fun b zs hb => D.keep _ _ (not_well W hb) hb, x.n, x.b, x.st⟩
end
end Hs
namespace Hs
open PySem PySem.Spec PyProof.Rows L2 Hu Evl
open Hk (SI ltSI)
section
variable {P : Program} {wd : World} {K : PySem.W.Frag} {mg : Str → Option Value} {base : Heap} {C : Addr}
/-- a right head, its name open -/
theorem gNamed_is {u : U} (h : gNamed u = true) : ∃ z a b, u = .tup [.str z, a, b] ∧ gStamp a = true ∧ gRow b = true := by
  obtain ⟨h1, h2, h3⟩ := and3 (a := gTO 3 u) (b := gNam (nth u 0)) (c := gStamp (nth u 1) && gRow (nth u 2)) h
  obtain ⟨us, rfl, hl⟩ := gTO_of h1
  match us, hl with
  | [x, a, b], _ =>
    obtain ⟨z, rfl⟩ := gNam_str (u := x) h2
    obtain ⟨h4, h5⟩ := and2 (a := gStamp a) (b := gRow b) h3
    exact ⟨z, a, b, rfl, h4, h5⟩
def named (z : Str) (u : U) : Bool := match nth u 0 with | .str y => decide (y = z) | _ => false
end
end Hs
namespace Hs
open PySem PySem.Spec PyProof.Rows L2 Hu Evl
section
variable {X : Cx} {pins : List (Addr × Obj)} {σ : L2.St} {H : Hp} {s : Shared}
theorem valsII {i j : Int} {its : List Value} (h : Vals [.int i, .int j] its) : ∃ t t', its = [.int i t, .int j t'] := by
  cases h with
  | cons h1 h2 => cases h2 with
    | cons h3 h4 =>
      cases h4
      obtain ⟨t, rfl⟩ := h1
      obtain ⟨t', rfl⟩ := h3
      exact ⟨t, t', rfl⟩
theorem eqAt_pair {A : Around} {a b : Addr} {p q : Int × Int} (I : Inv X pins σ H s) (ha : H a = some (.tup [.int p.1, .int p.2])) (hb : H b = some (.tup [.int q.1, .int q.2])) (hu : A.units < cLine) : SeqAt.EqAt A s (.ref a) (.ref b) (decide (p = q)) := by
  by_cases e : a = b
  · subst e
    have : p = q := by
      rw [ha] at hb
      injection hb with hb
      injection hb with hb
      injection hb with h1 hb
      injection hb with h2 _
      exact Prod.ext (V.int.inj h1) (V.int.inj h2)
    rw [decide_eq_true this]
    exact SeqAt.EqAt.same _
  · obtain ⟨i1, r1, p1, _⟩ := I.tuple (st_of ha)
    obtain ⟨i2, r2, p2, _⟩ := I.tuple (st_of hb)
    obtain ⟨t1, t2, rfl⟩ := valsII r1
    obtain ⟨t3, t4, rfl⟩ := valsII r2
    have m := SeqAt.RcAt.tuples (A := A) (s := s) (e := fun n => if n = 0 then p.1 == q.1 else p.2 == q.2) p1 p2 hu (fun j h1 h2 => by
      have hj : j = 0 ∨ j = 1 := by
        have h1' : j < 2 := h1
        omega
      rcases hj with rfl | rfl
      · exact SeqAt.EqAt.int_int p.1 t1 q.1 t3
      · exact SeqAt.EqAt.int_int p.2 t2 q.2 t4)
    have e1 : ((List.range (min ([Value.int p.1 t1, .int p.2 t2].toArray.size) ([Value.int q.1 t3, .int q.2 t4].toArray.size))).all (fun n => if n = 0 then p.1 == q.1 else p.2 == q.2) && ([Value.int p.1 t1, .int p.2 t2].toArray.size == [Value.int q.1 t3, .int q.2 t4].toArray.size)) = decide (p = q) := by
      show ((List.range 2).all (fun n => if n = 0 then p.1 == q.1 else p.2 == q.2) && true) = _
      rw [Bool.and_true]
      show ((p.1 == q.1) && ((p.2 == q.2) && true)) = _
      rw [Bool.and_true, Bool.eq_iff_iff, Bool.and_eq_true, beq_iff_eq, beq_iff_eq, decide_eq_true_eq]
      exact ⟨fun h => Prod.ext h.1 h.2, fun h => by rw [h]; exact ⟨rfl, rfl⟩⟩
    rw [e1] at m
    exact .of_refs e m
theorem P2.mem {vs : List V} {ks : List (Int × Int)} (h : P2 H vs ks) : ∀ {us : List Value}, Vals vs us → us.length = ks.length ∧ ∀ (n : Nat) (u : Value), us[n]? = some u → ∃ (a : Addr) (k : Int × Int), u = .ref a ∧ ks[n]? = some k ∧ H a = some (.tup [.int k.1, .int k.2]) := by
  induction h with
  | nil => intro us r; cases r; exact ⟨rfl, fun n u e => by simp at e⟩
  | @cons p k vs ks hp _ ih =>
    intro us r
    cases r with
    | cons h1 h2 =>
      cases h1
      obtain ⟨l, m⟩ := ih h2
      refine ⟨by rw [List.length_cons, List.length_cons, l], fun n u e => ?_⟩
      cases n with
      | zero => cases e; exact ⟨p, k, rfl, rfl, hp⟩
      | succ n => exact m n u e
open Classical in
/-- what stands at a value is this pair -/
noncomputable def isP (H : Hp) (q : Int × Int) (u : Value) : Bool := decide (∃ a, u = .ref a ∧ H a = some (.tup [.int q.1, .int q.2]))
theorem isP_at {a : Addr} {k q : Int × Int} (h : H a = some (.tup [.int k.1, .int k.2])) : isP H q (.ref a) = decide (k = q) := by
  classical
  unfold isP
  rw [Bool.eq_iff_iff]
  refine Iff.trans (Iff.intro of_decide_eq_true decide_eq_true) (Iff.trans ?_ (Iff.intro decide_eq_true of_decide_eq_true))
  constructor
  · rintro ⟨b, e, hb⟩
    cases e
    rw [h] at hb
    injection hb with hb
    injection hb with hb
    injection hb with h1 hb
    injection hb with h2 _
    exact Prod.ext (V.int.inj h1) (V.int.inj h2)
  · rintro rfl
    exact ⟨a, rfl, h⟩
theorem any_isP {vs : List V} {ks : List (Int × Int)} {us : List Value} (h : P2 H vs ks) (r : Vals vs us) (q : Int × Int) : us.any (isP H q) = decide (q ∈ ks) := by
  obtain ⟨l, m⟩ := h.mem r
  rw [Bool.eq_iff_iff, List.any_eq_true, decide_eq_true_eq]
  constructor
  · rintro ⟨u, hu, e⟩
    obtain ⟨n, hn⟩ := List.getElem?_of_mem hu
    obtain ⟨a, k, rfl, hk, ha⟩ := m n u hn
    rw [isP_at ha, decide_eq_true_eq] at e
    rw [← e]
    exact List.mem_of_getElem? hk
  · intro hq
    obtain ⟨n, hn⟩ := List.getElem?_of_mem hq
    have hlt : n < us.length := by
      have := (List.getElem?_eq_some_iff.mp hn).1
      omega
    obtain ⟨a, k, e, hk, ha⟩ := m n us[n] (List.getElem?_eq_getElem hlt)
    rw [hn] at hk
    cases hk
    refine ⟨us[n], List.getElem_mem hlt, ?_⟩
    rw [e, isP_at ha]
    exact decide_eq_true rfl
def rInP (K : PySem.W.Frag) (neg : Bool) : R2 := fun x y H Q => ∃ (p a : Addr) (xs : List V) (ks : List (Int × Int)) (q : Int × Int), y = .ref p ∧ SqL K H p xs ∧ P2 H xs ks ∧ x = .ref a ∧ H a = some (.tup [.int q.1, .int q.2]) ∧ Q (.bl (if neg then !decide (q ∈ ks) else decide (q ∈ ks))) H
theorem op_inP (hu : X.A.units + 64 < cLine) : OpR X (compareOp .In) (rInP X.K false) := by
  intro pins s σ H x y v u Q I rx ry h
  obtain ⟨p, a, xs, ks, q, rfl, hq, hp, rfl, ha, k⟩ := h
  cases ry
  cases rx
  obtain ⟨its, r, pl, hz⟩ := I.list hq
  refine SeqAt.in_listAt (isP H q) pl.isList (fun w hw => ?_) ⟨.bl _, H, I, rfl, ?_⟩
  · obtain ⟨n, hn⟩ := List.getElem?_of_mem (show w ∈ its by simpa using hw)
    obtain ⟨b, kk, rfl, hk, hb⟩ := (hp.mem r).2 n w hn
    rw [isP_at hb]
    exact eqAt_pair I hb ha (by show X.A.units + 1 < cLine; omega)
  · rw [show its.toArray.any (isP H q) = its.any (isP H q) by simp, any_isP hp r]
    exact k
end
end Hs
namespace Hs
open PySem PySem.Spec PyProof.Rows L2 Hu Evl
section
variable {K : PySem.W.Frag} {σ : L2.St} {H : Hp} {tl te : TE} {t : TT}
theorem P2.append {H : Hp} {vs ws : List V} {ks ls : List (Int × Int)} (h : P2 H vs ks) (h2 : P2 H ws ls) : P2 H (vs ++ ws) (ks ++ ls) := by
  induction h with
  | nil => exact h2
  | cons h _ ih => exact .cons h ih
theorem P2.ex {H H' : Hp} {vs : List V} {ks : List (Int × Int)} (e : Ex H H') (h : P2 H vs ks) : P2 H' vs ks := h.tups fun b zs hb => e _ _ hb
end
section
variable {P : Program} {wd : World} {K : PySem.W.Frag} {mg : Str → Option Value} {base : Heap} {C : Addr}
def idP (u : U) : Int × Int := match u with | .tup [.int i, .int j] => (i, j) | _ => (0, 0)
def rowP (u : U) : List (Int × Int) := match u with | .tup us => us.map idP | _ => []
theorem row_p2 {w : Addr} {H : Hp} : ∀ {us : List U} {xs : List V}, AtL w C H xs us → us.all gId = true → P2 H xs (us.map idP)
  | [], _, .nil, _ => .nil
  | u :: us, _, .cons h t, hall => by
    rw [List.all_cons, Bool.and_eq_true] at hall
    obtain ⟨i, j, rfl⟩ := gId_two hall.1
    obtain ⟨p, rfl, hp⟩ := two_ints h
    exact .cons (k := (i, j)) hp (row_p2 t hall.2)
end
end Hs
namespace Hs
open PySem PySem.Spec PyProof.Rows L2 Hu Evl
open Hk (SI ltSI nearOk)
section
variable {K : PySem.W.Frag} {a : Addr} {xs : List V} {g g1 : TG} {tt tt1 : TT} {tk tv : TE} {wi1 : TI} {vs vs1 : List Nat} {σ : L2.St} {G : Hp} {D : Addr} {Qd : Hp → Prop}
theorem d2_tup (Pv : Nat → Hp → Prop) (h0 : Pv 0 (upd G D (.dT []))) (hl : ∀ i H, i ≤ xs.length → Pv i H → SqT K H a xs)
    (hs : ∀ i x H, xs[i]? = some x → Pv i H → g x (wipe σ vs) H fun τ H2 => wipe τ vs = wipe σ vs ∧ tt τ H2 fun ok H3 => if ok = true then wi1 τ H3 fun J1 H4 => nearOk D J1 g1 tt1 tk tv vs1 τ (Pv (i + 1)) H4 else Pv (i + 1) H3) (hd : ∀ H, Pv xs.length H → Qd H) :
    ∃ W : Nat → Nat → Hp → Prop, (∃ m, W 0 m (upd G D (.dT []))) ∧ ∀ i m H, W i m H →
      ((Itt K a).stop i H ∧ Qd H) ∨ ((Itt K a).go i H ∧ ∃ Nx : Hp → Prop, (∀ H', Nx H' → ∃ m', m' < m ∧ W (i + 1) m' H') ∧ ∀ x H', (Itt K a).yld i H x H' → g x (wipe σ vs) H' fun τ H2 => wipe τ vs = wipe σ vs ∧ tt τ H2 fun ok H3 =>
        if ok = true then wi1 τ H3 fun J1 H4 => nearOk D J1 g1 tt1 tk tv vs1 τ Nx H4 else Nx H3) := by
  refine ⟨fun i m H => m = xs.length - i ∧ i ≤ xs.length ∧ Pv i H, ⟨xs.length, (Nat.sub_zero _).symm, Nat.zero_le _, h0⟩, ?_⟩
  rintro i m H ⟨em, le, p⟩
  by_cases h : i < xs.length
  · exact .inr ⟨⟨xs, xs[i], hl i H le p, List.getElem?_eq_getElem h⟩, Pv (i + 1), fun H' p' => ⟨xs.length - (i + 1), by omega, rfl, h, p'⟩, fun x H' y => by
      have ex := y.2 xs (hl i H le p)
      rw [y.1]
      exact hs i x H ex p⟩
  · have e : i = xs.length := by omega
    exact .inl ⟨⟨xs, hl i H le p, by omega⟩, hd H (by rw [← e]; exact p)⟩
theorem near_tup {τ : L2.St} {Nx : Hp → Prop} (Pv : Nat → Hp → Prop) (h0 : Pv 0 G) (hl : ∀ i H, i ≤ xs.length → Pv i H → SqT K H a xs)
    (hs : ∀ i x H, xs[i]? = some x → Pv i H → g1 x (wipe τ vs1) H fun τ3 G5 => wipe τ3 vs1 = wipe τ vs1 ∧ tt1 τ3 G5 fun ok G6 =>
      if ok = true then tk τ3 G6 fun y G7 => tv τ3 G7 fun z G8 => ∃ b kvs k, y = .ref b ∧ G8 b = some (.tup (k.map kV)) ∧ G8 D = some (.dT kvs) ∧ kvs.length < sizeLine ∧ Pv (i + 1) (upd G8 D (.dT (putK kvs k z))) else Pv (i + 1) G6) (hd : ∀ H, Pv xs.length H → Nx H) :
    nearOk D (Itt K a) g1 tt1 tk tv vs1 τ Nx G := by
  refine ⟨fun i m H => m = xs.length - i ∧ i ≤ xs.length ∧ Pv i H, ⟨xs.length, (Nat.sub_zero _).symm, Nat.zero_le _, h0⟩, ?_⟩
  rintro i m H ⟨em, le, p⟩
  by_cases h : i < xs.length
  · exact .inr ⟨⟨xs, xs[i], hl i H le p, List.getElem?_eq_getElem h⟩, Pv (i + 1), fun H' p' => ⟨xs.length - (i + 1), by omega, rfl, h, p'⟩, fun x H' y => by
      have ex := y.2 xs (hl i H le p)
      rw [y.1]
      exact hs i x H ex p⟩
  · have e : i = xs.length := by omega
    exact .inl ⟨⟨xs, hl i H le p, by omega⟩, hd H (by rw [← e]; exact p)⟩
end
/-- a pair of integers as a key -/
def kP (q : Int × Int) : List L2.Key := [.inl q.1, .inl q.2]
theorem kP_inj {p q : Int × Int} (h : kP p = kP q) : p = q := by
  injection h with h1 h2
  injection h2 with h3 _
  exact Prod.ext (Sum.inl.inj h1) (Sum.inl.inj h3)
/-- the keys are just these pairs -/
structure Kys (kvs : List (List L2.Key × V)) (ps : List (Int × Int)) : Prop where
  all : ∀ k ∈ kvs.map (·.1), ∃ q ∈ ps, k = kP q
  has : ∀ q ∈ ps, kP q ∈ kvs.map (·.1)
  bl : ∀ p ∈ kvs, p.2 = .bl true
theorem putK_keys {kvs : List (List L2.Key × V)} {k : List L2.Key} {v : V} : ∀ x, x ∈ (putK kvs k v).map (·.1) ↔ x ∈ kvs.map (·.1) ∨ x = k := by
  intro x
  unfold putK
  split
  · rename_i h
    rw [List.map_map]
    have e : ((fun p : List L2.Key × V => p.1) ∘ fun kv => if kv.1 = k then (kv.1, v) else kv) = fun p => p.1 := by
      funext p
      show (if p.1 = k then (p.1, v) else p).1 = p.1
      split <;> rfl
    first
      | rw [e]
      | (have e2 : ((fun p : List L2.Key × V => p.1) ∘ fun kv => if kv.1 = k then (k, v) else kv) = fun p => p.1 := by
          funext p
          show (if p.1 = k then (k, v) else p).1 = p.1
          split
          · rename_i q; exact q.symm
          · rfl
         rw [e2])
    constructor
    · exact .inl
    · rintro (h1 | rfl)
      · exact h1
      · rw [List.any_eq_true] at h
        obtain ⟨p, hp, q⟩ := h
        exact List.mem_map.mpr ⟨p, hp, of_decide_eq_true q⟩
  · rw [List.map_append, List.mem_append]
    simp
theorem Kys.put {kvs : List (List L2.Key × V)} {ps : List (Int × Int)} (h : Kys kvs ps) (q : Int × Int) : Kys (putK kvs (kP q) (.bl true)) (ps ++ [q]) := by
  refine ⟨fun k hk => ?_, fun p hp => ?_, fun p hp => ?_⟩
  · rcases (putK_keys k).mp hk with h1 | rfl
    · obtain ⟨p, hp, e⟩ := h.all k h1
      exact ⟨p, List.mem_append_left _ hp, e⟩
    · exact ⟨q, by simp, rfl⟩
  · rw [putK_keys]
    rcases List.mem_append.mp hp with h1 | h1
    · exact .inl (h.has p h1)
    · rw [List.mem_singleton] at h1
      exact .inr (by rw [h1])
  · unfold putK at hp
    split at hp
    · obtain ⟨x, hx, e⟩ := List.mem_map.mp hp
      split at e <;> subst e
      · rfl
      · exact h.bl _ hx
    · rcases List.mem_append.mp hp with h1 | h1
      · exact h.bl p h1
      · rw [List.mem_singleton] at h1
        rw [h1]
abbrev sLedIds : Stmt := topS 74
section
variable {P : Program} {wd : World} {K : PySem.W.Frag} {mg : Str → Option Value} {base : Heap} {C : Addr}
theorem scLedIds : FnScope ["heads", "name", "stamp", "row", "block_id"] ["heads"] (defScope sLedIds) := ⟨rfl, rfl, rfl, by decide +kernel, rfl, by decide +kernel, by decide +kernel⟩
def spLI (C : Addr) : Sp := fun vs H Q _ => ∃ (x : V) (us : List U) (w : Addr), vs = [x] ∧ At w C H x (.tup us) ∧ us.all gNamed = true ∧ us.length ≤ 3000 ∧ ∀ d kvs H', H d = none → Same H H' → H' d = some (.dT kvs) → kvs.length ≤ 40000 → Kys kvs (us.flatMap fun h => rowP (nth h 2)) → Q (.ref d) H'
theorem ok_ledIds {f : Addr} {fd : FuncData} (D : Df K mg "led_ids" sLedIds ["heads"] f fd) : FnOk P wd K mg base CX0 1 f fd ["heads"] (spLI C) := by
  refine D.F.ok scLedIds (fun vs H Q E h => ?_) (fun cdv A outer s H vs Q E hr h => ?_)
  · obtain ⟨x, us, w, rfl, _⟩ := h
    rfl
  obtain ⟨x, us, w, rfl, hx, hall, hz, k⟩ := h
  refine ⟨_, pss_one (ps_ret (Hk.pe_d2 [4] (own := [("name", 1), ("stamp", 2), ("row", 3), ("block_id", 4)]) (g := gTup K 3 (gCons (gName 1) (gCons (gName 2) (gCons (gName 3) gNil)))) (g1 := gName 4) (wi1 := iTup K (tVar 3)) (tt := tTest (tOp rNotN (tVar 3) (tC .non))) (tt1 := tYes) (tk := tVar 4) (tv := tC (.bl true)) (Nat.lt_of_le_of_lt (Nat.add_le_add_left (by decide : 1 ≤ 64) _) (room_hu hr)) rfl scLedIds.nd (pi_tup (pv 0))
    (blkOk_by (N := ["heads", "name", "stamp", "row", "block_id"]) (sc := defScope sLedIds) (by decide +kernel)) (by decide)
    ⟨fun _ _ _ _ _ => pg_tup rfl (pgs_cons (pg_name (i := 1) scLedIds.nd rfl (.inl rfl)) (pgs_cons (pg_name (i := 2) scLedIds.nd rfl (.inl rfl)) (pgs_cons (pg_name (i := 3) scLedIds.nd rfl (.inl rfl)) pgs_nil))), fun _ _ _ _ _ => pts_one (pt_cmpR op_notN1 (pv 3) pe_non (nomark _)), fun _ _ _ _ _ => pv 4, fun _ _ _ _ _ => pe_bl⟩
    ⟨fun _ _ _ _ _ => pi_tup (pv 3), fun _ _ _ _ _ => pg_name (i := 4) scLedIds.nd rfl (.inl rfl), fun _ _ _ _ _ => pts_nil, fun _ _ => rfl⟩)), ?_⟩
  obtain ⟨a, xs, rfl, ha, na, hl⟩ := at_tup hx
  have hlen := AtL.length hl
  refine ⟨_, rfl, a, rfl, ⟨xs, Tu.st ha⟩, fun Dd hD => d2_tup (xs := xs) (fun i G => Ex H G ∧ ∃ kvs, G Dd = some (.dT kvs) ∧ kvs.length ≤ 12 * i ∧ Kys kvs ((us.take i).flatMap fun h => rowP (nth h 2))) ⟨Ex.new hD, [], upd_same, Nat.zero_le _, ⟨fun k h => (List.not_mem_nil h).elim, fun q h => (List.not_mem_nil h).elim, fun q h => (List.not_mem_nil h).elim⟩⟩ (fun i G _ p => Tu.st (Tu.ex p.1 ha)) (fun i x G hi p => ?_) (fun G p => ?_)⟩
  · obtain ⟨e1, kvs, p2, pl, p3⟩ := p
    have hi' : i < us.length := by
      have := (List.getElem?_eq_some_iff.mp hi).1
      omega
    obtain ⟨v', hv', av⟩ := AtL.get hl (List.getElem?_eq_getElem hi')
    rw [hi] at hv'
    cases hv'
    have hg : us[i]? = some us[i] := List.getElem?_eq_getElem hi'
    have tk : (us.take (i + 1)).flatMap (fun h => rowP (nth h 2)) = (us.take i).flatMap (fun h => rowP (nth h 2)) ++ rowP (nth us[i] 2) := by
      rw [List.take_add_one, hg, List.flatMap_append]
      simp
    have gn := List.all_eq_true.mp hall _ (List.getElem_mem hi')
    generalize us[i] = un at av tk gn
    obtain ⟨z, s1, r1, rfl, _, gr⟩ := gNamed_is gn
    obtain ⟨b, ys, rfl, hb, nb, hys⟩ := at_tup av
    obtain ⟨y0, y1, y2, rfl, ay2⟩ : ∃ y0 y1 y2, ys = [y0, y1, y2] ∧ At w C H y2 r1 := by
      cases hys with
      | cons h1 h2 => cases h2 with
        | cons h3 h4 => cases h4 with
          | cons h5 h6 => cases h6; exact ⟨_, _, _, rfl, h5⟩
    refine ⟨b, _, rfl, Tu.st (Tu.ex e1 hb), rfl, _, _, rfl, _, _, rfl, _, _, rfl, rfl, rfl, ?_⟩
    refine (et_test (b := !isNon r1) (ev_op (ev_var rfl) ev_c fun G' eg Q q => ⟨rfl, by rw [at_non ay2]; exact q G' (Ex.refl G')⟩)) G (Ex.refl G) _ fun G1 e2 => ?_
    have hrow : (rowP (nth (.tup [.str z, s1, r1]) 2)) = rowP r1 := rfl
    rw [hrow] at tk
    have e12 := e1.trans e2
    cases r1 with
    | non =>
      refine ⟨e12, kvs, e2 _ _ p2, by omega, ?_⟩
      rw [tk]
      show Kys kvs (_ ++ [])
      rw [List.append_nil]
      exact p3
    | tup ids =>
      obtain ⟨g1, g2⟩ := and2 (a := decide (ids.length ≤ 12)) (b := ids.all gId) gr
      have g1' := of_decide_eq_true g1
      obtain ⟨c, cs, rfl, hc, _, hcl⟩ := at_tup ay2
      have pr := row_p2 hcl g2
      have prl := pr.len
      rw [List.length_map] at prl
      show (if (true : Bool) = true then _ else _)
      rw [if_pos rfl]
      refine ⟨_, rfl, c, rfl, ⟨cs, Tu.st (Tu.ex e12 hc)⟩, near_tup (xs := cs) (fun j G => Ex H G ∧ ∃ kvs', G Dd = some (.dT kvs') ∧ kvs'.length ≤ 12 * i + j ∧ Kys kvs' ((us.take i).flatMap (fun h => rowP (nth h 2)) ++ (ids.map idP).take j)) ?_ (fun j G _ p => Tu.st (Tu.ex p.1 hc)) (fun j x G hj p => ?_) (fun G p => ?_)⟩
      · refine ⟨e12, kvs, e2 _ _ p2, by omega, ?_⟩
        rw [List.take_zero, List.append_nil]
        exact p3
      · obtain ⟨q1, kvs', q3, q4, q5⟩ := p
        have hj' : j < ids.length := by
          have := (List.getElem?_eq_some_iff.mp hj).1
          omega
        obtain ⟨c', q, rfl, hq, hc'⟩ := pr.get hj
        refine ⟨rfl, et_yes G (Ex.refl G) _ fun G2 e3 => ?_⟩
        rw [if_pos rfl]
        have kx : G2 c' = some (.tup [.int q.1, .int q.2]) := e3 _ _ (q1 _ _ hc')
        refine ⟨_, rfl, c', kvs', kP q, rfl, kx, e3 _ _ q3, sz_lt (by omega), Ex.mut (q1.trans e3) hD, _, upd_same, ?_, ?_⟩
        · have := length_putK kvs' (kP q) (.bl true)
          omega
        · rw [List.take_add_one, hq]
          show Kys _ (_ ++ ((ids.map idP).take j ++ [q]))
          rw [← List.append_assoc]
          exact q5.put q
      · obtain ⟨q1, kvs', q3, q4, q5⟩ := p
        refine ⟨q1, kvs', q3, by omega, ?_⟩
        rw [tk]
        have : cs.length = (ids.map idP).length := prl.trans (List.length_map (f := idP)).symm
        rw [this, List.take_length] at q5
        exact q5
    | bl b => cases gr
    | int j => cases gr
    | str z => cases gr
    | lst l => cases gr
    | dct l => cases gr
    | exc => cases gr
  · obtain ⟨p1, kvs, p2, pl, p3⟩ := p
    rw [hlen, List.take_length] at p3
    exact k Dd kvs G hD p1 p2 (by omega) p3
end
end Hs
namespace Hu
open PySem PySem.Spec PyProof.Rows L2
end Hu
namespace Hs
open PySem PySem.Spec PyProof.Rows L2 Hu Evl
open Hk (SI ltSI nearOk)
theorem chain_nodup {α : Type} {R : α → α → Prop} {xs : List α} (d : α) (tr : ∀ a b c, R a b → R b c → R a c) (ir : ∀ a, ¬ R a a) (h : ∀ k, k + 1 < xs.length → R (xs.getD k d) (xs.getD (k + 1) d)) : xs.Nodup := by
  have far : ∀ (m k : Nat), k + m + 1 < xs.length → R (xs.getD k d) (xs.getD (k + m + 1) d) := by
    intro m
    induction m with
    | zero => exact fun k hk => h k hk
    | succ m ih => exact fun k hk => tr _ _ _ (ih k (by omega)) (h (k + m + 1) hk)
  refine List.pairwise_iff_getElem.mpr fun i j hi hj lt e => ?_
  have := far (j - i - 1) i (by omega)
  rw [show i + (j - i - 1) + 1 = j by omega, getD_some (List.getElem?_eq_getElem hi), getD_some (List.getElem?_eq_getElem hj), e] at this
  exact ir _ this
theorem ascN_get {n : Nat} {lt : Nat → Bool} (h : ascN n lt = true) : ∀ k, k + 1 < n → lt k = true := fun k hk => by
  unfold ascN at h
  exact List.all_eq_true.mp h k (List.mem_range.mpr (by omega))
theorem ascZ_nodup {zs : List Str} (h : ascZ zs = true) : zs.Nodup :=
  chain_nodup (R := fun a b : Str => a.cps.toList < b.cps.toList) e0z (fun a b c => List.lt_trans) (fun a => List.lt_irrefl _) fun k hk => of_decide_eq_true (ascN_get h k hk)
theorem i2_ltK {a b : Int × Int} (h : Hk.ltK (kP a) (kP b) = true) : ltI2 a b := by
  have h : (if Hk.kEq (.inl a.1) (.inl b.1) = true then (if Hk.kEq (.inl a.2) (.inl b.2) = true then Hk.ltK [] [] else Hk.kLt (.inl a.2) (.inl b.2)) else Hk.kLt (.inl a.1) (.inl b.1)) = true := h
  split at h
  · rename_i q
    split at h
    · cases h
    · exact .inr ⟨Sum.inl.inj (Hk.kEq_iff.mp q), of_decide_eq_true h⟩
  · exact .inl (of_decide_eq_true h)
theorem blk_key {u : U} (h : gBlk u = true) : keysU (nth u 0) = kP (idP (nth u 0)) := by
  obtain ⟨i, j, b, rfl⟩ := gBlk_is h
  rfl
theorem blocks_keys {us : List U} (h : us.all gBlk = true) : (us.map fun u => keysU (nth u 0)) = us.map fun u => kP (idP (nth u 0)) := List.map_congr_left fun u hu => blk_key (List.all_eq_true.mp h u hu)
theorem ascK_nodup {us : List U} (ha : us.all gBlk = true) (h : ascK (us.map fun u => keysU (nth u 0)) = true) : (us.map fun u => kP (idP (nth u 0))).Nodup := by
  rw [blocks_keys ha] at h
  have e : us.map (fun u => kP (idP (nth u 0))) = (us.map fun u => idP (nth u 0)).map kP := by rw [List.map_map]; rfl
  rw [e] at h ⊢
  have nd : (us.map fun u => idP (nth u 0)).Nodup := by
    refine chain_nodup (R := ltI2) (0, 0) (fun a b c h1 h2 => ?_) (fun a h => ?_) fun k hk => ?_
    · unfold ltI2 at *
      omega
    · unfold ltI2 at h
      omega
    · have := ascN_get h k (by rw [List.length_map]; exact hk)
      generalize us.map (fun u => idP (nth u 0)) = ps at hk this
      have h1 : k < ps.length := by omega
      rw [getD_some (k := k) (by rw [List.getElem?_map, List.getElem?_eq_getElem h1]; rfl), getD_some (k := k + 1) (by rw [List.getElem?_map, List.getElem?_eq_getElem hk]; rfl)] at this
      rw [getD_some (List.getElem?_eq_getElem h1), getD_some (List.getElem?_eq_getElem hk)]
      exact i2_ltK this
  exact List.Pairwise.map _ (fun a b h e => h (kP_inj e)) nd
/-- what a right table has -/
structure TabU (u : U) (hs bs : List U) : Prop where
  t : gTO 10 u = true
  h : nth u 4 = .tup hs
  b : nth u 5 = .tup bs
  ha : hs.all gNamed = true
  ba : bs.all gBlk = true
  hn : (hs.map fun u => strU (nth u 0)).Nodup
  bn : (bs.map fun u => kP (idP (nth u 0))).Nodup
theorem heads_tup {u : U} (h : gHeads u = true) : ∃ us, u = .tup us := by
  cases u with
  | tup us => exact ⟨us, rfl⟩
  | _ => cases h
theorem blocks_tup {u : U} (h : gBlocks u = true) : ∃ us, u = .tup us := by
  cases u with
  | tup us => exact ⟨us, rfl⟩
  | _ => cases h
theorem nil_is {u : U} (h : nilU u = true) : u = .tup [] := by
  cases u with
  | tup us =>
    cases us with
    | nil => rfl
    | cons a r => cases h
  | _ => cases h
theorem gHeads_us {us : List U} (h : gHeads (.tup us) = true) : us.all gNamed = true ∧ (us.map fun u => strU (nth u 0)).Nodup := by
  obtain ⟨a, b⟩ := and2 (a := us.all gNamed) (b := ascZ (us.map fun u => strU (nth u 0))) h
  exact ⟨a, ascZ_nodup b⟩
theorem gBlocks_us {us : List U} (h : gBlocks (.tup us) = true) : us.all gBlk = true ∧ (us.map fun u => kP (idP (nth u 0))).Nodup := by
  obtain ⟨a, b⟩ := and2 (a := us.all gBlk) (b := ascK (us.map fun u => keysU (nth u 0))) h
  exact ⟨a, ascK_nodup a b⟩
theorem gTable_has {u : U} (h : gTable u = true) : ∃ hs bs, TabU u hs bs := by
  unfold gTable at h
  obtain ⟨h0, h⟩ := and2 h
  obtain ⟨_, h⟩ := and2 h
  obtain ⟨_, h⟩ := and2 h
  obtain ⟨_, h⟩ := and2 h
  have key : ∃ hs bs, nth u 4 = .tup hs ∧ nth u 5 = .tup bs ∧ gHeads (.tup hs) = true ∧ gBlocks (.tup bs) = true := by
    split at h
    · obtain ⟨_, h⟩ := and2 h
      obtain ⟨_, h⟩ := and2 h
      obtain ⟨h4, h5⟩ := and2 h
      exact ⟨[], [], nil_is h4, nil_is h5, rfl, rfl⟩
    · obtain ⟨_, h⟩ := and2 h
      unfold gKept at h
      obtain ⟨_, h⟩ := and2 h
      obtain ⟨_, h⟩ := and2 h
      obtain ⟨h4, h5⟩ := and2 h
      have e4 : nth (keptU u) 2 = nth u 4 := rfl
      have e5 : nth (keptU u) 3 = nth u 5 := rfl
      rw [e4] at h4
      rw [e5] at h5
      obtain ⟨hs, q4⟩ := heads_tup h4
      obtain ⟨bs, q5⟩ := blocks_tup h5
      rw [q4] at h4
      rw [q5] at h5
      exact ⟨hs, bs, q4, q5, h4, h5⟩
  obtain ⟨hs, bs, e4, e5, h4, h5⟩ := key
  obtain ⟨a1, a2⟩ := gHeads_us h4
  obtain ⟨b1, b2⟩ := gBlocks_us h5
  exact ⟨hs, bs, h0, e4, e5, a1, b1, a2, b2⟩
/-- its heads are few enough -/
theorem TabU.hlen {u : U} {hs bs : List U} (T : TabU u hs bs) (s : Sm u) : hs.length ≤ 3000 := by
  have h4 : wt (nth u 4) ≤ 160000 := s.nth 4
  rw [T.h] at h4
  have all := T.ha
  have : ∀ us : List U, us.all gNamed = true → 60 * us.length ≤ wtL us := by
    intro us
    induction us with
    | nil => intro _; exact Nat.zero_le _
    | cons v us ih =>
      intro h
      rw [List.all_cons, Bool.and_eq_true] at h
      have h1 := ih h.2
      obtain ⟨z, a, b, rfl, gs, _⟩ := gNamed_is h.1
      obtain ⟨i, j, rfl⟩ := gStamp_two gs
      simp only [wtL, wt, List.length_cons] at h1 ⊢
      omega
  have := this hs all
  simp only [wt] at h4
  omega
theorem TabU.blen {u : U} {hs bs : List U} (T : TabU u hs bs) (s : Sm u) : bs.length ≤ 40000 := by
  have h5 : wt (nth u 5) ≤ 160000 := s.nth 5
  rw [T.b] at h5
  have := wt_len4 bs
  simp only [wt] at h5
  omega
end Hs
namespace Hs
open PySem PySem.Spec PyProof.Rows L2 Hu Evl
open Hk (SI ltSI nearOk)
theorem room_h1 {k : Nat} {A : Around} (r : Room k A) : A.units + 1 < cLine := Nat.lt_of_le_of_lt (Nat.add_le_add_left (by decide : 1 ≤ 64) _) (room_hu r)
theorem Kys.get {kvs : List (List L2.Key × V)} {ps : List (Int × Int)} (h : Kys kvs ps) (q : Int × Int) : (valV kvs (kP q)).isSome = decide (q ∈ ps) := by
  rw [← valV_any]
  rw [Bool.eq_iff_iff, List.any_eq_true, decide_eq_true_eq]
  constructor
  · rintro ⟨p, hp, e⟩
    obtain ⟨q', h1, h2⟩ := h.all p.1 (List.mem_map.mpr ⟨p, hp, rfl⟩)
    rw [of_decide_eq_true e] at h2
    rw [kP_inj h2]
    exact h1
  · intro hq
    obtain ⟨p, hp, e⟩ := List.mem_map.mp (h.has q hq)
    exact ⟨p, hp, decide_eq_true e⟩
def hsOf (u : U) : List U := match nth u 4 with | .tup us => us | _ => []
def bsOf (u : U) : List U := match nth u 5 with | .tup us => us | _ => []
def ledPs (hs : List U) : List (Int × Int) := hs.flatMap fun h => rowP (nth h 2)
def inLed (hs : List U) (b : U) : Bool := decide (idP (nth b 0) ∈ ledPs hs)
def ledU (u : U) : U := .tup ((bsOf u).filter (inLed (hsOf u)))
theorem TabU.hs {u : U} {hs bs : List U} (T : TabU u hs bs) : hsOf u = hs := by
  unfold hsOf
  rw [T.h]
theorem TabU.bs {u : U} {hs bs : List U} (T : TabU u hs bs) : bsOf u = bs := by
  unfold bsOf
  rw [T.b]
section
variable {w C : Addr} {H : Hp} {K : PySem.W.Frag}
/-- a right block, as it stands -/
theorem blk_at {x : V} {u : U} (hx : At w C H x u) (g : gBlk u = true) : ∃ (p c : Addr) (z : Str) (q : Int × Int), x = .ref p ∧ Tu H p [.ref c, .str z] [.tup [.int q.1, .int q.2], .str z] ∧ H c = some (.tup ((kP q).map kV)) ∧ idP (nth u 0) = q := by
  have pl := gBlk_pln g
  have g' : (gPair u && (gId (nth u 0) && gPiece (nth u 1))) = true := g
  obtain ⟨i, j, b, rfl⟩ := gBlk_is g
  obtain ⟨_, h2⟩ := and2 g'
  obtain ⟨_, h3⟩ := and2 h2
  have hb : gPiece b = true := h3
  obtain ⟨z, rfl⟩ : ∃ z, b = .str z := by
    cases b with
    | str z => exact ⟨z, rfl⟩
    | _ => cases hb
  obtain ⟨p, xs, rfl, hp, _, hl⟩ := at_tup hx
  cases hl with
  | cons h1 h2 => cases h2 with
    | cons h3 h4 =>
      cases h4
      cases at_str h3
      obtain ⟨c, rfl, hc⟩ := two_ints h1
      exact ⟨p, c, z, (i, j), rfl, hp, hc, rfl⟩
end
abbrev sLedBy : Stmt := topS 75
section
variable {P : Program} {wd : World} {K : PySem.W.Frag} {mg : Str → Option Value} {base : Heap} {C : Addr}
theorem scLedBy : FnScope ["heads", "blocks", "led", "block"] ["heads", "blocks"] (defScope sLedBy) := ⟨rfl, rfl, rfl, by decide +kernel, rfl, by decide +kernel, by decide +kernel⟩
def spBy2 (C : Addr) : Sp := fun vs H Q _ => ∃ (x y : V) (hs bs : List U) (w : Addr), vs = [x, y] ∧ At w C H x (.tup hs) ∧ At w C H y (.tup bs) ∧ hs.all gNamed = true ∧ bs.all gBlk = true ∧ hs.length ≤ 3000 ∧ bs.length ≤ 40000 ∧ (∃ o, H w = some o) ∧
  ∀ v H', Same H H' → At w C H' v (.tup (bs.filter (inLed hs))) → Q v H'
theorem ok_ledBy {f f1 : Addr} {fd d1 : FuncData} (D : Df K mg "led_by" sLedBy ["heads", "blocks"] f fd) (B : Bt mg) (D1 : Df K mg "led_ids" sLedIds ["heads"] f1 d1) : FnOk P wd K mg base CX0 2 f fd ["heads", "blocks"] (spBy2 C) := by
  have G1 : FnOk P wd K mg base CX0 1 f1 d1 ["heads"] (spLI C) := ok_ledIds D1
  refine D.F.ok scLedBy (fun vs H Q E h => ?_) (fun cdv A outer s H vs Q E hr h => ?_)
  · obtain ⟨x, y, hs, bs, w, rfl, _⟩ := h
    rfl
  obtain ⟨x, y, hs, bs, w, rfl, hx, hy, ha, hb, hz, hz2, hw, k⟩ := h
  refine ⟨_, pss_cons (ps_set (i := 2) scLedBy.nd rfl (.inr rfl) (pe_call G1 hr (by rfl) D1.g D1.F.kp D1.b .nil pass0 (pa_cons (pv 0) pa_nil)))
    (pss_one (ps_ret (pe_callTy call_tupF (by rfl) B.tup boot_tuple' (pa_cons (pe_lc (own := [("block", 3)]) (g := gName 3) (tt := tTest (tDIn (tOp (rIxT K) (tVar 3) (tC (.int 0))) (tVar 2))) rfl scLedBy.nd (pi_tup (pv 1)) (blkOk_by (N := ["heads", "blocks", "led", "block"]) (sc := defScope sLedBy) (by decide +kernel))
      (fun _ _ _ _ _ => pg_name (i := 3) scLedBy.nd rfl (Or.inl rfl)) (fun _ _ _ _ _ => pts_one (pt_cmp (pc_din (room_h1 hr) (pe_ix (show IxR _ (rIxT K) from ix_tup) (pv 3) pe_int (fun _ _ => rfl)) (pv 2)) (by rfl))) (fun _ _ _ _ _ => pv 3)) pa_nil)))), ?_⟩
  refine ⟨_, rfl, x, hs, w, rfl, hx, ha, hz, fun d kvs H1 hd e1 hk _ ky => ?_⟩
  obtain ⟨a, xs, rfl, hta, na, hl⟩ := at_tup (ex_at e1 hy)
  have hw1 : ∃ o, H1 w = some o := hw.imp fun o q => e1 _ _ q
  refine (ed_tupL (K := K) (C := C) hw1 (us := (bs.filter (inLed hs)).map fun u => u) (lc_D (j := 3) (vs := [3]) (g := inLed hs) (f := fun u => u) (ev_var rfl) hta hl hz2 (fun u hu => gBlk_pln (List.all_eq_true.mp hb u hu)) (fun _ => rfl) (fun v u G hu eg hv => ?_) (fun v u G hu _ eg hv => ed_ev (ev_var rfl) hv))) H1 (Ex.refl H1) _ fun v H2 e2 a2 => ?_
  · obtain ⟨p, c, z, q, rfl, hp, hc, hq⟩ := blk_at hv (List.all_eq_true.mp hb u hu)
    refine fun G1 g1 Q qq => ?_
    refine (ev_ixT (K := K) (te := tVar 3) (j := 0) (ev_var rfl) hp rfl) G1 g1 _ fun G2 g2 => ⟨_, rfl, d, _, rfl, DGet.t (k := kP q) ((eg.trans (g1.trans g2)) _ _ hk) ((g1.trans g2) _ _ hc), _, rfl, ?_⟩
    rw [ky.get q]
    have : inLed hs u = decide (q ∈ ledPs hs) := by
      unfold inLed
      rw [hq]
    rw [this] at qq
    exact qq G2 g2
  · rw [List.map_id'] at a2
    exact k v H2 (e1.trans e2) a2
end
end Hs
namespace Hs
open PySem PySem.Spec PyProof.Rows L2 Hu Evl
open Hk (SI ltSI nearOk)
section
variable {σ : L2.St} {H : Hp} {te : TE} {ta : TA} {Q : VK} {D : Ends} {vs : List V} {sp : Sp} {E : XK} {r : List V → Hp → VK → Prop} {R : It → Hp → Prop} {R2 : List V → Hp → Prop} {tz : TS} {i : Nat}
theorem ret1 (h : te σ H fun v H' => D.rt v H') : tRet te D σ H := h
theorem cons1 (h : te σ H fun v H1 => ta σ H1 fun vs H2 => R2 (v :: vs) H2) : tCons te ta σ H R2 := h
theorem asg1 (h : te σ H fun v H' => tz D (σ.set i (some v)) H') : tSeq (tAsg te (gName i)) tz D σ H := h
theorem call1 (ha : EvA ta σ H vs) (k : ∀ H2, Ex H H2 → sp (vs ++ []) H2 Q E) : tCall sp [] E ta σ H Q := ha H (Ex.refl H) _ k
end
end Hs
namespace Hs
open PySem PySem.Spec PyProof.Rows L2 Hu Evl
open Hk (SI ltSI nearOk)
/-- the dict of right heads -/
inductive NV (w C : Addr) (H : Hp) : List (L2.Key × V) → List U → Prop
  | nil : NV w C H [] []
  | cons {z : Str} {s r : U} {v : V} {kvs : List (L2.Key × V)} {us : List U} : At w C H v (.tup [s, r]) → NV w C H kvs us → NV w C H ((.inr z, v) :: kvs) (.tup [.str z, s, r] :: us)
section
variable {w C : Addr} {H H' : Hp}
theorem NV.len {kvs : List (L2.Key × V)} {us : List U} (h : NV w C H kvs us) : kvs.length = us.length := by
  induction h with
  | nil => rfl
  | cons _ _ ih => rw [List.length_cons, List.length_cons, ih]
theorem NV.tups {kvs : List (L2.Key × V)} {us : List U} (k : ∀ b o, b ≠ w → TQ o → H b = some o → H' b = some o) (h : NV w C H kvs us) (g : us.all gNamed = true) : NV w C H' kvs us := by
  induction h with
  | nil => exact .nil
  | cons h _ ih =>
    rw [List.all_cons, Bool.and_eq_true] at g
    have p := gNamed_pln g.1
    exact .cons (at_tups k ⟨p.2.1, p.2.2.1, trivial⟩ h) (ih g.2)
theorem NV.append {kvs k2 : List (L2.Key × V)} {us u2 : List U} (h : NV w C H kvs us) (h2 : NV w C H k2 u2) : NV w C H (kvs ++ k2) (us ++ u2) := by
  induction h with
  | nil => exact h2
  | cons h _ ih => exact .cons h ih
theorem named_str {z y : Str} {s r : U} : named z (.tup [.str y, s, r]) = decide (y = z) := rfl
theorem NV.vnone {kvs : List (L2.Key × V)} {us : List U} (h : NV w C H kvs us) {z : Str} (g : us.find? (named z) = none) : valV kvs (.inr z) = none := by
  induction h with
  | nil => rfl
  | @cons y s r v kvs us h _ ih =>
    rw [List.find?_cons] at g
    by_cases q : y = z
    · rw [named_str, decide_eq_true q] at g
      cases g
    · rw [named_str, decide_eq_false q] at g
      rw [valV_neg fun e => q (Sum.inr.inj e)]
      exact ih g
theorem NV.vsome {kvs : List (L2.Key × V)} {us : List U} (h : NV w C H kvs us) {z : Str} {u : U} (g : us.find? (named z) = some u) : ∃ v, valV kvs (.inr z) = some v ∧ At w C H v (.tup [nth u 1, nth u 2]) := by
  induction h with
  | nil => cases g
  | @cons y s r v kvs us h _ ih =>
    rw [List.find?_cons] at g
    by_cases q : y = z
    · rw [named_str, decide_eq_true q] at g
      cases g
      rw [valV_pos (congrArg Sum.inr q)]
      exact ⟨v, rfl, h⟩
    · rw [named_str, decide_eq_false q] at g
      rw [valV_neg fun e => q (Sum.inr.inj e)]
      exact ih g
end
/-- told as data, in whatever it stands -/
inductive Lk (K : PySem.W.Frag) (H : Hp) : V → U → Prop
  | non : Lk K H .non .non
  | int (i : Int) : Lk K H (.int i) (.int i)
  | str (z : Str) : Lk K H (.str z) (.str z)
  | tup {a : Addr} {xs : List V} {us : List U} : SqT K H a xs → xs.length = us.length → (∀ (i : Nat) (x : V) (u : U), xs[i]? = some x → us[i]? = some u → Lk K H x u) → Lk K H (.ref a) (.tup us)
theorem sqt_ex {K : PySem.W.Frag} {H H' : Hp} {a : Addr} {xs : List V} (e : Ex H H') (h : SqT K H a xs) : SqT K H' a xs := by
  rcases h with h | h
  · refine .inl ?_
    rcases h with h | ⟨o, h⟩
    · exact .inl (e _ _ h)
    · exact .inr ⟨o, e _ _ h⟩
  · exact .inr h
theorem Lk.ex {K : PySem.W.Frag} {H H' : Hp} {v : V} {u : U} (e : Ex H H') (h : Lk K H v u) : Lk K H' v u := by
  induction h with
  | non => exact .non
  | int i => exact .int i
  | str z => exact .str z
  | tup h1 h2 _ ih => exact .tup (sqt_ex e h1) h2 fun i x u h3 h4 => ih i x u h3 h4
mutual
theorem lk_at {K : PySem.W.Frag} {w C : Addr} {H : Hp} : ∀ {u : U} {v : V}, pln u → At w C H v u → Lk K H v u
  | _, _, _, .non => .non
  | .bl _, _, p, _ => p.elim
  | _, _, _, .int i => .int i
  | _, _, _, .str z => .str z
  | _, _, p, .tup h n l => .tup (Tu.st h) (AtL.length l) (lk_atl p l)
  | _, _, p, .lst _ _ _ => p.elim
  | _, _, p, .dct _ _ _ _ _ => p.elim
  | _, _, p, .exc _ _ _ _ => p.elim
theorem lk_atl {K : PySem.W.Frag} {w C : Addr} {H : Hp} : ∀ {us : List U} {xs : List V}, plnL us → AtL w C H xs us → ∀ (i : Nat) (x : V) (u : U), xs[i]? = some x → us[i]? = some u → Lk K H x u
  | _, _, _, .nil => fun i x u h _ => by simp at h
  | _, _, p, .cons h l => fun i x u h1 h2 => by
    cases i with
    | zero =>
      cases h1
      cases h2
      exact lk_at p.1 h
    | succ i => exact lk_atl p.2 l i x u (by simpa using h1) (by simpa using h2)
end
end Hs
namespace Hs
open PySem PySem.Spec PyProof.Rows L2 Hu Evl
open Hk (SI ltSI nearOk)
theorem depL_mem {u : U} : ∀ {us : List U}, u ∈ us → dep u ≤ depL us
  | _ :: us, .head _ => by simp only [depL]; omega
  | _ :: us, .tail _ h => by have := depL_mem h; simp only [depL]; omega
theorem tyx_tup {K : PySem.W.Frag} {H : Hp} {a : Addr} {xs : List V} (h : SqT K H a xs) : TyX K H (.ref a) (.type "tuple") := by
  rcases h with h | ⟨o, its, n, h1, h2, _⟩
  · rcases h with h | ⟨o, h⟩
    · exact .base (.tup h)
    · exact .fTuple h
  · exact .kTuple h1 h2
section
variable {X : Cx} {C : Addr} {e : Expr} {te : TE} {p p2 pos : Pos}
theorem pe_isiY {T : String} {T' : Str} (S : Bs X.K X.mg C) (hg : Gl X "isinstance") (hgT : Gl X T') (hT : X.mg T' = none) (bT : bootBuiltins T' = some (.type T)) (he : PE X e te) (hn : T' ≠ "__name__") (hd : (T' == ("__debug__" : Str)) = false)
    (hst : starEach [e] X.env = (false, eval e X.env) :: starEach [] X.env := by rfl) (hst2 : starEach [e, .Name T' p2] X.env = (false, eval e X.env) :: starEach [.Name T' p2] X.env := by rfl) (hpl : (backTo pos (starEach [.Name T' p2] X.env)).any (·.1) = false := by rfl)
    (hst3 : starEach [.Name T' p2] X.env = (false, eval (.Name T' p2) X.env) :: starEach [] X.env := by rfl) :
    PE X (.Call (.Name "isinstance" p) [e, .Name T' p2] [] pos) (tCB (L2.rIsi X.K) (tCons te (tCons (tC (.ty T)) tNil))) :=
  pe_callB call_isi hg S.B.isi boot_isi (pa_cons he (pa_cons (pe_bltn hgT hT bT (show RelV (.ty T) (.type T) from rfl) hn hd) pa_nil hst3) hst2) (by decide) (by decide) hst2 hpl
end
section
variable {K : PySem.W.Frag} {σ : L2.St} {H : Hp} {te : TE}
theorem ev_isiI {T : String} {b : Bool} {i : Int} (h : Ev te σ H (.int i)) (hk : kitB "int" T = some b) : Ev (tCB (L2.rIsi K) (tCons te (tCons (tC (.ty T)) tNil))) σ H (.bl b) :=
  ev_cb (ea_cons h (ea_cons ev_c ea_nil)) fun H1 e Q q => ⟨_, .ty T, _, .type T, _, rfl, .ty T, .base (.int i), kit_ty hk, q H1 (Ex.refl H1)⟩
theorem ev_isiS {T : String} {b : Bool} {s : Str} (h : Ev te σ H (.str s)) (hk : kitB "str" T = some b) : Ev (tCB (L2.rIsi K) (tCons te (tCons (tC (.ty T)) tNil))) σ H (.bl b) :=
  ev_cb (ea_cons h (ea_cons ev_c ea_nil)) fun H1 e Q q => ⟨_, .ty T, _, .type T, _, rfl, .ty T, .base (.str s), kit_ty hk, q H1 (Ex.refl H1)⟩
theorem ev_isiT {T : String} {b : Bool} {a : Addr} {xs : List V} (h : Ev te σ H (.ref a)) (hx : SqT K H a xs) (hk : kitB "tuple" T = some b) : Ev (tCB (L2.rIsi K) (tCons te (tCons (tC (.ty T)) tNil))) σ H (.bl b) :=
  ev_cb (ea_cons h (ea_cons ev_c ea_nil)) fun H1 e Q q => ⟨_, .ty T, _, .type T, _, rfl, .ty T, tyx_tup (sqt_ex e hx), kit_ty hk, q H1 (Ex.refl H1)⟩
theorem kitII : kitB "int" "int" = some true := by decide +kernel
theorem kitIB : kitB "int" "bool" = some false := by decide +kernel
theorem kitSS : kitB "str" "str" = some true := by decide +kernel
theorem kitTT : kitB "tuple" "tuple" = some true := by decide +kernel
theorem ev_lenSq {a : Addr} {xs : List V} (h : Ev te σ H (.ref a)) (hx : SqT K H a xs) : Ev (tCB (rLenQ K) (tCons te tNil)) σ H (.int (xs.length : Int)) :=
  ev_cb (ea_cons h ea_nil) fun H1 e Q q => ⟨a, xs, rfl, .inr (sqt_ex e hx), q H1 (Ex.refl H1)⟩
end
section
variable {P : Program} {wd : World} {K : PySem.W.Frag} {mg : Str → Option Value} {base : Heap} {C : Addr}
def spAl (K : PySem.W.Frag) (C : Addr) (n : Nat) : Sp := fun vs H Q _ => ∃ (x y : V) (u : U) (w : Addr), vs = [x, y] ∧ Lk K H x u ∧ At w C H y u ∧ wt u ≤ 160000 ∧ pln u ∧ dep u < n ∧ ∀ H', Same H H' → Q (.bl true) H'
theorem lk_tup {H : Hp} {v : V} {us : List U} (h : Lk K H v (.tup us)) : ∃ a xs, v = .ref a ∧ SqT K H a xs ∧ xs.length = us.length ∧ ∀ (i : Nat) (x : V) (u : U), xs[i]? = some x → us[i]? = some u → Lk K H x u := by
  cases h with
  | tup h1 h2 h3 => exact ⟨_, _, rfl, h1, h2, h3⟩
theorem lk_non {H : Hp} {v : V} {u : U} (h : Lk K H v u) : decide (v = .non) = isNon u := by
  cases h <;> rfl
end
end Hs
namespace Hs
open PySem PySem.Spec PyProof.Rows L2 Hu Evl
abbrev sNames : Stmt := topS 35
abbrev sIds : Stmt := topS 36
abbrev sCounts : Stmt := topS 37
abbrev sPartK : Stmt := topS 38
abbrev sLot : Stmt := topS 39
abbrev sPartsK : Stmt := topS 40
abbrev sMachine : Stmt := topS 45
abbrev sTold : Stmt := topS 47
abbrev sLetter : Stmt := topS 46
section
variable {P : Program} {wd : World} {K : PySem.W.Frag} {mg : Str → Option Value} {base : Heap} {C : Addr}
theorem asc_strT {H : Hp} {a : Addr} {zs : List Str} (ha : SqT K H a (zs.map V.str)) (hz : zs.length ≤ 40000) (Q : VK) (q : ∀ H2, Ex H H2 → Q (.bl (ascZ zs)) H2) (E : XK) : spAscG K (rIxT K) rLtS [.ref a] H Q E := by
  refine ⟨a, zs.map V.str, (fun k => decide ((zs.getD k e0z).cps.toList < (zs.getD (k + 1) e0z).cps.toList)), rfl, .inr ha, (by rw [List.length_map]; exact hz), fun k x hx => rv_ixT ha (atI_nat hx), fun k x y hx hy => ?_, ?_⟩
  · rw [List.getElem?_map] at hx hy
    cases h1 : zs[k]? with
    | none => rw [h1] at hx; cases hx
    | some z => cases h2 : zs[k + 1]? with
      | none => rw [h2] at hy; cases hy
      | some z2 =>
        rw [h1] at hx
        rw [h2] at hy
        cases hx
        cases hy
        dsimp only
        rw [getD_some h1, getD_some h2]
        exact fun H1 e Q q => ⟨z, z2, rfl, rfl, q H1 (Ex.refl H1)⟩
  · rw [List.length_map]
    exact q
theorem asc_tkT {H : Hp} {a : Addr} {ys : List V} {kss : List (List L2.Key)} (ha : SqT K H a ys) (ht : TkL H ys kss) (hk : kinK kss) (hz : kss.length ≤ 40000) (Q : VK) (q : ∀ H2, Ex H H2 → Q (.bl (ascK kss)) H2) (E : XK) : spAscG K (rIxT K) (Hk.rLtK K) [.ref a] H Q E := by
  refine ⟨a, ys, (fun k => Hk.ltK (kss.getD k []) (kss.getD (k + 1) [])), rfl, .inr ha, (by rw [ht.len]; exact hz), fun k x hx => rv_ixT ha (atI_nat hx), fun k x y hx hy => ?_, ?_⟩
  · obtain ⟨p, ks, rfl, h1, hp⟩ := ht.get hx
    obtain ⟨p2, ls, rfl, h2, hp2⟩ := ht.get hy
    dsimp only
    rw [getD_some h1, getD_some h2]
    exact fun H1 e Q q => ⟨p, p2, ks, ls, rfl, rfl, st_of (e _ _ hp), st_of (e _ _ hp2), hk _ (List.mem_of_getElem? h1) _ (List.mem_of_getElem? h2), q H1 (Ex.refl H1)⟩
  · rw [ht.len]
    exact q
theorem ok_ascZT {f : Addr} {fd : FuncData} (F : Fun K "is_ascending" "is_ascending" sAscending f fd) (B : Bt mg) : FnOk P wd K mg base CX0 1 f fd ["things"] (spAscG K (rIxT K) rLtS) :=
  ok_ascG F B (fun X e => e ▸ ix_tup) (fun X e _ => op_lt_str)
theorem ok_ascKT {f : Addr} {fd : FuncData} (F : Fun K "is_ascending" "is_ascending" sAscending f fd) (B : Bt mg) : FnOk P wd K mg base CX0 1 f fd ["things"] (spAscG K (rIxT K) (Hk.rLtK K)) :=
  ok_ascG F B (fun X e => e ▸ ix_tup) (fun X e h => e ▸ Hk.op_ltK (by omega))
def gNames (u : U) : Bool := tv u fun us => us.all gNam && ascZ (us.map strU)
def gIds (u : U) : Bool := tv u fun us => us.all gId && ascK (us.map keysU)
def gCounts (m : Nat) (u : U) : Bool := tv u fun us => decide (us.length ≤ m) && us.all gCnt
theorem names_str {w : Addr} {H : Hp} : ∀ {us : List U} {xs : List V}, AtL w C H xs us → us.all gNam = true → xs = (us.map strU).map V.str
  | [], _, .nil, _ => rfl
  | u :: us, _, .cons h t, hall => by
    rw [List.all_cons, Bool.and_eq_true] at hall
    obtain ⟨z, rfl⟩ := gNam_str hall.1
    rw [at_str h, names_str t hall.2]
    rfl
theorem ids_tk {w : Addr} {H : Hp} : ∀ {us : List U} {xs : List V}, AtL w C H xs us → us.all gId = true → TkL H xs (us.map keysU)
  | [], _, .nil, _ => .nil
  | u :: us, _, .cons h t, hall => by
    rw [List.all_cons, Bool.and_eq_true] at hall
    obtain ⟨i, j, rfl⟩ := gId_two hall.1
    obtain ⟨p, rfl, hp⟩ := two_ints h
    exact .cons (ks := [.inl i, .inl j]) hp (ids_tk t hall.2)
theorem kin_ids {us : List U} (h : us.all gId = true) : kinK (us.map keysU) := fun ks h1 ls h2 => by
  obtain ⟨u, hu, rfl⟩ := List.mem_map.mp h1
  obtain ⟨x, hx, rfl⟩ := List.mem_map.mp h2
  obtain ⟨i, j, rfl⟩ := gId_two (List.all_eq_true.mp h u hu)
  obtain ⟨i', j', rfl⟩ := gId_two (List.all_eq_true.mp h x hx)
  rfl
/-- a call with a value there of which something is known -/
theorem ev_callV {sp : Sp} {E : XK} {z v : V} {te : TE} {σ : L2.St} {H : Hp} (h : Ev te σ H v) (hs : ∀ H1, Ex H H1 → ∀ Q : VK, (∀ H2, Ex H1 H2 → Q z H2) → ∀ E, sp [v] H1 Q E) : Ev (tCall sp [] E (tCons te tNil)) σ H z :=
  ev_call (ea_cons h ea_nil) fun H1 e Q q E => hs H1 e Q q E
theorem scNames : FnScope ["thing", "item"] ["thing"] (defScope sNames) := ⟨rfl, rfl, rfl, by decide +kernel, rfl, by decide +kernel, by decide +kernel⟩
theorem jw_names {f f1 f2 : Addr} {fd d1 d2 : FuncData} (D : Df K mg "is_names" sNames ["thing"] f fd) (S : Bs K mg C) (J : Jd P wd K mg base C 2 "is_name" "thing" f1 d1 gNam) (DA : Df K mg "is_ascending" sAscending ["things"] f2 d2) : Jw P wd K mg base C 6 "is_names" "thing" f fd Sm gNames := by
  refine ⟨D.F.ok scNames lenJw (fun cdv A outer s H vs Q E hr h => ?_), D.g, D.F.kp, D.b⟩
  obtain ⟨v, u, w, rfl, hat, fi, hs, hw, k⟩ := h
  have GA : FnOk P wd K mg base CX0 5 f2 d2 ["things"] (spAscG K (rIxT K) rLtS) := (ok_ascZT DA.F S.B).mono (by decide)
  refine ⟨_, pss_one (ps_ret (pe_and (pe_isiX S (by rfl) (by rfl) S.B.tup boot_tuple' (by decide) (pv 0) (by decide) (by decide)) (pe_and (pe_callB (cr_all rfl) (by rfl) S.B.all boot_all' (pa_cons (pe_lc (own := [("item", 1)]) (g := gName 1) (tt := tYes) rfl scNames.nd (pi_tup (pv 0)) (blkOk_by (N := ["thing", "item"]) (sc := defScope sNames) (by decide +kernel))
        (fun _ _ _ _ _ => pg_name (i := 1) scNames.nd rfl (Or.inl rfl)) (fun _ _ _ _ _ => pts_nil) (fun _ _ _ _ _ => pe_J J hr (by decide) (by rfl) pass0 (pv 1))) pa_nil))
      (pe_one (pe_call GA hr (by rfl) DA.g DA.F.kp DA.b .nil pass0 (pa_cons (pv 0) pa_nil)))))), ?_⟩
  refine s_ret (ev_andV (b := gNames u) (ev_isi (ev_var rfl) hat) fun q => ?_) fun H1 e => ?_
  · obtain ⟨us, rfl⟩ := isT_tup q
    obtain ⟨a, xs, rfl, ha, _, hl⟩ := at_tup hat
    refine ev_andV (a := us.all gNam) (b := ascZ (us.map strU)) (ev_allT (g := gNam) (ev_var rfl) ha fi.len hl (fun _ => rfl) fun x u hu hx => ev_J (ev_var rfl) hx (fi.tup u hu)) fun q2 => ?_
    have hx := names_str hl q2
    exact ev_callV (ev_var rfl) fun H1 e Q f E => asc_strT (zs := us.map strU) (by rw [← hx]; exact Tu.st (Tu.ex e ha)) (by rw [List.length_map]; exact Sm.len hs) Q f E
  · have : (isT u "tuple" && gNames u) = gNames u := by
      cases u with
      | tup us => show (isT (.tup us) "tuple" && _) = _; rw [show isT (.tup us) "tuple" = true by simp [isT, isS, tyU], Bool.true_and]
      | _ => unfold gNames tv; rw [Bool.and_false]
    rw [this]
    exact k H1 e
theorem scIds : FnScope ["thing", "item"] ["thing"] (defScope sIds) := ⟨rfl, rfl, rfl, by decide +kernel, rfl, by decide +kernel, by decide +kernel⟩
theorem jw_ids {f f1 f2 : Addr} {fd d1 d2 : FuncData} (D : Df K mg "is_ids" sIds ["thing"] f fd) (S : Bs K mg C) (J : Jd P wd K mg base C 3 "is_block_id" "thing" f1 d1 gId) (DA : Df K mg "is_ascending" sAscending ["things"] f2 d2) : Jw P wd K mg base C 6 "is_ids" "thing" f fd Sm gIds := by
  refine ⟨D.F.ok scIds lenJw (fun cdv A outer s H vs Q E hr h => ?_), D.g, D.F.kp, D.b⟩
  obtain ⟨v, u, w, rfl, hat, fi, hs, hw, k⟩ := h
  have GA : FnOk P wd K mg base CX0 5 f2 d2 ["things"] (spAscG K (rIxT K) (Hk.rLtK K)) := (ok_ascKT DA.F S.B).mono (by decide)
  refine ⟨_, pss_one (ps_ret (pe_and (pe_isiX S (by rfl) (by rfl) S.B.tup boot_tuple' (by decide) (pv 0) (by decide) (by decide)) (pe_and (pe_callB (cr_all rfl) (by rfl) S.B.all boot_all' (pa_cons (pe_lc (own := [("item", 1)]) (g := gName 1) (tt := tYes) rfl scIds.nd (pi_tup (pv 0)) (blkOk_by (N := ["thing", "item"]) (sc := defScope sIds) (by decide +kernel))
        (fun _ _ _ _ _ => pg_name (i := 1) scIds.nd rfl (Or.inl rfl)) (fun _ _ _ _ _ => pts_nil) (fun _ _ _ _ _ => pe_J J hr (by decide) (by rfl) pass0 (pv 1))) pa_nil))
      (pe_one (pe_call GA hr (by rfl) DA.g DA.F.kp DA.b .nil pass0 (pa_cons (pv 0) pa_nil)))))), ?_⟩
  refine s_ret (ev_andV (b := gIds u) (ev_isi (ev_var rfl) hat) fun q => ?_) fun H1 e => ?_
  · obtain ⟨us, rfl⟩ := isT_tup q
    obtain ⟨a, xs, rfl, ha, _, hl⟩ := at_tup hat
    refine ev_andV (a := us.all gId) (b := ascK (us.map keysU)) (ev_allT (g := gId) (ev_var rfl) ha fi.len hl (fun _ => rfl) fun x u hu hx => ev_J (ev_var rfl) hx (fi.tup u hu)) fun q2 => ?_
    exact ev_callV (ev_var rfl) fun H1 e Q f E => asc_tkT (Tu.st (Tu.ex e ha)) (ids_tk (ex_atl e hl) q2) (kin_ids q2) (by rw [List.length_map]; exact Sm.len hs) Q f E
  · have : (isT u "tuple" && gIds u) = gIds u := by
      cases u with
      | tup us => show (isT (.tup us) "tuple" && _) = _; rw [show isT (.tup us) "tuple" = true by simp [isT, isS, tyU], Bool.true_and]
      | _ => unfold gIds tv; rw [Bool.and_false]
    rw [this]
    exact k H1 e
def spCts (C : Addr) : Sp := fun vs H Q _ => ∃ (v : V) (u : U) (w : Addr) (m : Nat), vs = [v, .int (m : Int)] ∧ At w C H v u ∧ Fine u ∧ ∀ H', Same H H' → Q (.bl (gCounts m u)) H'
theorem scCounts : FnScope ["thing", "most", "item"] ["thing", "most"] (defScope sCounts) := ⟨rfl, rfl, rfl, by decide +kernel, rfl, by decide +kernel, by decide +kernel⟩
theorem ok_counts {f f1 : Addr} {fd d1 : FuncData} (D : Df K mg "is_counts" sCounts ["thing", "most"] f fd) (S : Bs K mg C) (J : Jd P wd K mg base C 2 "is_count" "thing" f1 d1 gCnt) : FnOk P wd K mg base CX0 3 f fd ["thing", "most"] (spCts C) := by
  refine D.F.ok scCounts (fun vs H Q E h => ?_) (fun cdv A outer s H vs Q E hr h => ?_)
  · obtain ⟨v, u, w, m, rfl, _⟩ := h
    rfl
  obtain ⟨v, u, w, m, rfl, hat, fi, k⟩ := h
  refine ⟨_, pss_one (ps_ret (pe_and (pe_isiX S (by rfl) (by rfl) S.B.tup boot_tuple' (by decide) (pv 0) (by decide) (by decide)) (pe_and (pe_cmpR op_le (pe_callB call_len_seq (by rfl) S.B.len PySem.boot_len (pa_cons (pv 0) pa_nil)) (pv 1) (nomark _))
      (pe_one (pe_callB (cr_all rfl) (by rfl) S.B.all boot_all' (pa_cons (pe_lc (own := [("item", 2)]) (g := gName 2) (tt := tYes) rfl scCounts.nd (pi_tup (pv 0)) (blkOk_by (N := ["thing", "most", "item"]) (sc := defScope sCounts) (by decide +kernel))
        (fun _ _ _ _ _ => pg_name (i := 2) scCounts.nd rfl (Or.inl rfl)) (fun _ _ _ _ _ => pts_nil) (fun _ _ _ _ _ => pe_J J hr (by decide) (by rfl) pass0 (pv 2))) pa_nil)))))), ?_⟩
  refine s_ret (ev_andV (b := gCounts m u) (ev_isi (ev_var rfl) hat) fun q => ?_) fun H1 e => ?_
  · obtain ⟨us, rfl⟩ := isT_tup q
    obtain ⟨a, xs, rfl, ha, _, hl⟩ := at_tup hat
    refine ev_andV (a := decide (us.length ≤ m)) (b := us.all gCnt) (ev_is (ev_op (ev_lenTU (K := K) (ev_var rfl) ha hl) (ev_var rfl) rv_I0) ?_) fun q2 => ev_allT (g := gCnt) (ev_var rfl) ha fi.len hl (fun _ => rfl) fun x u hu hx => ev_J (ev_var rfl) hx (fi.tup u hu)
    congr 1
    exact decide_eq_decide.mpr (by omega)
  · have : (isT u "tuple" && gCounts m u) = gCounts m u := by
      cases u with
      | tup us => show (isT (.tup us) "tuple" && _) = _; rw [show isT (.tup us) "tuple" = true by simp [isT, isS, tyU], Bool.true_and]
      | _ => unfold gCounts tv; rw [Bool.and_false]
    rw [this]
    exact k H1 e
end
end Hs
namespace Hs
open PySem PySem.Spec PyProof.Rows L2 Hu Evl
section
variable {P : Program} {wd : World} {K : PySem.W.Frag} {mg : Str → Option Value} {base : Heap} {C : Addr}
def eqZ (z y : Str) : Bool := decide (V.str z = V.str y)
def gLot (z : Str) (u : U) : Bool := if eqZ z "heads" = true then gHeads u else if eqZ z "blocks" = true then gBlocks u else if eqZ z "names" = true then gNames u else if eqZ z "ids" = true then gIds u else if eqZ z "sums" = true then gCounts 64 u else eqZ z "factor" && gCounts 65 u
def gMany (u : U) : Bool := iv u fun i => decide (1 ≤ i) && decide (i ≤ 64)
def gPart (z : Str) (u : U) : Bool := if inV (.str z) [.str "epoch", .str "talk", .str "size"] = true then gCnt u else if eqZ z "name" = true then gNam u else if eqZ z "hand" = true then gHand u else if inV (.str z) [.str "stamp", .str "ballot"] = true then gStamp u else if eqZ z "row" = true then gRow u else
  if eqZ z "id" = true then gId u else if eqZ z "piece" = true then gPiece u else if eqZ z "members" = true then gMembers u else if eqZ z "ahead" = true then gAhead u else if eqZ z "voted" = true then gVote u else if eqZ z "many" = true then gMany u else gLot z u
def spPk (C : Addr) (g : Str → U → Bool) : Sp := fun vs H Q _ => ∃ (z : Str) (v : V) (u : U) (w : Addr), vs = [.str z, v] ∧ At w C H v u ∧ Fine u ∧ Sm u ∧ (∃ o, H w = some o) ∧ ∀ H', Same H H' → Q (.bl (g z u)) H'
theorem lenPk {C : Addr} {g : Str → U → Bool} {a b : Str} : ∀ vs H Q E, spPk C g vs H Q E → vs.length = [a, b].length := fun vs H Q E h => by
  obtain ⟨z, v, u, w, rfl, _⟩ := h
  rfl
theorem pe_gi' {X : Cx} {x : Str} {i : Int} {p : Pos} (hg : Gl X x) (h : ∃ t, X.mg x = some (.int i t)) (hd : (x == ("__debug__" : Str)) = false := by decide) : PE X (.Name x p) (tC (.int i)) := by
  obtain ⟨t, h⟩ := h
  exact pe_glob (v := .int i) hg h ⟨_, rfl⟩ hd
theorem scLot : FnScope ["kind", "thing"] ["kind", "thing"] (defScope sLot) := ⟨rfl, rfl, rfl, by decide +kernel, rfl, by decide +kernel, by decide +kernel⟩
theorem ok_lot {f f1 f2 f3 f4 f5 : Addr} {fd d1 d2 d3 d4 d5 : FuncData} (D : Df K mg "_is_lot" sLot ["kind", "thing"] f fd) (N : ∃ t, mg "MOST_PLACES_forms" = some (.int 64 t)) (J1 : Jw P wd K mg base C 6 "is_heads" "thing" f1 d1 Sm gHeads) (J2 : Jw P wd K mg base C 6 "is_blocks" "thing" f2 d2 Sm gBlocks) (J3 : Jw P wd K mg base C 6 "is_names" "thing" f3 d3 Sm gNames)
    (J4 : Jw P wd K mg base C 6 "is_ids" "thing" f4 d4 Sm gIds) (D5 : Df K mg "is_counts" sCounts ["thing", "most"] f5 d5) (G5 : FnOk P wd K mg base CX0 3 f5 d5 ["thing", "most"] (spCts C)) : FnOk P wd K mg base CX0 7 f fd ["kind", "thing"] (spPk C gLot) := by
  have G5' : FnOk P wd K mg base CX0 6 f5 d5 ["thing", "most"] (spCts C) := G5.mono (by decide)
  refine D.F.ok scLot lenPk (fun cdv A outer s H vs Q E hr h => ?_)
  obtain ⟨z, v, u, w, rfl, hat, fi, hs, hw, k⟩ := h
  refine ⟨_, pss_cons (ps_if (pt_cmpR op_eq (pv 0) pe_str (nomark _)) (pss_one (ps_ret (pe_Jw J1 hr (by decide) (by rfl) pass0 (pv 1)))) pss_nil)
    (pss_cons (ps_if (pt_cmpR op_eq (pv 0) pe_str (nomark _)) (pss_one (ps_ret (pe_Jw J2 hr (by decide) (by rfl) pass0 (pv 1)))) pss_nil)
    (pss_cons (ps_if (pt_cmpR op_eq (pv 0) pe_str (nomark _)) (pss_one (ps_ret (pe_Jw J3 hr (by decide) (by rfl) pass0 (pv 1)))) pss_nil)
    (pss_cons (ps_if (pt_cmpR op_eq (pv 0) pe_str (nomark _)) (pss_one (ps_ret (pe_Jw J4 hr (by decide) (by rfl) pass0 (pv 1)))) pss_nil)
    (pss_cons (ps_if (pt_cmpR op_eq (pv 0) pe_str (nomark _)) (pss_one (ps_ret (pe_call G5' hr (by rfl) D5.g D5.F.kp D5.b .nil pass0 (pa_cons (pv 1) (pa_cons (pe_gi' (by rfl) N) pa_nil))))) pss_nil)
    (pss_one (ps_ret (pe_and (pe_cmpR op_eq (pv 0) pe_str (nomark _)) (pe_one (pe_call G5' hr (by rfl) D5.g D5.F.kp D5.b .nil pass0 (pa_cons (pv 1) (pa_cons (pe_op op_add (pe_gi' (by rfl) N) pe_int) pa_nil))))))))))), ?_⟩
  unfold gLot at k
  refine q_when (b := eqZ z "heads") (et_test (ev_op (ev_var rfl) ev_c (rv_eq rfl))) (fun q H9 e9 => ?_) (fun q0 H1 e1 => ?_)
  · rw [if_pos q] at k
    have e10 := ((Ex.refl H)).trans e9
    exact s_ret (ev_Jw (ev_var rfl) (ex_at e10 hat) fi hs (hw.imp fun o z => e10 _ _ z)) fun H10 e11 => k H10 (e10.trans e11)
  rw [if_neg (by rw [q0]; decide)] at k
  have E1 := ((Ex.refl H)).trans e1
  refine q_when (b := eqZ z "blocks") (et_test (ev_op (ev_var rfl) ev_c (rv_eq rfl))) (fun q H9 e9 => ?_) (fun q1 H2 e2 => ?_)
  · rw [if_pos q] at k
    have e10 := (E1).trans e9
    exact s_ret (ev_Jw (ev_var rfl) (ex_at e10 hat) fi hs (hw.imp fun o z => e10 _ _ z)) fun H10 e11 => k H10 (e10.trans e11)
  rw [if_neg (by rw [q1]; decide)] at k
  have E2 := (E1).trans e2
  refine q_when (b := eqZ z "names") (et_test (ev_op (ev_var rfl) ev_c (rv_eq rfl))) (fun q H9 e9 => ?_) (fun q2 H3 e3 => ?_)
  · rw [if_pos q] at k
    have e10 := (E2).trans e9
    exact s_ret (ev_Jw (ev_var rfl) (ex_at e10 hat) fi hs (hw.imp fun o z => e10 _ _ z)) fun H10 e11 => k H10 (e10.trans e11)
  rw [if_neg (by rw [q2]; decide)] at k
  have E3 := (E2).trans e3
  refine q_when (b := eqZ z "ids") (et_test (ev_op (ev_var rfl) ev_c (rv_eq rfl))) (fun q H9 e9 => ?_) (fun q3 H4 e4 => ?_)
  · rw [if_pos q] at k
    have e10 := (E3).trans e9
    exact s_ret (ev_Jw (ev_var rfl) (ex_at e10 hat) fi hs (hw.imp fun o z => e10 _ _ z)) fun H10 e11 => k H10 (e10.trans e11)
  rw [if_neg (by rw [q3]; decide)] at k
  have E4 := (E3).trans e4
  refine q_when (b := eqZ z "sums") (et_test (ev_op (ev_var rfl) ev_c (rv_eq rfl))) (fun q H9 e9 => ?_) (fun q4 H5 e5 => ?_)
  · rw [if_pos q] at k
    have e10 := E4.trans e9
    exact s_ret (ev_call (ea_cons (ev_var rfl) (ea_cons ev_c ea_nil)) fun G eg Q q E => ⟨v, u, w, 64, rfl, ex_at (e10.trans eg) hat, fi, q⟩) fun H10 e11 => k H10 (e10.trans e11)
  rw [if_neg (by rw [q4]; decide)] at k
  have E5 := E4.trans e5
  exact s_ret (ev_andV (a := eqZ z "factor") (b := gCounts 65 u) (ev_op (ev_var rfl) ev_c (rv_eq rfl)) fun _ => ev_call (ea_cons (ev_var rfl) (ea_cons (ev_op ev_c ev_c rv_I0) ea_nil)) fun G eg Q q E => ⟨v, u, w, 65, rfl, ex_at (E5.trans eg) hat, fi, q⟩) fun H10 e11 => k H10 (E5.trans e11)
theorem scPartK : FnScope ["kind", "thing"] ["kind", "thing"] (defScope sPartK) := ⟨rfl, rfl, rfl, by decide +kernel, rfl, by decide +kernel, by decide +kernel⟩
theorem ok_partK {f g1 g2 g3 g4 g5 g6 g7 g8 g9 g10 g11 : Addr} {fd d1 d2 d3 d4 d5 d6 d7 d8 d9 d10 d11 : FuncData} (D : Df K mg "is_part" sPartK ["kind", "thing"] f fd) (N : ∃ t, mg "MOST_PLACES_forms" = some (.int 64 t)) (JC : Jd P wd K mg base C 2 "is_count" "thing" g1 d1 gCnt) (JN : Jd P wd K mg base C 2 "is_name" "thing" g2 d2 gNam) (JH : Jd P wd K mg base C 2 "is_hand" "thing" g3 d3 gHand)
    (JS : Jd P wd K mg base C 3 "is_stamp" "thing" g4 d4 gStamp) (JR : Jd P wd K mg base C 4 "is_row" "thing" g5 d5 gRow) (JI : Jd P wd K mg base C 3 "is_block_id" "thing" g6 d6 gId) (JP : Jd P wd K mg base C 2 "is_piece" "thing" g7 d7 gPiece) (JM : Jd P wd K mg base C 4 "is_members" "thing" g8 d8 gMembers) (JA : Jw P wd K mg base C 5 "is_ahead" "thing" g9 d9 okN gAhead) (JV : Jd P wd K mg base C 5 "is_vote" "thing" g10 d10 gVote)
    (DL : Df K mg "_is_lot" sLot ["kind", "thing"] g11 d11) (GL : FnOk P wd K mg base CX0 7 g11 d11 ["kind", "thing"] (spPk C gLot)) : FnOk P wd K mg base CX0 8 f fd ["kind", "thing"] (spPk C gPart) := by
  refine D.F.ok scPartK lenPk (fun cdv A outer s H vs Q E hr h => ?_)
  obtain ⟨z, v, u, w, rfl, hat, fi, hs, hw, k⟩ := h
  refine ⟨_, pss_cons (ps_if (pt_cmpR (show OpR _ _ (rIn K false) from op_in_seq) (pv 0) (pe_tup (pa_cons pe_str (pa_cons pe_str (pa_cons pe_str pa_nil)))) (by rfl)) (pss_one (ps_ret (pe_J JC hr (by decide) (by rfl) pass0 (pv 1)))) pss_nil)
    (pss_cons (ps_if (pt_cmpR op_eq (pv 0) pe_str (nomark _)) (pss_one (ps_ret (pe_J JN hr (by decide) (by rfl) pass0 (pv 1)))) pss_nil)
    (pss_cons (ps_if (pt_cmpR op_eq (pv 0) pe_str (nomark _)) (pss_one (ps_ret (pe_J JH hr (by decide) (by rfl) pass0 (pv 1)))) pss_nil)
    (pss_cons (ps_if (pt_cmpR (show OpR _ _ (rIn K false) from op_in_seq) (pv 0) (pe_tup (pa_cons pe_str (pa_cons pe_str pa_nil))) (by rfl)) (pss_one (ps_ret (pe_J JS hr (by decide) (by rfl) pass0 (pv 1)))) pss_nil)
    (pss_cons (ps_if (pt_cmpR op_eq (pv 0) pe_str (nomark _)) (pss_one (ps_ret (pe_J JR hr (by decide) (by rfl) pass0 (pv 1)))) pss_nil)
    (pss_cons (ps_if (pt_cmpR op_eq (pv 0) pe_str (nomark _)) (pss_one (ps_ret (pe_J JI hr (by decide) (by rfl) pass0 (pv 1)))) pss_nil)
    (pss_cons (ps_if (pt_cmpR op_eq (pv 0) pe_str (nomark _)) (pss_one (ps_ret (pe_J JP hr (by decide) (by rfl) pass0 (pv 1)))) pss_nil)
    (pss_cons (ps_if (pt_cmpR op_eq (pv 0) pe_str (nomark _)) (pss_one (ps_ret (pe_J JM hr (by decide) (by rfl) pass0 (pv 1)))) pss_nil)
    (pss_cons (ps_if (pt_cmpR op_eq (pv 0) pe_str (nomark _)) (pss_one (ps_ret (pe_Jw JA hr (by decide) (by rfl) pass0 (pv 1)))) pss_nil)
    (pss_cons (ps_if (pt_cmpR op_eq (pv 0) pe_str (nomark _)) (pss_one (ps_ret (pe_J JV hr (by decide) (by rfl) pass0 (pv 1)))) pss_nil)
    (pss_cons (ps_if (pt_cmpR op_eq (pv 0) pe_str (nomark _)) (pss_one (ps_ret (pe_and (pe_J JC hr (by decide) (by rfl) pass0 (pv 1)) (pe_one (pe_chain op_le op_le pe_int (pv 1) (pe_gi' (by rfl) N)))))) pss_nil)
    (pss_one (ps_ret (pe_call GL hr (by rfl) DL.g DL.F.kp DL.b .nil pass0 (pa_cons (pv 0) (pa_cons (pv 1) pa_nil))))))))))))))), ?_⟩
  unfold gPart at k
  refine q_when (b := inV (.str z) [.str "epoch", .str "talk", .str "size"]) (et_test (ev_opU (ev_var rfl) (eu_tup (ea_cons ev_c (ea_cons ev_c (ea_cons ev_c (ea_nil)))) (by show (3 : Nat) ≤ 100000; decide)) fun q H1 hq e1 => rv_inT (neg := false) (st_of hq) rfl rfl)) (fun q H20 e9 => ?_) (fun q0 H1 e1 => ?_)
  · rw [if_pos q] at k
    have e10 := ((Ex.refl H)).trans e9
    exact s_ret (ev_J (ev_var rfl) (ex_at e10 hat) fi) fun H21 e11 => k H21 (e10.trans e11)
  rw [if_neg (by rw [q0]; decide)] at k
  have E1 := ((Ex.refl H)).trans e1
  refine q_when (b := eqZ z "name") (et_test (ev_op (ev_var rfl) ev_c (rv_eq rfl))) (fun q H20 e9 => ?_) (fun q1 H2 e2 => ?_)
  · rw [if_pos q] at k
    have e10 := (E1).trans e9
    exact s_ret (ev_J (ev_var rfl) (ex_at e10 hat) fi) fun H21 e11 => k H21 (e10.trans e11)
  rw [if_neg (by rw [q1]; decide)] at k
  have E2 := (E1).trans e2
  refine q_when (b := eqZ z "hand") (et_test (ev_op (ev_var rfl) ev_c (rv_eq rfl))) (fun q H20 e9 => ?_) (fun q2 H3 e3 => ?_)
  · rw [if_pos q] at k
    have e10 := (E2).trans e9
    exact s_ret (ev_J (ev_var rfl) (ex_at e10 hat) fi) fun H21 e11 => k H21 (e10.trans e11)
  rw [if_neg (by rw [q2]; decide)] at k
  have E3 := (E2).trans e3
  refine q_when (b := inV (.str z) [.str "stamp", .str "ballot"]) (et_test (ev_opU (ev_var rfl) (eu_tup (ea_cons ev_c (ea_cons ev_c (ea_nil))) (by show (2 : Nat) ≤ 100000; decide)) fun q H1 hq e1 => rv_inT (neg := false) (st_of hq) rfl rfl)) (fun q H20 e9 => ?_) (fun q3 H4 e4 => ?_)
  · rw [if_pos q] at k
    have e10 := (E3).trans e9
    exact s_ret (ev_J (ev_var rfl) (ex_at e10 hat) fi) fun H21 e11 => k H21 (e10.trans e11)
  rw [if_neg (by rw [q3]; decide)] at k
  have E4 := (E3).trans e4
  refine q_when (b := eqZ z "row") (et_test (ev_op (ev_var rfl) ev_c (rv_eq rfl))) (fun q H20 e9 => ?_) (fun q4 H5 e5 => ?_)
  · rw [if_pos q] at k
    have e10 := (E4).trans e9
    exact s_ret (ev_J (ev_var rfl) (ex_at e10 hat) fi) fun H21 e11 => k H21 (e10.trans e11)
  rw [if_neg (by rw [q4]; decide)] at k
  have E5 := (E4).trans e5
  refine q_when (b := eqZ z "id") (et_test (ev_op (ev_var rfl) ev_c (rv_eq rfl))) (fun q H20 e9 => ?_) (fun q5 H6 e6 => ?_)
  · rw [if_pos q] at k
    have e10 := (E5).trans e9
    exact s_ret (ev_J (ev_var rfl) (ex_at e10 hat) fi) fun H21 e11 => k H21 (e10.trans e11)
  rw [if_neg (by rw [q5]; decide)] at k
  have E6 := (E5).trans e6
  refine q_when (b := eqZ z "piece") (et_test (ev_op (ev_var rfl) ev_c (rv_eq rfl))) (fun q H20 e9 => ?_) (fun q6 H7 e7 => ?_)
  · rw [if_pos q] at k
    have e10 := (E6).trans e9
    exact s_ret (ev_J (ev_var rfl) (ex_at e10 hat) fi) fun H21 e11 => k H21 (e10.trans e11)
  rw [if_neg (by rw [q6]; decide)] at k
  have E7 := (E6).trans e7
  refine q_when (b := eqZ z "members") (et_test (ev_op (ev_var rfl) ev_c (rv_eq rfl))) (fun q H20 e9 => ?_) (fun q7 H8 e8 => ?_)
  · rw [if_pos q] at k
    have e10 := (E7).trans e9
    exact s_ret (ev_J (ev_var rfl) (ex_at e10 hat) fi) fun H21 e11 => k H21 (e10.trans e11)
  rw [if_neg (by rw [q7]; decide)] at k
  have E8 := (E7).trans e8
  refine q_when (b := eqZ z "ahead") (et_test (ev_op (ev_var rfl) ev_c (rv_eq rfl))) (fun q H20 e9 => ?_) (fun q8 H9 e9 => ?_)
  · rw [if_pos q] at k
    have e10 := (E8).trans e9
    exact s_ret (ev_Jw (ev_var rfl) (ex_at e10 hat) fi trivial (hw.imp fun o z => e10 _ _ z)) fun H21 e11 => k H21 (e10.trans e11)
  rw [if_neg (by rw [q8]; decide)] at k
  have E9 := (E8).trans e9
  refine q_when (b := eqZ z "voted") (et_test (ev_op (ev_var rfl) ev_c (rv_eq rfl))) (fun q H20 e9 => ?_) (fun q9 H10 e10 => ?_)
  · rw [if_pos q] at k
    have e10 := (E9).trans e9
    exact s_ret (ev_J (ev_var rfl) (ex_at e10 hat) fi) fun H21 e11 => k H21 (e10.trans e11)
  rw [if_neg (by rw [q9]; decide)] at k
  have E10 := (E9).trans e10
  refine q_when (b := eqZ z "many") (et_test (ev_op (ev_var rfl) ev_c (rv_eq rfl))) (fun q H20 e9 => ?_) (fun q10 H11 e11 => ?_)
  · rw [if_pos q] at k
    have e10 := E10.trans e9
    refine s_ret (ev_andV (b := gMany u) (ev_J (ev_var rfl) (ex_at e10 hat) fi) fun q2 => ?_) fun H21 e11 => ?_
    · cases u with
      | int i =>
        cases at_int (ex_at e10 hat)
        exact ev_chain ev_c (ev_var rfl) ev_c rv_I0 fun _ => rv_I0
      | _ => cases q2
    · have e3 : (gCnt u && gMany u) = gMany u := by
        cases u with
        | int i =>
          show (decide (0 ≤ i) && (decide (1 ≤ i) && decide (i ≤ 64))) = (decide (1 ≤ i) && decide (i ≤ 64))
          by_cases h : 1 ≤ i
          · rw [decide_eq_true h, decide_eq_true (show 0 ≤ i by omega)]
            rfl
          · rw [decide_eq_false h, Bool.false_and, Bool.and_false]
        | _ => rfl
      rw [e3]
      exact k H21 (e10.trans e11)
  rw [if_neg (by rw [q10]; decide)] at k
  have E11 := E10.trans e11
  exact s_ret (ev_call (ea_cons (ev_var rfl) (ea_cons (ev_var rfl) ea_nil)) fun G eg Q q E => ⟨z, v, u, w, rfl, ex_at (E11.trans eg) hat, fi, hs, hw.imp fun o z => (E11.trans eg) _ _ z, q⟩) fun H21 e12 => k H21 (E11.trans e12)
end
end Hs
namespace Hs
open PySem PySem.Spec PyProof.Rows L2 Hu Evl
section
variable {P : Program} {wd : World} {K : PySem.W.Frag} {mg : Str → Option Value} {base : Heap} {C : Addr}
theorem ev_allZipG {σ : L2.St} {H : Hp} {ta tb te : TE} {a b : Addr} {xs ys : List V} {i j : Nat} {vs : List Nat} {g : Nat → Bool} (ha : Ev ta σ H (.ref a)) (hb : Ev tb σ H (.ref b)) (hx : ∀ G, Ex H G → SqT K G a xs) (hy : ∀ G, Ex H G → SqT K G b ys) (hl : xs.length = ys.length) (hz : xs.length ≤ 40000)
    (hw : ∀ x y, wipe (((wipe σ vs).set i (some x)).set j (some y)) vs = wipe σ vs) (he : ∀ (n : Nat) (x y : V), xs[n]? = some x → ys[n]? = some y → Ev te (((wipe σ vs).set i (some x)).set j (some y)) H (.bl (g n))) :
    Ev (tCB (rAll K) (tCons (tLc (RZ.iZipA K (tCons ta (tCons tb tNil))) (gTup K 2 (gCons (gName i) (gCons (gName j) gNil))) tYes te vs) tNil)) σ H (.bl ((List.range xs.length).all g)) := by
  have main : EvL (tLc (RZ.iZipA K (tCons ta (tCons tb tNil))) (gTup K 2 (gCons (gName i) (gCons (gName j) gNil))) tYes te vs) σ H ((List.range xs.length).map fun n => V.bl (g n)) := fun H0 e Q q =>
    ha H0 e _ fun Ha ea => hb Ha (e.trans ea) _ fun H1 eb => by
      have e1 := ea.trans eb
      have E1 := e.trans e1
      refine ⟨a, b, xs, ys, rfl, .inr ⟨hx _ E1, hy _ E1, fun Dl hD => ?_⟩⟩
      refine lc_it (walk_zipT hl) (fun k H' => Ex H1 H' ∧ H' Dl = some (.lst ((List.range k).map fun n => V.bl (g n)))) ⟨Ex.new hD, upd_same⟩ (fun k H' _ p => ⟨hx _ (E1.trans p.1), hy _ (E1.trans p.1)⟩) ?_ ?_
      · rintro k x H2 H2' hk ⟨p1, p2⟩ ⟨T, x1, y1, rfl, hT, rfl, hx1, hy1⟩
        have eT : Ex H2 (upd H2 T (.tup [x1, y1])) := Ex.new hT
        refine ⟨T, _, rfl, st_of upd_same, rfl, x1, _, rfl, y1, _, rfl, rfl, hw _ _, ?_⟩
        refine et_yes _ (Ex.refl _) _ fun H3 e3 => ?_
        rw [if_pos rfl]
        refine he k x1 y1 hx1 hy1 _ ((E1.trans p1).trans (eT.trans e3)) _ fun H4 e4 => ⟨_, e4 _ _ (e3 _ _ (eT _ _ p2)), ?_, Ex.mut (((p1.trans eT).trans e3).trans e4) hD, ?_⟩
        · rw [List.length_map, List.length_range]
          exact sz_lt (by omega)
        · rw [upd_same, List.range_succ, List.map_append]
          rfl
      · rintro H' ⟨p1, p2⟩
        exact q Dl H' (fresh_back e1 hD) (e1.trans p1) p2
  refine ev_cb1 main fun p H2 h2 e2 Q q => ⟨p, (List.range xs.length).map g, rfl, sq_of ?_, ?_⟩
  · rw [h2, List.map_map]
    rfl
  · have : ((List.range xs.length).map g).all id = (List.range xs.length).all g := by
      rw [List.all_map]
      rfl
    rw [this]
    exact q H2 (Ex.refl H2)
def partsAll (zs : List Str) (us : List U) : Bool := (List.range zs.length).all fun n => gPart (zs.getD n ⟨#[]⟩) (us.getD n .non)
def gParts (zs : List Str) (us : List U) : Bool := decide (us.length = zs.length) && partsAll zs us
def spPks (K : PySem.W.Frag) (C : Addr) : Sp := fun vs H Q _ => ∃ (p : Addr) (zs : List Str) (v : V) (us : List U) (w : Addr), vs = [.ref p, v] ∧ TupK K p zs ∧ At w C H v (.tup us) ∧ Fine (.tup us) ∧ Sm (.tup us) ∧ zs.length ≤ 1000 ∧ (∃ o, H w = some o) ∧ ∀ H', Same H H' → Q (.bl (gParts zs us)) H'
theorem scPartsK : FnScope ["kinds", "things", "kind", "thing"] ["kinds", "things"] (defScope sPartsK) := ⟨rfl, rfl, rfl, by decide +kernel, rfl, by decide +kernel, by decide +kernel⟩
theorem Sm.memK {us : List U} {u : U} (h : Sm (.tup us)) (hu : u ∈ us) : Sm u := by
  have h1 := wt_mem hu
  have h2 : wt (.tup us) ≤ 160000 := h
  simp only [wt] at h2
  show wt u ≤ 160000
  omega
theorem ok_partsK {f f1 : Addr} {fd d1 : FuncData} (D : Df K mg "are_parts" sPartsK ["kinds", "things"] f fd) (B : Bt mg) (hZ : mg "zip" = none) (D1 : Df K mg "is_part" sPartK ["kind", "thing"] f1 d1) (G : FnOk P wd K mg base CX0 8 f1 d1 ["kind", "thing"] (spPk C gPart)) : FnOk P wd K mg base CX0 9 f fd ["kinds", "things"] (spPks K C) := by
  refine D.F.ok scPartsK (fun vs H Q E h => ?_) (fun cdv A outer s H vs Q E hr h => ?_)
  · obtain ⟨p, zs, v, us, w, rfl, _⟩ := h
    rfl
  obtain ⟨p, zs, v, us, w, rfl, hp, hat, fi, hs, hz, hw, k⟩ := h
  refine ⟨_, pss_cons (ps_if (pt_cmpR op_ne (pe_callB call_len_seq (by rfl) B.len PySem.boot_len (pa_cons (pv 1) pa_nil)) (pe_callB call_len_seq (by rfl) B.len PySem.boot_len (pa_cons (pv 0) pa_nil)) (nomark _)) (pss_one (ps_ret pe_bl)) pss_nil)
    (pss_one (ps_ret (pe_callB (cr_all rfl) (by rfl) B.all boot_all' (pa_cons (pe_lc (own := [("kind", 2), ("thing", 3)]) (g := gTup K 2 (gCons (gName 2) (gCons (gName 3) gNil))) (tt := tYes) rfl scPartsK.nd (RZ.pi_zipA (by rfl) hZ (pa_cons (pv 0) (pa_cons (pv 1) pa_nil))) (blkOk_by (N := ["kinds", "things", "kind", "thing"]) (sc := defScope sPartsK) (by decide +kernel))
      (fun _ _ _ _ _ => pg_tup rfl (pgs_cons (pg_name (i := 2) scPartsK.nd rfl (Or.inl rfl)) (pgs_cons (pg_name (i := 3) scPartsK.nd rfl (Or.inl rfl)) pgs_nil))) (fun _ _ _ _ _ => pts_nil) (fun _ _ _ _ _ => pe_call G hr (by rfl) D1.g D1.F.kp D1.b .nil pass0 (pa_cons (pv 2) (pa_cons (pv 3) pa_nil)))) pa_nil)))), ?_⟩
  obtain ⟨a, xs, rfl, ha, _, hlx⟩ := at_tup hat
  have lx := AtL.length hlx
  have lenP : Ev (tCB (rLenQ K) (tCons (tVar 0) tNil)) [some (.ref p), some (.ref a), none, none] H (.int ((zs.map V.str).length : Int)) := ev_cb (ea_cons (ev_var rfl) ea_nil) fun H1 e Q q => ⟨p, _, rfl, .inr (hp H1), q H1 (Ex.refl H1)⟩
  refine q_when (b := !decide (us.length = zs.length)) (et_test (ev_is (ev_op (ev_lenTU (K := K) (ev_var rfl) ha hlx) lenP (rv_ne rfl)) ?_)) (fun q H1 e => ?_) (fun q H1 e => ?_)
  · rw [List.length_map, dec_eq]
  · refine s_ret ev_c fun H2 e2 => ?_
    have e3 : gParts zs us = false := by
      unfold gParts
      rw [Bool.not_eq_true'] at q
      rw [q]
      rfl
    rw [← e3]
    exact k H2 (e.trans e2)
  · rw [Bool.not_eq_false'] at q
    have hl := of_decide_eq_true q
    have e3 : gParts zs us = (List.range (zs.map V.str).length).all fun n => gPart (zs.getD n ⟨#[]⟩) (us.getD n .non) := by
      unfold gParts partsAll
      rw [q, List.length_map, Bool.true_and]
    rw [e3] at k
    refine s_ret (ev_allZipG (xs := zs.map V.str) (ys := xs) (ev_var rfl) (ev_var rfl) (fun G _ => hp G) (fun G eg => Tu.st (Tu.ex eg (Tu.ex e ha))) (by rw [List.length_map, lx, hl]) (by rw [List.length_map]; omega) (fun _ _ => rfl) fun n x y hx hy => ?_) fun H2 e2 => k H2 (e.trans e2)
    rw [List.getElem?_map] at hx
    cases hz1 : zs[n]? with
    | none => rw [hz1] at hx; cases hx
    | some z =>
      rw [hz1] at hx
      cases hx
      have hn : n < us.length := by
        have := (List.getElem?_eq_some_iff.mp hz1).1
        omega
      obtain ⟨y', hy', ay⟩ := AtL.get hlx (List.getElem?_eq_getElem hn)
      rw [hy] at hy'
      cases hy'
      have g1 : zs.getD n ⟨#[]⟩ = z := getD_some hz1
      have g2 : us.getD n .non = us[n] := getD_some (List.getElem?_eq_getElem hn)
      rw [g1, g2]
      have hm := List.getElem_mem hn
      exact ev_call (ea_cons (ev_var rfl) (ea_cons (ev_var rfl) ea_nil)) fun G eg Q q E => ⟨z, y, us[n], w, rfl, ex_at (e.trans eg) ay, fi.tup _ hm, hs.memK hm, hw.imp fun o z => (e.trans eg) _ _ z, q⟩
end
end Hs
namespace Hs
open PySem PySem.Spec PyProof.Rows L2 Hu Evl
/-- entries of a dict: words with the kinds of their parts -/
inductive Rws (K : PySem.W.Frag) : List DictEntry → List (Str × List Str) → Prop
  | nil : Rws K [] []
  | cons {e : DictEntry} {z : Str} {t : Tok} {p : Addr} {ks : List Str} {es : List DictEntry} {tab : List (Str × List Str)} : e.key = .str z t → e.val = .ref p → TupK K p ks → Rws K es tab → Rws K (e :: es) ((z, ks) :: tab)
def tabOf : List (Str × List Str) → Str → Option (List Str)
  | [], _ => none
  | r :: l, z => if r.1 = z then some r.2 else tabOf l z
theorem Rws.find {K : PySem.W.Frag} {es : List DictEntry} {tab : List (Str × List Str)} (h : Rws K es tab) (z : Str) :
    (∀ ks, tabOf tab z = some ks → ∃ e p, es.find? (·.key.isStr z) = some e ∧ e.val = .ref p ∧ TupK K p ks) ∧ (tabOf tab z = none → es.find? (·.key.isStr z) = none) ∧ es.any (·.refKey) = false := by
  induction h with
  | nil => exact ⟨fun ks e => (by cases e), fun _ => rfl, rfl⟩
  | @cons e y t p ks es tab hk hv hp _ ih =>
    obtain ⟨i1, i2, i3⟩ := ih
    have hr : e.refKey = false := by
      unfold DictEntry.refKey
      rw [hk]
    have hi : e.key.isStr z = decide (y = z) := by
      rw [hk, PySem.W.isStr_of]
      show (y == z) = decide (y = z)
      rw [Bool.eq_iff_iff]
      simp
    refine ⟨fun ls h => ?_, fun h => ?_, by rw [List.any_cons, hr, i3]; rfl⟩
    · have h' : (if y = z then some ks else tabOf tab z) = some ls := h
      by_cases q : y = z
      · rw [if_pos q] at h'
        cases h'
        exact ⟨e, p, List.find?_cons_of_pos (by rw [hi]; exact decide_eq_true q), hv, hp⟩
      · rw [if_neg q] at h'
        obtain ⟨e2, p2, h1, h2, h3⟩ := i1 ls h'
        exact ⟨e2, p2, by rw [List.find?_cons_of_neg (by rw [hi]; simpa using q)]; exact h1, h2, h3⟩
    · have h' : (if y = z then some ks else tabOf tab z) = none := h
      by_cases q : y = z
      · rw [if_pos q] at h'
        cases h'
      · rw [if_neg q] at h'
        rw [List.find?_cons_of_neg (by rw [hi]; simpa using q)]
        exact i2 h'
structure KTab (K : PySem.W.Frag) (w : World) (mg : Str → Option Value) (x : Str) (tab : List (Str × List Str)) (a : Addr) (es : Array DictEntry) (n : Nat) : Prop where
  g : mg x = some (.ref a)
  kd : KDict K w a es n
  r : Rws K es.toList tab
theorem KTab.ns {K : PySem.W.Frag} {w : World} {mg : Str → Option Value} {x : Str} {tab : List (Str × List Str)} {a : Addr} {es : Array DictEntry} {n : Nat} (h : KTab K w mg x tab a es n) (z : Str) :
    (∀ ks, tabOf tab z = some ks → ∃ p, PySem.W.nsIn K a z = some (some (.ref p)) ∧ TupK K p ks) ∧ (tabOf tab z = none → PySem.W.nsIn K a z = some none) := by
  obtain ⟨i1, i2, i3⟩ := h.r.find z
  refine ⟨fun ks q => ?_, fun q => ?_⟩
  · obtain ⟨e, p, h1, h2, h3⟩ := i1 ks q
    refine ⟨p, ?_, h3⟩
    unfold PySem.W.nsIn
    rw [h.kd.at_]
    dsimp only
    rw [h1]
    dsimp only
    rw [h2]
  · unfold PySem.W.nsIn
    rw [h.kd.at_]
    dsimp only
    rw [i2 q]
    dsimp only
    rw [i3]
    rfl
end Hs
namespace Hs
open PySem PySem.Spec PyProof.Rows L2 Hu Evl
section
variable {P : Program} {wd : World} {K : PySem.W.Frag} {mg : Str → Option Value} {base : Heap} {C : Addr}
def lookT (tab : List (Str × List Str)) (z : Str) (us : List U) : Bool := match tabOf tab z with | some ks => gParts ks us | none => false
/-- word in TAB and are_parts(TAB[word], rest) -/
theorem ev_look {σ : L2.St} {H : Hp} {E : XK} {x : Str} {tab : List (Str × List Str)} {a : Addr} {es : Array DictEntry} {n : Nat} (T : KTab K wd mg x tab a es n) (hz : ∀ r ∈ tab, r.2.length ≤ 1000) {z : Str} {r : V} {us : List U} {w : Addr} (h2 : σ[2]? = some (some (.str z))) (h3 : σ[3]? = some (some r)) (hr : At w C H r (.tup us)) (fi : Fine (.tup us)) (hs : Sm (.tup us)) (hw : ∃ o, H w = some o) {tin : TE}
    (hin : ∀ (r0 : Option Value) (G : Hp), PySem.W.nsIn K a z = some r0 → Ev tin σ G (.bl r0.isSome)) {tb : TE} (hand : ∀ {p q : Bool}, Ev tin σ H (.bl p) → (p = true → Ev (tCall (spPks K C) [] E (tCons (tOp (rIxD K wd) (tC (.ref a)) (tVar 2)) (tCons (tVar 3) tNil))) σ H (.bl q)) → Ev tb σ H (.bl (p && q))) : Ev tb σ H (.bl (lookT tab z us)) := by
  obtain ⟨n1, n2⟩ := T.ns z
  cases q : tabOf tab z with
  | none =>
    have e : lookT tab z us = (false && false) := by unfold lookT; rw [q]; rfl
    rw [e]
    exact hand (hin none H (n2 q)) fun z => by cases z
  | some ks =>
    obtain ⟨p, hp, tk⟩ := n1 ks q
    have e : lookT tab z us = (true && gParts ks us) := by unfold lookT; rw [q, Bool.true_and]
    rw [e]
    have hl : ks.length ≤ 1000 := by
      have : ∀ (l : List (Str × List Str)), (∀ r ∈ l, r.2.length ≤ 1000) → tabOf l z = some ks → ks.length ≤ 1000 := fun l => by
        induction l with
        | nil => intro _ h; cases h
        | cons r l ih =>
          intro hl h
          have h' : (if r.1 = z then some r.2 else tabOf l z) = some ks := h
          by_cases c : r.1 = z
          · rw [if_pos c] at h'
            cases h'
            exact hl r (by simp)
          · rw [if_neg c] at h'
            exact ih (fun x hx => hl x (List.mem_cons_of_mem _ hx)) h'
      exact this tab hz q
    refine hand (hin (some (.ref p)) H hp) fun _ => ?_
    exact ev_call (ea_cons (ev_op ev_c (ev_var h2) fun G e Q f => ⟨a, z, .ref p, rfl, rfl, ⟨es, n, .ref p, T.kd.at_, T.kd.lit, hp, rfl⟩, f G (Ex.refl G)⟩) (ea_cons (ev_var h3) ea_nil)) fun G e Q f E => ⟨p, ks, r, us, w, rfl, tk, ex_at e hr, fi, hs, hl, hw.imp fun o z => e _ _ z, f⟩
end
end Hs
namespace PySem.SeqAt
open PySem PySem.Spec PyProof.Rows
theorem dict_eq_declines_str (l : Addr) (es : Array DictEntry) (n : Nat) (dd : Option Addr) (sl : Array (Option Value)) (b : Str) (u : Tok) :
    Meets (Builtin.«dict.__eq__» ⟨[.ref l, .str b u], []⟩) (fun _ R s => s.heap.get? l = some { cls := .type "dict", dict := dd, data := .dict es n, slots := sl } ∧ R (.ok (.ret .notImplemented)) s) :=
  .of_wp fun prog w A R s h => by obtain ⟨hp, g, d, tk, os⟩ := s; obtain ⟨hl, h⟩ := h; have f1 := F.sub_str_dict; wp_walk using wpAny_loadPart' hl; exact ⟨_, rfl, h⟩
theorem str_eq_declines_dict (b : Str) (u : Tok) (l : Addr) (es : Array DictEntry) (n : Nat) (dd : Option Addr) (sl : Array (Option Value)) :
    Meets (Builtin.«str.__eq__» ⟨[.str b u, .ref l], []⟩) (fun _ R s => s.heap.get? l = some { cls := .type "dict", dict := dd, data := .dict es n, slots := sl } ∧ R (.ok (.ret .notImplemented)) s) :=
  .of_wp fun prog w A R s h => by obtain ⟨hp, g, d, tk, os⟩ := s; obtain ⟨hl, h⟩ := h; wp_walk using wpAny_loadPart' hl, wpAny_load hl; exact ⟨_, rfl, h⟩
section
variable {A : Around} {s : Shared}
theorem RcAt.dict_str {l : Addr} {es : Array DictEntry} {n : Nat} {dd : Option Addr} {sl : Array (Option Value)} (b : Str) (u : Tok) (ho : s.heap.get? l = some { cls := .type "dict", dict := dd, data := .dict es n, slots := sl }) (hu : A.units < cLine) : RcAt A s (.ref l) (.str b u) false := fun prog w E Q h =>
  rc_eq_decline_or (k := false) ⟨_, ho, rfl⟩ (typeIs_str s b u) (by decide) F.sub_str_dict F.slot_dict_eq F.slot_str_eq_refl
    (fun _ hq => call_meets F.slot_dict_eq ⟨_, ho, rfl⟩ F.entry_dict_eq (F.args_dict_eq_2 _ _) (dict_eq_declines_str l es n dd sl b u) ⟨ho, hq⟩)
    (fun _ hq => call_meets F.slot_str_eq_refl (typeIs_str s b u) F.entry_str_eq (F.args_str_eq_2 _ _) (str_eq_declines_dict b u l es n dd sl) ⟨ho, hq⟩)
    (fun _ hq => wpAny_of_eq (rfl : isSame (.ref l) (.str b u) = pure false) hq) (.inr hu) h
end
end PySem.SeqAt
namespace HX
open PySem PySem.Spec PyProof.Rows PySem.SeqAt
section
variable {A : Around} {s : Shared} {K : PySem.W.Frag} {x C : Addr} {ox : Obj} {od : Option Obj}
theorem rcAt_str {vs : Array Value} (b : Str) (u : Tok) (hu : A.units < cLine) (X : K.In s.heap) (I : PySem.W.InstAt s.heap x ox C od) (hm : PySem.W.mroIn K C (.type "object") = some true) (hs : PySem.W.findIn K (.ref C) "__eq__" = some (some (.builtin "object.__eq__"))) (hd : ox.data = .fields vs) :
    RcAt A s (.ref x) (.str b u) false := by
  obtain ⟨cls, dd, data, sl⟩ := ox
  simp only at hd
  subst hd
  have ho := I.at_
  exact rc_other (T := "str") hu X I hm hs (typeIs_str s b u) (fun M A' E' Q' q => wpAny_of_eq (rfl : isSame (.ref x) (.str b u) = pure false) q) (sub_of (by decide +kernel)) fun prog w E => by
    refine wpAny_tryCompare_declines (typeIs_str s b u) F.slot_str_eq_refl (wpAny_call_entry F.slot_str_eq_refl (typeIs_str s b u) F.entry_str_eq ?_ (F.args_str_eq_2 _ _))
    obtain ⟨hp, g, d, tk, os⟩ := s
    unfold Builtin.«str.__eq__»
    wp_walk using wpAny_loadPart' ho, wpAny_load ho
    exact ⟨_, rfl, rfl, rfl, rfl⟩
end
end HX
namespace Hs
open PySem PySem.Spec PyProof.Rows L2 Hu Evl
/-- compared with a string -/
inductive Ns (K : PySem.W.Frag) (H : Hp) (y : Str) : V → Bool → Prop
  | non : Ns K H y .non false
  | bl (b : Bool) : Ns K H y (.bl b) false
  | int (j : Int) : Ns K H y (.int j) false
  | str (z : Str) : Ns K H y (.str z) (z == y)
  | tup {a : Addr} {xs : List V} : SqT K H a xs → Ns K H y (.ref a) false
  | lst {a : Addr} {xs : List V} : SqL K H a xs → Ns K H y (.ref a) false
  | dct {a : Addr} {kvs : List (L2.Key × V)} : H a = some (.dK kvs) → Ns K H y (.ref a) false
  | exc {a t C : Addr} : Eqx K C → H a = some (ExN C t a) → Ns K H y (.ref a) false
def rEqS (K : PySem.W.Frag) : R2 := fun x y H Q => ∃ z e, y = .str z ∧ Ns K H z x e ∧ Q (.bl e) H
section
variable {X : Cx}
theorem op_eqS (hu : X.A.units + 64 < cLine) : OpR X (compareOp .Eq) (rEqS X.K) := by
  intro pins s σ H x y v u Q I rx ry h
  obtain ⟨i, e, rfl, n, q⟩ := h
  obtain ⟨ty, rfl⟩ := ry
  have hu2 : X.A.units < cLine := by omega
  have done : EP X pins σ Q (.bool e) s := ⟨.bl e, H, I, rfl, q⟩
  cases n with
  | non =>
    cases rx
    exact SeqAt.RcAt.none_str i ty X.prog X.w X.xe _ done
  | bl b =>
    cases rx
    exact SeqAt.RcAt.bool_str b i ty X.prog X.w X.xe _ done
  | int j =>
    obtain ⟨t, rfl⟩ := rx
    exact SeqAt.RcAt.int_str j t i ty X.prog X.w X.xe _ done
  | str z =>
    obtain ⟨t, rfl⟩ := rx
    exact SeqAt.RcAt.str_str z t i ty X.prog X.w X.xe _ done
  | @tup a xs h =>
    cases rx
    obtain ⟨its, r1, p1, _⟩ := I.tuple h
    exact SeqAt.RcAt.tuple_str i ty p1 hu2 X.prog X.w X.xe _ done
  | @lst a xs h =>
    cases rx
    obtain ⟨its, r1, p1, _⟩ := I.list h
    exact SeqAt.RcAt.list_str i ty p1.isList hu2 X.prog X.w X.xe _ done
  | @dct a kvs h =>
    cases rx
    obtain ⟨dd, es, ep, sl, g⟩ := dict_dk I.hok h
    exact SeqAt.RcAt.dict_str i ty g hu2 X.prog X.w X.xe _ done
  | @exc a t C q' h =>
    cases rx
    obtain ⟨o, vs, i', hd⟩ := inst_exn I.hok h
    exact HX.rcAt_str i ty hu2 I.kIn i' q'.m q'.e hd X.prog X.w X.xe _ done
end
/-- a string by == -/
def isZ (y : Str) (u : U) : Bool := match u with | .str z => z == y | _ => false
theorem ns_at {K : PySem.W.Frag} {w C : Addr} {H : Hp} {v : V} {u : U} (y : Str) (hx : Eqx K C) (h : At w C H v u) : Ns K H y v (isZ y u) := by
  cases h with
  | non => exact .non
  | bl b => exact .bl b
  | int i => exact .int i
  | str z => exact .str z
  | tup ha _ hl => exact .tup (Tu.st ha)
  | lst ha _ hl => exact .lst (sq_of ha)
  | dct ha _ _ _ _ => exact .dct ha
  | exc ha _ _ _ => exact .exc hx ha
theorem Ns.ex {K : PySem.W.Frag} {H H' : Hp} {y : Str} {v : V} {e : Bool} (x : Ex H H') (h : Ns K H y v e) : Ns K H' y v e := by
  cases h with
  | non => exact .non
  | bl b => exact .bl b
  | int i => exact .int i
  | str z => exact .str z
  | tup h => exact .tup (ex_t x h)
  | lst h => exact .lst (ex_l x h)
  | dct h => exact .dct (x _ _ h)
  | exc q h => exact .exc q (x _ _ h)
theorem rv_eqS {K : PySem.W.Frag} {H : Hp} {y : Str} {v : V} {e : Bool} (h : Ns K H y v e) : RV (rEqS K) v (.str y) H (.bl e) := fun H1 x Q q => ⟨y, e, rfl, h.ex x, q H1 (Ex.refl H1)⟩
end Hs
namespace Hs
open PySem PySem.Spec PyProof.Rows L2 Hu Evl
section
variable {P : Program} {wd : World} {K : PySem.W.Frag} {mg : Str → Option Value} {base : Heap} {C : Addr}
def gMach (u : U) : Bool := gPair u && ((isZ "home" (nth u 0) && gHome (nth u 1)) || (isZ "hand" (nth u 0) && gHand (nth u 1)))
theorem scMach : FnScope ["thing"] ["thing"] (defScope sMachine) := ⟨rfl, rfl, rfl, by decide +kernel, rfl, by decide +kernel, by decide +kernel⟩
theorem jd_machine {f f1 f2 f3 : Addr} {fd d1 d2 d3 : FuncData} (D : Df K mg "is_machine" sMachine ["thing"] f fd) (S : Bs K mg C) (JP : Jd P wd K mg base C 1 "is_pair" "thing" f1 d1 gPair) (JH : Jd P wd K mg base C 2 "is_home" "thing" f2 d2 gHome) (JN : Jd P wd K mg base C 2 "is_hand" "thing" f3 d3 gHand) :
    Jd P wd K mg base C 3 "is_machine" "thing" f fd gMach := by
  refine ⟨D.F.ok scMach lenJ (fun cdv A outer s H vs Q E hr h => ?_), D.g, D.F.kp, D.b⟩
  obtain ⟨v, u, w, rfl, hat, fi, k⟩ := h
  refine ⟨_, pss_cons (ps_if (pt_not (pt_val (pe_J JP hr (by decide) (by rfl) pass0 (pv 0)))) (pss_one (ps_ret pe_bl)) pss_nil)
    (pss_one (ps_ret (pe_or (pe_and (pe_cmpR (show OpR _ _ (rEqS K) from op_eqS (room_hu hr)) (pe_ix ix_tup (pv 0) pe_int (fun _ _ => rfl)) pe_str (nomark _)) (pe_one (pe_J JH hr (by decide) (by rfl) pass0 (pe_ix ix_tup (pv 0) pe_int (fun _ _ => rfl)))))
      (pe_one (pe_and (pe_cmpR (show OpR _ _ (rEqS K) from op_eqS (room_hu hr)) (pe_ix ix_tup (pv 0) pe_int (fun _ _ => rfl)) pe_str (nomark _)) (pe_one (pe_J JN hr (by decide) (by rfl) pass0 (pe_ix ix_tup (pv 0) pe_int (fun _ _ => rfl))))))))), ?_⟩
  refine q_when (b := !gPair u) (et_not (et_B (ev_J (ev_var rfl) hat fi))) (fun q H1 e => ?_) (fun q H1 e => ?_)
  · refine s_ret ev_c fun H2 e2 => ?_
    have e3 : gMach u = false := by
      unfold gMach
      rw [Bool.not_eq_true'] at q
      rw [q]
      rfl
    rw [← e3]
    exact k H2 (e.trans e2)
  · rw [Bool.not_eq_false'] at q
    obtain ⟨a, b, rfl⟩ := gPair_two q
    obtain ⟨p, x, y, rfl, hp, ha, hb⟩ := pair_at (ex_at e hat)
    have e3 : gMach (.tup [a, b]) = ((isZ "home" a && gHome b) || (isZ "hand" a && gHand b)) := rfl
    rw [e3] at k
    exact s_ret (ev_orV (ev_andV (ev_op (ev_ixT (j := 0) (ev_var rfl) hp rfl) ev_c (rv_eqS (ns_at "home" S.q ha))) fun _ => ev_J (ev_ixT (j := 1) (ev_var rfl) hp rfl) hb fi.snd) fun _ => ev_andV (ev_op (ev_ixT (j := 0) (ev_var rfl) hp rfl) ev_c (rv_eqS (ns_at "hand" S.q ha))) fun _ => ev_J (ev_ixT (j := 1) (ev_var rfl) hp rfl) hb fi.snd) fun H2 e2 => k H2 (e.trans e2)
end
end Hs
namespace Hs
open PySem PySem.Spec PyProof.Rows L2 Hu Evl
open Hk (SI ltSI)
section
variable {P : Program} {wd : World} {K : PySem.W.Frag} {mg : Str → Option Value} {base : Heap} {C : Addr}
theorem shpSI {z : Str} (i : Int) (hz : PyData.strOk z = true) : SeqAt.shaped (.tuple [.str z, .int i]) = true := by
  show ((PyData.tuple [.str z, .int i]).canLay0 && decide ((PyData.tuple [.str z, .int i]).depth ≤ 64)) = true
  simp [PyData.canLay0, PyData.canLayAll0, PyData.depth, PyData.depthAll, hz]
theorem eqvSI (z y : Str) (i j : Int) : PyData.eqv (.tuple [.str z, .int i]) (.tuple [.str y, .int j]) = (decide (z = y) && decide (i = j)) := by
  simp only [PyData.eqv, PyData.eqvAll, Bool.and_true]
  congr 1
theorem dpSI {H : Hp} {p : Addr} {z : Str} {i : Int} (h : H p = some (.tup [.str z, .int i])) : Dp K H (.ref p) (.tuple [.str z, .int i]) := .tup (st_of h) (.cons (.str z) (.cons (.int i) .nil))
theorem rv_neM {H : Hp} {p q : Addr} {a b : Str} {i j : Int} (ha : PyData.strOk a = true) (hb : PyData.strOk b = true) (hp : H p = some (.tup [.str a, .int i])) (hq : H q = some (.tup [.str b, .int j])) : RV (rNeD K) (.ref p) (.ref q) H (.bl (!(decide (a = b) && decide (i = j)))) := fun H1 e Q f =>
  ⟨_, _, dpSI (e _ _ hp), dpSI (e _ _ hq), shpSI _ ha, shpSI _ hb, by rw [eqvSI]; exact f H1 (Ex.refl H1)⟩
theorem gMach_is {u : U} (h : gMach u = true) : ∃ a i, u = .tup [.str a, .int i] ∧ (a = "home" ∨ a = "hand") := by
  obtain ⟨h1, h2⟩ := and2 (a := gPair u) h
  obtain ⟨a, b, rfl⟩ := gPair_two h1
  have h2' : ((isZ "home" a && gHome b) || (isZ "hand" a && gHand b)) = true := h2
  have key : ∀ (y : Str) (p : U → Bool), (∀ u, p u = true → ∃ i, u = .int i) → (isZ y a && p b) = true → ∃ i, (.tup [a, b] : U) = .tup [.str y, .int i] := fun y p hp hh => by
    obtain ⟨q1, q2⟩ := and2 hh
    obtain ⟨i, rfl⟩ := hp b q2
    cases a with
    | str z =>
      have : z = y := by simpa [isZ] using q1
      exact ⟨i, by rw [this]⟩
    | _ => cases q1
  have hi : ∀ u, gHome u = true → ∃ i, u = .int i := fun u hu => by
    cases u with
    | int i => exact ⟨i, rfl⟩
    | _ => cases hu
  rw [Bool.or_eq_true] at h2'
  rcases h2' with h3 | h3
  · obtain ⟨i, e⟩ := key "home" gHome hi h3
    exact ⟨_, i, e, .inl rfl⟩
  · obtain ⟨i, e⟩ := key "hand" gHand (fun u hu => gHand_int hu) h3
    exact ⟨_, i, e, .inr rfl⟩
theorem mach_ok {a : Str} (h : a = "home" ∨ a = "hand") : PyData.strOk a = true := by
  rcases h with rfl | rfl <;> decide +kernel
def eqM (u v : U) : Bool := match u, v with | .tup [.str a, .int i], .tup [.str b, .int j] => decide (a = b) && decide (i = j) | _, _ => false
def gTold (th to_ ta : List (Str × List Str)) (u v : U) (z : Str) (us : List U) : Bool := if isZ "hand" (nth u 0) = true then isZ "home" (nth v 0) && lookT th z us else if isZ "hand" (nth v 0) = true then lookT to_ z us else !eqM u v && lookT ta z us
def spTold (C : Addr) (th to_ ta : List (Str × List Str)) : Sp := fun vs H Q _ => ∃ (x y r : V) (u v : U) (z : Str) (us : List U) (w : Addr), vs = [x, y, .str z, r] ∧ At w C H x u ∧ At w C H y v ∧ gMach u = true ∧ gMach v = true ∧ At w C H r (.tup us) ∧ Fine (.tup us) ∧ Sm (.tup us) ∧ (∃ o, H w = some o) ∧ ∀ H', Same H H' → Q (.bl (gTold th to_ ta u v z us)) H'
theorem scTold : FnScope ["to", "by", "word", "rest"] ["to", "by", "word", "rest"] (defScope sTold) := ⟨rfl, rfl, rfl, by decide +kernel, rfl, by decide +kernel, by decide +kernel⟩
theorem ok_told {f f1 : Addr} {fd d1 : FuncData} {th to_ ta : List (Str × List Str)} {a1 a2 a3 : Addr} {es1 es2 es3 : Array DictEntry} {n1 n2 n3 : Nat} (D : Df K mg "_is_told" sTold ["to", "by", "word", "rest"] f fd) (T1 : KTab K wd mg "TO_HANDS" th a1 es1 n1) (T2 : KTab K wd mg "TO_HOMES" to_ a2 es2 n2) (T3 : KTab K wd mg "AMONG_HOMES" ta a3 es3 n3)
    (z1 : ∀ r ∈ th, r.2.length ≤ 1000) (z2 : ∀ r ∈ to_, r.2.length ≤ 1000) (z3 : ∀ r ∈ ta, r.2.length ≤ 1000) (D1 : Df K mg "are_parts" sPartsK ["kinds", "things"] f1 d1) (G : FnOk P wd K mg base CX0 9 f1 d1 ["kinds", "things"] (spPks K C)) : FnOk P wd K mg base CX0 10 f fd ["to", "by", "word", "rest"] (spTold C th to_ ta) := by
  refine D.F.ok scTold (fun vs H Q E h => ?_) (fun cdv A outer s H vs Q E hr h => ?_)
  · obtain ⟨x, y, r, u, v, z, us, w, rfl, _⟩ := h
    rfl
  obtain ⟨x, y, r, u, v, z, us, w, rfl, hx, hy, hu, hv, hrr, fi, hs, hw, k⟩ := h
  refine ⟨_, pss_cons (ps_if (pt_cmpR op_eq (pe_ix ix_tup (pv 0) pe_int (fun _ _ => rfl)) pe_str (nomark _))
      (pss_one (ps_ret (pe_and (pe_cmpR op_eq (pe_ix ix_tup (pv 1) pe_int (fun _ _ => rfl)) pe_str (nomark _)) (pe_and (pe_cmpR (op_in_kd T1.kd) (pv 2) (pe_glob (v := .ref a1) (by rfl) T1.g rfl) (by rfl)) (pe_one (pe_call G hr (by rfl) D1.g D1.F.kp D1.b .nil pass0 (pa_cons (pe_ix ix_kdict (pe_glob (v := .ref a1) (by rfl) T1.g rfl) (pv 2) (fun _ _ => rfl)) (pa_cons (pv 3) pa_nil)))))))) pss_nil)
    (pss_cons (ps_if (pt_cmpR op_eq (pe_ix ix_tup (pv 1) pe_int (fun _ _ => rfl)) pe_str (nomark _))
      (pss_one (ps_ret (pe_and (pe_cmpR (op_in_kd T2.kd) (pv 2) (pe_glob (v := .ref a2) (by rfl) T2.g rfl) (by rfl)) (pe_one (pe_call G hr (by rfl) D1.g D1.F.kp D1.b .nil pass0 (pa_cons (pe_ix ix_kdict (pe_glob (v := .ref a2) (by rfl) T2.g rfl) (pv 2) (fun _ _ => rfl)) (pa_cons (pv 3) pa_nil))))))) pss_nil)
    (pss_one (ps_ret (pe_and (pe_cmpR (show OpR _ _ (rNeD K) from op_neD (room_hu hr)) (pv 0) (pv 1) (nomark _)) (pe_and (pe_cmpR (op_in_kd T3.kd) (pv 2) (pe_glob (v := .ref a3) (by rfl) T3.g rfl) (by rfl)) (pe_one (pe_call G hr (by rfl) D1.g D1.F.kp D1.b .nil pass0 (pa_cons (pe_ix ix_kdict (pe_glob (v := .ref a3) (by rfl) T3.g rfl) (pv 2) (fun _ _ => rfl)) (pa_cons (pv 3) pa_nil))))))))), ?_⟩
  obtain ⟨a, i, rfl, oa⟩ := gMach_is hu
  obtain ⟨b, j, rfl, ob⟩ := gMach_is hv
  obtain ⟨p, x1, x2, rfl, hp, hx1, hx2⟩ := pair_at hx
  obtain ⟨q, y1, y2, rfl, hq, hy1, hy2⟩ := pair_at hy
  rw [at_str hx1, at_int hx2] at hp
  rw [at_str hy1, at_int hy2] at hq
  have hZ : ∀ (c y : Str), decide (V.str c = V.str y) = isZ y (.str c) := fun c y => by
    show _ = (c == y)
    rw [Bool.eq_iff_iff]
    simp
  refine q_when (b := isZ "hand" (.str a)) (et_test (ev_is (ev_op (ev_ixT (j := 0) (ev_var rfl) hp rfl) ev_c (rv_eq rfl)) (by rw [hZ]))) (fun c H1 e => ?_) (fun c H1 e => ?_)
  · have g : gTold th to_ ta (.tup [.str a, .int i]) (.tup [.str b, .int j]) z us = (isZ "home" (.str b) && lookT th z us) := if_pos c
    rw [g] at k
    refine s_ret (ev_andV (ev_is (ev_op (ev_ixT (j := 0) (ev_var rfl) (Tu.ex e hq) rfl) ev_c (rv_eq rfl)) (by rw [hZ])) fun _ => ev_look T1 z1 (w := w) (r := r) rfl rfl (ex_at e hrr) fi hs (hw.imp fun o z => e _ _ z) (fun r0 G hn => ev_op (ev_var rfl) ev_c fun G1 e Q f => ⟨z, r0, rfl, rfl, hn, f G1 (Ex.refl G1)⟩) fun h1 h2 => ev_andV h1 h2) fun H2 e2 => k H2 (e.trans e2)
  · refine q_when (b := isZ "hand" (.str b)) (et_test (ev_is (ev_op (ev_ixT (j := 0) (ev_var rfl) (Tu.ex e hq) rfl) ev_c (rv_eq rfl)) (by rw [hZ]))) (fun c2 H2 e2 => ?_) (fun c2 H2 e2 => ?_)
    · have g : gTold th to_ ta (.tup [.str a, .int i]) (.tup [.str b, .int j]) z us = lookT to_ z us := (if_neg (by show ¬ isZ "hand" (.str a) = true; rw [c]; decide)).trans (if_pos c2)
      rw [g] at k
      have e02 := e.trans e2
      exact s_ret (ev_look T2 z2 (w := w) (r := r) rfl rfl (ex_at e02 hrr) fi hs (hw.imp fun o z => e02 _ _ z) (fun r0 G hn => ev_op (ev_var rfl) ev_c fun G1 e Q f => ⟨z, r0, rfl, rfl, hn, f G1 (Ex.refl G1)⟩) fun h1 h2 => ev_andV h1 h2) fun H3 e3 => k H3 (e02.trans e3)
    · have g : gTold th to_ ta (.tup [.str a, .int i]) (.tup [.str b, .int j]) z us = (!(decide (a = b) && decide (i = j)) && lookT ta z us) := (if_neg (by show ¬ isZ "hand" (.str a) = true; rw [c]; decide)).trans (if_neg (by show ¬ isZ "hand" (.str b) = true; rw [c2]; decide))
      rw [g] at k
      have e02 := e.trans e2
      exact s_ret (ev_andV (ev_op (ev_var rfl) (ev_var rfl) (rv_neM (mach_ok oa) (mach_ok ob) (Tu.ex e02 hp) (Tu.ex e02 hq))) fun _ => ev_look T3 z3 (w := w) (r := r) rfl rfl (ex_at e02 hrr) fi hs (hw.imp fun o z => e02 _ _ z) (fun r0 G hn => ev_op (ev_var rfl) ev_c fun G1 e Q f => ⟨z, r0, rfl, rfl, hn, f G1 (Ex.refl G1)⟩) fun h1 h2 => ev_andV h1 h2) fun H3 e3 => k H3 (e02.trans e3)
end
end Hs
namespace Hs
open PySem PySem.Spec PyProof.Rows L2 Hu Evl
section
variable {P : Program} {wd : World} {K : PySem.W.Frag} {mg : Str → Option Value} {base : Heap} {C : Addr}
def tupU (u : U) : List U := match u with | .tup us => us | _ => []
def gLetter (th to_ ta : List (Str × List Str)) (u : U) : Bool := gTO 5 u && ((gMach (nth u 0) && (gMach (nth u 1) && gCnt (nth u 2))) && (isT (nth u 3) "str" && (isT (nth u 4) "tuple" && gTold th to_ ta (nth u 0) (nth u 1) (strU (nth u 3)) (tupU (nth u 4)))))
theorem scLetter : FnScope ["thing", "to", "by", "talk", "word", "rest"] ["thing"] (defScope sLetter) := ⟨rfl, rfl, rfl, by decide +kernel, rfl, by decide +kernel, by decide +kernel⟩
theorem sm_nthK {u : U} (h : Sm u) (k : Nat) : Sm (nth u k) := by
  cases u with
  | tup us =>
    show Sm (us.getD k .non)
    rw [List.getD_eq_getElem?_getD]
    cases e : us[k]? with
    | none => show wt U.non ≤ 160000; simp [wt]
    | some x => exact Sm.memK h (List.mem_of_getElem? e)
  | _ => show wt U.non ≤ 160000; simp [wt]
theorem five_at {w : Addr} {H : Hp} {v : V} {u : U} (h : At w C H v u) (q : gTO 5 u = true) : ∃ p x0 x1 x2 x3 x4, v = .ref p ∧ SqT K H p [x0, x1, x2, x3, x4] ∧ At w C H x0 (nth u 0) ∧ At w C H x1 (nth u 1) ∧ At w C H x2 (nth u 2) ∧ At w C H x3 (nth u 3) ∧ At w C H x4 (nth u 4) := by
  obtain ⟨us, rfl, hl⟩ := gTO_of q
  match us, hl with
  | [a, b, c, d, e], _ =>
    obtain ⟨p, xs, rfl, hp, _, l⟩ := at_tup h
    cases l with
    | cons h0 l => cases l with
      | cons h1 l => cases l with
        | cons h2 l => cases l with
          | cons h3 l => cases l with
            | cons h4 l => cases l with
              | nil => exact ⟨p, _, _, _, _, _, rfl, Tu.st hp, h0, h1, h2, h3, h4⟩
theorem jw_letter {f f1 f2 f3 f4 : Addr} {fd d1 d2 d3 d4 : FuncData} {th to_ ta : List (Str × List Str)} (D : Df K mg "is_letter" sLetter ["thing"] f fd) (S : Bs K mg C) (JT : JTO P wd K mg base C f1 d1) (JM : Jd P wd K mg base C 3 "is_machine" "thing" f2 d2 gMach) (JC : Jd P wd K mg base C 2 "is_count" "thing" f3 d3 gCnt)
    (D4 : Df K mg "_is_told" sTold ["to", "by", "word", "rest"] f4 d4) (G : FnOk P wd K mg base CX0 10 f4 d4 ["to", "by", "word", "rest"] (spTold C th to_ ta)) : Jw P wd K mg base C 11 "is_letter" "thing" f fd Sm (gLetter th to_ ta) := by
  refine ⟨D.F.ok scLetter lenJw (fun cdv A outer s H vs Q E hr h => ?_), D.g, D.F.kp, D.b⟩
  obtain ⟨v, u, w, rfl, hat, fi, hs, hw, k⟩ := h
  refine ⟨_, pss_cons (ps_if (pt_not (pt_val (pe_call JT.ok (hr.mono (by decide)) (by rfl) JT.D.g JT.D.F.kp JT.D.b .nil pass0 (pa_cons pe_int (pa_cons (pv 0) pa_nil))))) (pss_one (ps_ret pe_bl)) pss_nil)
    (pss_cons (ps_asg (pv 0) (pg_tup rfl (pgs_cons (pg_name (i := 1) scLetter.nd rfl (Or.inl rfl)) (pgs_cons (pg_name (i := 2) scLetter.nd rfl (Or.inl rfl)) (pgs_cons (pg_name (i := 3) scLetter.nd rfl (Or.inl rfl)) (pgs_cons (pg_name (i := 4) scLetter.nd rfl (Or.inl rfl)) (pgs_cons (pg_name (i := 5) scLetter.nd rfl (Or.inl rfl)) pgs_nil)))))))
    (pss_cons (ps_if (PW.pt (pw_or (pt_not (pt_val (pe_J JM hr (by decide) (by rfl) pass0 (pv 1)))) (pw_or (pt_not (pt_val (pe_J JM hr (by decide) (by rfl) pass0 (pv 2)))) (pw_or1 (pt_not (pt_val (pe_J JC hr (by decide) (by rfl) pass0 (pv 3)))))))) (pss_one (ps_ret pe_bl)) pss_nil)
    (pss_one (ps_ret (pe_and (pe_isiX S (by rfl) (by rfl) S.B.str boot_str (by decide) (pv 4) (by decide) (by decide)) (pe_and (pe_isiX S (by rfl) (by rfl) S.B.tup boot_tuple' (by decide) (pv 5) (by decide) (by decide)) (pe_one (pe_call G hr (by rfl) D4.g D4.F.kp D4.b .nil pass0 (pa_cons (pv 1) (pa_cons (pv 2) (pa_cons (pv 4) (pa_cons (pv 5) pa_nil)))))))))))), ?_⟩
  refine q_when (b := !gTO 5 u) (et_not (et_B (ev_TO (m := 5) ev_c (ev_var rfl) hat))) (fun q H1 e => ?_) (fun q H1 e => ?_)
  · refine s_ret ev_c fun H2 e2 => ?_
    have e3 : gLetter th to_ ta u = false := by
      unfold gLetter
      rw [Bool.not_eq_true'] at q
      rw [q]
      rfl
    rw [← e3]
    exact k H2 (e.trans e2)
  rw [Bool.not_eq_false'] at q
  have fn : ∀ i, i < 5 → Fine (nth u i) := fun i hi => fine_nth q hi fi
  obtain ⟨p, x0, x1, x2, x3, x4, rfl, hp, h0, h1, h2, h3, h4⟩ := five_at (ex_at e hat) q
  refine ⟨_, rfl, p, _, rfl, hp, rfl, _, _, rfl, _, _, rfl, _, _, rfl, _, _, rfl, _, _, rfl, rfl, ?_⟩
  show tSeq _ _ _ [some (V.ref p), some x0, some x1, some x2, some x3, some x4] H1
  have g0 : gLetter th to_ ta u = ((gMach (nth u 0) && (gMach (nth u 1) && gCnt (nth u 2))) && (isT (nth u 3) "str" && (isT (nth u 4) "tuple" && gTold th to_ ta (nth u 0) (nth u 1) (strU (nth u 3)) (tupU (nth u 4))))) := by
    unfold gLetter
    rw [q, Bool.true_and]
  refine q_when (b := !gMach (nth u 0) || (!gMach (nth u 1) || !gCnt (nth u 2))) (et_or (et_not (et_B (ev_J (ev_var rfl) h0 (fn 0 (by decide))))) fun _ => et_or (et_not (et_B (ev_J (ev_var rfl) h1 (fn 1 (by decide))))) fun _ => et_not (et_B (ev_J (ev_var rfl) h2 (fn 2 (by decide))))) (fun c H2 e2 => ?_) (fun c H2 e2 => ?_)
  · refine s_ret ev_c fun H3 e3 => ?_
    have e4 : gLetter th to_ ta u = false := by
      rw [g0]
      revert c
      cases gMach (nth u 0) <;> cases gMach (nth u 1) <;> cases gCnt (nth u 2) <;> simp
    rw [← e4]
    exact k H3 ((e.trans e2).trans e3)
  obtain ⟨q0, q1, q2⟩ : gMach (nth u 0) = true ∧ gMach (nth u 1) = true ∧ gCnt (nth u 2) = true := by
    revert c
    cases gMach (nth u 0) <;> cases gMach (nth u 1) <;> cases gCnt (nth u 2) <;> simp
  rw [q0, q1, q2] at g0
  rw [show ((true && (true && true)) && (isT (nth u 3) "str" && (isT (nth u 4) "tuple" && gTold th to_ ta (nth u 0) (nth u 1) (strU (nth u 3)) (tupU (nth u 4))))) = (isT (nth u 3) "str" && (isT (nth u 4) "tuple" && gTold th to_ ta (nth u 0) (nth u 1) (strU (nth u 3)) (tupU (nth u 4)))) from rfl] at g0
  rw [g0] at k
  have e02 := e.trans e2
  refine s_ret (ev_andV (ev_isi (ev_var rfl) (ex_at e2 h3)) fun c3 => ev_andV (ev_isi (ev_var rfl) (ex_at e2 h4)) fun c4 => ?_) fun H3 e3 => k H3 (e02.trans e3)
  obtain ⟨us, e4⟩ := isT_tup c4
  have f4 := fn 4 (by decide)
  have s4 := sm_nthK hs 4
  rw [e4] at h4 f4 s4 ⊢
  have hz : ∃ z, nth u 3 = .str z := by
    cases hu : nth u 3 with
    | str z => exact ⟨z, rfl⟩
    | _ => rw [hu] at c3; exact absurd c3 (by simp [isT, isS, tyU])
  obtain ⟨z, e5⟩ := hz
  rw [e5] at h3 ⊢
  have h3' := at_str h3
  subst h3'
  exact ev_call (ea_cons (ev_var rfl) (ea_cons (ev_var rfl) (ea_cons (ev_var rfl) (ea_cons (ev_var rfl) ea_nil)))) fun G1 eg Q f E => ⟨x0, x1, x4, nth u 0, nth u 1, z, us, w, rfl, ex_at (e2.trans eg) h0, ex_at (e2.trans eg) h1, q0, q1, ex_at (e2.trans eg) h4, f4, s4, hw.imp fun o z => (e02.trans eg) _ _ z, f⟩
end
end Hs
namespace Hs
open PySem PySem.Spec PyProof.Rows L2 Hu Evl
open Hk (SI ltSI nearOk)
inductive LkL (K : PySem.W.Frag) (H : Hp) : List V → List U → Prop
  | nil : LkL K H [] []
  | cons {v : V} {u : U} {vs : List V} {us : List U} : Lk K H v u → LkL K H vs us → LkL K H (v :: vs) (u :: us)
section
variable {K : PySem.W.Frag} {w C : Addr} {H H' : Hp} {v : V} {u : U} {vs ws : List V} {us zs : List U}
theorem LkL.ex (e : Ex H H') (h : LkL K H vs us) : LkL K H' vs us := by
  induction h with
  | nil => exact .nil
  | cons h _ ih => exact .cons (h.ex e) ih
theorem LkL.len (h : LkL K H vs us) : vs.length = us.length := by
  induction h with
  | nil => rfl
  | cons _ _ ih => rw [List.length_cons, List.length_cons, ih]
theorem LkL.get (h : LkL K H vs us) : ∀ (i : Nat) (x : V) (u : U), vs[i]? = some x → us[i]? = some u → Lk K H x u := by
  induction h with
  | nil => exact fun i x u h1 _ => by simp at h1
  | cons h _ ih =>
    intro i x u h1 h2
    cases i with
    | zero => cases h1; cases h2; exact h
    | succ i => exact ih i x u (by simpa using h1) (by simpa using h2)
theorem LkL.of : ∀ {vs : List V} {us : List U}, vs.length = us.length → (∀ (i : Nat) (x : V) (u : U), vs[i]? = some x → us[i]? = some u → Lk K H x u) → LkL K H vs us
  | [], [], _, _ => .nil
  | v :: vs, u :: us, l, h => .cons (h 0 v u rfl rfl) (LkL.of (by simpa using l) fun i x y h1 h2 => h (i + 1) x y (by simpa using h1) (by simpa using h2))
theorem LkL.append (h : LkL K H vs us) (k : LkL K H ws zs) : LkL K H (vs ++ ws) (us ++ zs) := by
  induction h with
  | nil => exact k
  | cons h _ ih => exact .cons h ih
theorem Lk.tupL {a : Addr} (h : SqT K H a vs) (l : LkL K H vs us) : Lk K H (.ref a) (.tup us) := .tup h l.len l.get
theorem Lk.un (h : Lk K H v (.tup us)) : ∃ a xs, v = .ref a ∧ SqT K H a xs ∧ LkL K H xs us := by
  cases h with
  | tup h1 h2 h3 => exact ⟨_, _, rfl, h1, .of h2 h3⟩
/-- evaluates to this data -/
def EvK (K : PySem.W.Frag) (te : TE) (σ : L2.St) (H : Hp) (u : U) : Prop := ∀ H1, Ex H H1 → ∀ Q : VK, (∀ v H2, Ex H1 H2 → Lk K H2 v u → Q v H2) → te σ H1 Q
def EvKs (K : PySem.W.Frag) (ta : TA) (σ : L2.St) (H : Hp) (us : List U) : Prop := ∀ H1, Ex H H1 → ∀ Q : List V → Hp → Prop, (∀ vs H2, Ex H1 H2 → LkL K H2 vs us → Q vs H2) → ta σ H1 Q
variable {σ : L2.St} {te tb tl : TE} {ta tr : TA} {us2 : List U}
theorem EvK.mono (e : Ex H H') (h : EvK K te σ H u) : EvK K te σ H' u := fun H1 e1 Q q => h H1 (e.trans e1) Q q
theorem ek_ev (h : Ev te σ H v) (l : Lk K H v u) : EvK K te σ H u := fun H1 e Q q => h H1 e _ fun H2 e2 => q v H2 e2 (l.ex (e.trans e2))
theorem ek_at (h : Ev te σ H v) (hat : At w C H v u) (p : pln u) : EvK K te σ H u := ek_ev h (lk_at p hat)
theorem eks_nil : EvKs K tNil σ H [] := fun H1 e Q q => q [] H1 (Ex.refl H1) .nil
theorem eks_cons (h : EvK K te σ H u) (hr : EvKs K tr σ H us) : EvKs K (tCons te tr) σ H (u :: us) := fun H1 e Q q =>
  h H1 e _ fun v H2 e2 a => hr H2 (e.trans e2) _ fun vs H3 e3 l => q (v :: vs) H3 (e2.trans e3) (.cons (a.ex e3) l)
theorem newT_sq {Q : VK} (q : ∀ p H', Ex H H' → SqT K H' p vs → Q (.ref p) H') : NewT H vs Q := fun p hp => .inl (q p _ (Ex.new hp) (st_of upd_same))
theorem ek_tup (h : EvKs K ta σ H us) (hz : us.length ≤ 100000) : EvK K (tTupF ta) σ H (.tup us) := fun H1 e Q q =>
  h H1 e _ fun vs H2 e2 l => ⟨sz_of (by rw [l.len]; exact hz), newT_sq fun p H3 e3 s => q (.ref p) H3 (e2.trans e3) (.tupL s (l.ex e3))⟩
theorem asgK {D : Ends} {tz : TS} {i : Nat} (h : EvK K te σ H u) (k : ∀ v H1, Ex H H1 → Lk K H1 v u → tz D (σ.set i (some v)) H1) : tSeq (tAsg te (gName i)) tz D σ H := h H (Ex.refl H) _ k
theorem s_retK {D : Ends} (h : EvK K te σ H u) (k : ∀ v H1, Ex H H1 → Lk K H1 v u → D.rt v H1) : tRet te D σ H := h H (Ex.refl H) _ k
end
end Hs
namespace Hs
open PySem PySem.Spec PyProof.Rows L2 Hu Evl
open Hk (SI ltSI nearOk)
section
variable {P : Program} {wd : World} {K : PySem.W.Frag} {mg : Str → Option Value} {base : Heap} {C : Addr}
def toldU (ds : List U) (z : Str) (rs : List U) : U := .tup [.tup ds, .tup [.str z, .tup rs]]
def fE (rest : List U) : U := rest.getD 0 .non
def fA (rest : List U) : U := rest.getD 1 .non
end
end Hs
namespace Hk
open PySem PySem.Spec PyProof.Rows L2
theorem kEq_comm (k l : L2.Key) : kEq k l = kEq l k := by
  cases h : kEq l k with
  | true => exact kEq_iff.mpr (kEq_iff.mp h).symm
  | false =>
    cases h2 : kEq k l with
    | true => rw [kEq_iff.mpr (kEq_iff.mp h2).symm] at h; exact h
    | false => rfl
section
variable {X : Cx}
def rGtK (K : PySem.W.Frag) : R2 := fun x y H Q => ∃ (a b : Addr) (ks ls : List L2.Key), x = .ref a ∧ y = .ref b ∧ SqT K H a (ks.map kV) ∧ SqT K H b (ls.map kV) ∧ kinds ks ls = true ∧ Q (.bl (ltK ls ks)) H
theorem op_gtK (hu : X.A.units < cLine) : OpR X (compareOp .Gt) (rGtK X.K) := by
  intro pins s σ H x y v u Q I rx ry h
  obtain ⟨a, b, ks, ls, rfl, rfl, ha, hb, hk, q⟩ := h
  cases rx
  cases ry
  obtain ⟨xs, r1, p1, _⟩ := I.tuple ha
  obtain ⟨ys, r2, p2, _⟩ := I.tuple hb
  have l1 : xs.toArray.size = ks.length := by
    have := r1.length
    rw [List.length_map] at this
    rw [List.size_toArray, this]
  have l2 : ys.toArray.size = ls.length := by
    have := r2.length
    rw [List.length_map] at this
    rw [List.size_toArray, this]
  have main := Ob.RcOp.tuples_gt (A := X.A) (s := s) (e := fun j => kEq (ks.getD j d0) (ls.getD j d0)) (r := fun j => kLt (ls.getD j d0) (ks.getD j d0)) p1 p2 hu (fun j h1 h2 => by
    have v1 := rel_at r1 j (by simpa using h1)
    have v2 := rel_at r2 j (by simpa using h2)
    have kk := kinds_at hk j (l1 ▸ h1) (l2 ▸ h2)
    have g1 : xs.toArray[j] = xs[j]'(by simpa using h1) := by simp
    have g2 : ys.toArray[j] = ys[j]'(by simpa using h2) := by simp
    rw [g1, g2]
    generalize ks.getD j d0 = k at v1 kk ⊢
    generalize ls.getD j d0 = l at v2 kk ⊢
    cases k with
    | inl i => cases l with
      | inl j =>
        obtain ⟨t, e1⟩ := v1
        obtain ⟨t', e2⟩ := v2
        rw [e1, e2]
        exact SeqAt.EqAt.int_int _ _ _ _
      | inr y => cases kk
    | inr z => cases l with
      | inl j => cases kk
      | inr y =>
        obtain ⟨t, e1⟩ := v1
        obtain ⟨t', e2⟩ := v2
        rw [e1, e2]
        exact SeqAt.EqAt.str_str _ _ _ _) (fun j h1 h2 _ => by
    have v1 := rel_at r1 j (by simpa using h1)
    have v2 := rel_at r2 j (by simpa using h2)
    have kk := kinds_at hk j (l1 ▸ h1) (l2 ▸ h2)
    have g1 : xs.toArray[j] = xs[j]'(by simpa using h1) := by simp
    have g2 : ys.toArray[j] = ys[j]'(by simpa using h2) := by simp
    rw [g1, g2]
    generalize ks.getD j d0 = k at v1 kk ⊢
    generalize ls.getD j d0 = l at v2 kk ⊢
    cases k with
    | inl i => cases l with
      | inl j =>
        obtain ⟨t, e1⟩ := v1
        obtain ⟨t', e2⟩ := v2
        rw [e1, e2]
        exact Ob.RcOp.gt_int _ _ _ _
      | inr y => cases kk
    | inr z => cases l with
      | inl j => cases kk
      | inr y =>
        obtain ⟨t, e1⟩ := v1
        obtain ⟨t', e2⟩ := v2
        rw [e1, e2]
        exact fun prog w E Q h => PySem.P.gt_str h)
  rw [l1, l2, Nat.min_comm] at main
  have e0 : decide (ks.length > ls.length) = decide (ls.length < ks.length) := rfl
  rw [e0, lexAt_is ls ks 0 _ _ (fun j => by rw [Nat.zero_add, kEq_comm]) (fun j => by rw [Nat.zero_add])] at main
  exact main X.prog X.w X.xe (EP X pins σ Q) ⟨.bl (ltK ls ks), H, I, rfl, q⟩
end
end Hk
namespace Hs
open PySem PySem.Spec PyProof.Rows L2 Hu Evl
open Hk (SI ltSI nearOk)
abbrev sWithHand : Stmt := topS 144
abbrev sAnswer : Stmt := topS 146
abbrev sAnswered : Stmt := topS 147
section
variable {K : PySem.W.Frag} {w C : Addr} {H H' : Hp} {v : V} {u : U} {vs ws : List V} {us zs : List U}
theorem sqt_mut {a D : Addr} {xs ys : List V} {o : HO} (hD : H D = some (.lst ys)) (h : SqT K H a xs) : SqT K (upd H D o) a xs := by
  rcases h with h | h
  · refine .inl ?_
    rcases h with h | ⟨b, h⟩
    · exact .inl (by rw [upd_ne (fun z => by rw [z, hD] at h; cases h)]; exact h)
    · exact .inr ⟨b, by rw [upd_ne (fun z => by rw [z, hD] at h; cases h)]; exact h⟩
  · exact .inr h
theorem Lk.mut {D : Addr} {ys : List V} {o : HO} (hD : H D = some (.lst ys)) (h : Lk K H v u) : Lk K (upd H D o) v u := by
  induction h with
  | non => exact .non
  | int i => exact .int i
  | str z => exact .str z
  | tup h1 h2 _ ih => exact .tup (sqt_mut hD h1) h2 fun i x u h3 h4 => ih i x u h3 h4
theorem LkL.mut {D : Addr} {ys : List V} {o : HO} (hD : H D = some (.lst ys)) (h : LkL K H vs us) : LkL K (upd H D o) vs us := by
  induction h with
  | nil => exact .nil
  | cons h _ ih => exact .cons (h.mut hD) ih
variable {σ : L2.St} {te tl : TE} {g : TG}
/-- [f(x) for x in a tuple told] -/
theorem lc_K {a : Addr} {xs : List V} {vs : List Nat} (F : U → U) (h : Ev tl σ H (.ref a)) (ha : SqT K H a xs) (hl : LkL K H xs us) (hz : us.length ≤ 40000)
    (hs : ∀ x u G, u ∈ us → Ex H G → Lk K G x u → ∀ Q : L2.St → Hp → Prop, (∀ τ, wipe τ vs = wipe σ vs → EvK K te τ G (F u) → Q τ G) → g x (wipe σ vs) G Q) :
    ∀ H1, Ex H H1 → ∀ Q : VK, (∀ p ys H2, H1 p = none → Ex H1 H2 → H2 p = some (.lst ys) → LkL K H2 ys (us.map F) → Q (.ref p) H2) → tLc (iTup K tl) g tYes te vs σ H1 Q := fun H0 e Q q => h H0 e _ fun H1 e1 => ⟨a, rfl, ⟨xs, sqt_ex (e.trans e1) ha⟩, fun Dl hD =>
  lc_tup (xs := xs) (fun i H' => Ex H1 H' ∧ ∃ ys, H' Dl = some (.lst ys) ∧ LkL K H' ys ((us.take i).map F)) ⟨Ex.new hD, [], upd_same, .nil⟩ (fun i H' _ p => sqt_ex ((e.trans e1).trans p.1) ha) (fun i x G hi p => by
    obtain ⟨p1, ys, p2, p3⟩ := p
    have hi' : i < us.length := by
      have := (List.getElem?_eq_some_iff.mp hi).1
      rw [hl.len] at this
      exact this
    have hg : us[i]? = some us[i] := List.getElem?_eq_getElem hi'
    have E1 := (e.trans e1).trans p1
    refine hs x us[i] G (List.getElem_mem hi') E1 ((hl.get i x _ hi hg).ex E1) _ fun τ ew ek => ⟨ew, ?_⟩
    refine et_yes G (Ex.refl G) _ fun G1 g1 => ?_
    rw [if_pos rfl]
    refine ek G1 g1 _ fun v G2 g2 lv => ?_
    have h2 := g2 _ _ (g1 _ _ p2)
    refine ⟨ys, h2, ?_, Ex.mut ((p1.trans g1).trans g2) hD, _, upd_same, ?_⟩
    · have := p3.len
      rw [List.length_map, List.length_take] at this
      exact sz_lt (by omega)
    · have tk : us.take (i + 1) = us.take i ++ [us[i]] := by rw [List.take_add_one, hg]; rfl
      rw [tk, List.map_append]
      exact ((p3.ex (g1.trans g2)).append (.cons lv .nil)).mut h2) (fun G p => by
    obtain ⟨p1, ys, p2, p3⟩ := p
    rw [hl.len, List.take_length] at p3
    exact q Dl ys G (fresh_back e1 hD) (e1.trans p1) p2 p3)⟩
theorem ek_tupK {tx : TE} (h : ∀ H1, Ex H H1 → ∀ Q : VK, (∀ p ys H2, H1 p = none → Ex H1 H2 → H2 p = some (.lst ys) → LkL K H2 ys us → Q (.ref p) H2) → tx σ H1 Q) : EvK K (tCB (rTupF K) (tCons tx tNil)) σ H (.tup us) := fun H1 e Q q =>
  h H1 e _ fun p ys H2 hp e2 h2 l => ⟨p, ys, rfl, .inl ⟨sq_of h2, newT_sq fun p' H3 e3 s => q (.ref p') H3 (e2.trans e3) (.tupL s (l.ex e3))⟩⟩
end
section
variable {P : Program} {wd : World} {K : PySem.W.Frag} {mg : Str → Option Value} {base : Heap} {C : Addr}
theorem scWH : FnScope ["table", "hand", "talk", "word", "rest", "epoch", "deeds", "doing"] ["table", "hand", "talk", "word", "rest"] (defScope sWithHand) := ⟨rfl, rfl, rfl, by decide +kernel, rfl, by decide +kernel, by decide +kernel⟩
def ansU (h t m : Int) (o : U) : U := match o with
  | .tup [ds, .tup [z, rs]] => .tup [ds, .tup [.tup [.tup [.str "hand", .int h], .tup [.str "home", .int m], .int t, z, rs]]]
  | _ => .non
def IsTold (o : U) : Prop := ∃ ds z rs, o = .tup [ds, .tup [z, rs]]
def letU (h t m : Int) (z : Str) (rest : List U) : List U := [.tup [.str "home", .int m], .tup [.str "hand", .int h], .int t, .str z, .tup rest]
abbrev nmAd : List Str := ["home", "table", "letter", "to", "by", "talk", "word", "rest", "deeds", "answers", "told", "told_word", "told_rest"]
theorem scAd : FnScope nmAd ["home", "table", "letter"] (defScope sAnswered) := ⟨rfl, rfl, rfl, by decide +kernel, rfl, by decide +kernel, by decide +kernel⟩
def pkU (h t m : Int) (o : U) : U := match o with
  | .tup [a, b] => .tup [.tup [.str "hand", .int h], .tup [.str "home", .int m], .int t, a, b]
  | _ => .non
end
end Hs
namespace Hs
open PySem PySem.Spec PyProof.Rows L2 Hu Evl
section
variable {P : Program} {wd : World} {K : PySem.W.Frag} {mg : Str → Option Value} {base : Heap} {C : Addr}
theorem scAnswer : FnScope ["home", "table", "letter"] ["home", "table", "letter"] (defScope sAnswer) := ⟨rfl, rfl, rfl, by decide +kernel, rfl, by decide +kernel, by decide +kernel⟩
end
end Hs
namespace Hs
open PySem PySem.Spec PyProof.Rows L2 Hu Evl
abbrev sDeed3 : Stmt := topS 68
abbrev sChanged3 : Stmt := topS 69
abbrev sBehind3 : Stmt := topS 91
abbrev sLets3 : Stmt := topS 92
abbrev sDone3 : Stmt := topS 93
def gDeed (tab : List (Str × List Str)) (u : U) : Bool := match u with
  | .tup (.str z :: us) => if z = "stand" then (match us with | [t] => gTable t | _ => false) else lookT tab z us
  | _ => false
section
variable {σ : L2.St} {H : Hp} {te : TE} {ta : TA} {Q : VK} {sp : Sp} {E : XK} {R2 : List V → Hp → Prop}
theorem call1X (h : ta σ H fun vs H1 => sp (vs ++ []) H1 Q E) : tCall sp [] E ta σ H Q := h
end
section
variable {P : Program} {wd : World} {K : PySem.W.Frag} {mg : Str → Option Value} {base : Heap} {C : Addr}
theorem tab_len {tab : List (Str × List Str)} {z : Str} {ks : List Str} (hl : ∀ r ∈ tab, r.2.length ≤ 1000) (h : tabOf tab z = some ks) : ks.length ≤ 1000 := by
  induction tab with
  | nil => cases h
  | cons r l ih =>
    have h' : (if r.1 = z then some r.2 else tabOf l z) = some ks := h
    by_cases c : r.1 = z
    · rw [if_pos c] at h'
      cases h'
      exact hl r (by simp)
    · rw [if_neg c] at h'
      exact ih (fun x hx => hl x (List.mem_cons_of_mem _ hx)) h'
theorem scDeed5 : FnScope ["thing"] ["thing"] (defScope sDeed3) := ⟨rfl, rfl, rfl, by decide +kernel, rfl, by decide +kernel, by decide +kernel⟩
theorem jw_deed {f f1 f2 a : Addr} {fd d1 d2 : FuncData} {tab : List (Str × List Str)} {es : Array DictEntry} {n : Nat} (D : Df K mg "is_deed" sDeed3 ["thing"] f fd) (S : Bs K mg C) (T : KTab K wd mg "DEEDS" tab a es n) (tz : ∀ r ∈ tab, r.2.length ≤ 1000) (JT : Jw P wd K mg base C 8 "is_table" "thing" f1 d1 Sm gTable)
    (D2 : Df K mg "are_parts" sPartsK ["kinds", "things"] f2 d2) (G : FnOk P wd K mg base CX0 9 f2 d2 ["kinds", "things"] (spPks K C)) : Jw P wd K mg base C 10 "is_deed" "thing" f fd Sm (gDeed tab) := by
  refine ⟨D.F.ok scDeed5 lenJw (fun cdv A outer s H vs Q E hr h => ?_), D.g, D.F.kp, D.b⟩
  obtain ⟨v, u, w, rfl, hat, fi, hs, hw, k⟩ := h
  refine ⟨_, pss_cons (ps_if (PW.pt (pw_or (pt_not (pt_val (pe_isiX S (by rfl) (by rfl) S.B.tup boot_tuple' (by decide) (pv 0) (by decide) (by decide)))) (pw_or (pt_cmpR (op_eqN (room_hu hr)) (pv 0) (pe_tup pa_nil) (nomark _)) (pw_or1 (pt_not (pt_val (pe_isiX S (by rfl) (by rfl) S.B.str boot_str (by decide) (pe_ix ix_tup (pv 0) pe_int (fun _ _ => rfl)) (by decide) (by decide)))))))) (pss_one (ps_ret pe_bl)) pss_nil)
    (pss_cons (ps_if (pt_cmpR op_eq (pe_ix ix_tup (pv 0) pe_int (fun _ _ => rfl)) pe_str (nomark _)) (pss_one (ps_ret (pe_and (pe_cmpR op_eq (pe_callB call_len_seq (by rfl) S.B.len PySem.boot_len (pa_cons (pv 0) pa_nil)) pe_int (nomark _)) (pe_one (pe_Jw JT hr (by decide) (by rfl) pass0 (pe_ix ix_tup (pv 0) pe_int (fun _ _ => rfl))))))) pss_nil)
    (pss_one (ps_ret (pe_and (pe_cmpR (op_in_kd T.kd) (pe_ix ix_tup (pv 0) pe_int (fun _ _ => rfl)) (pe_glob (v := .ref a) (by rfl) T.g rfl) (by rfl)) (pe_one (pe_call G hr (by rfl) D2.g D2.F.kp D2.b .nil pass0 (pa_cons (pe_ix ix_kdict (pe_glob (v := .ref a) (by rfl) T.g rfl) (pe_ix ix_tup (pv 0) pe_int (fun _ _ => rfl)) (fun _ _ => rfl)) (pa_cons (pe_slice sl_tupF (pv 0) (po_some pe_int) po_none) pa_nil)))))))), ?_⟩
  have bad : gDeed tab u = false → ∀ H1 H2, Ex H H1 → Ex H1 H2 → Q (.bl false) H2 := fun g H1 H2 e e2 => by
    rw [g] at k
    exact k H2 (e.trans e2)
  by_cases hT' : isT u "tuple" = false
  · refine q_when (b := true) (et_is (et_or (b := true) (et_not (et_B (ev_isi (ev_var rfl) hat))) fun q => absurd q (by rw [hT']; decide)) (by rw [hT']; rfl)) (fun _ H1 e => s_ret ev_c fun H2 e2 => bad ?_ H1 H2 e e2) (fun q => by cases q)
    cases u with
    | tup us => simp [isT, isS, tyU] at hT'
    | _ => rfl
  have hT : isT u "tuple" = true := by simpa using hT'
  obtain ⟨us, rfl⟩ := isT_tup hT
  obtain ⟨x, xs, rfl, hx, nx, hl⟩ := at_tup hat
  cases us with
  | nil =>
    refine q_when (b := true) (et_is (et_or (et_not (et_B (ev_isi (ev_var rfl) hat))) fun _ => et_or (b := true) (et_test (ev_opU (ev_var rfl) (eu_tup ea_nil (by decide)) fun q H1 hq e1 => rv_eqN ((nc_at S.q hat).ex e1) hq)) fun q => absurd q (by decide)) (by simp [isT, isS, tyU, nilU])) (fun _ H1 e => s_ret ev_c fun H2 e2 => bad rfl H1 H2 e e2) (fun q => by cases q)
  | cons u0 ur =>
    cases hl with
    | @cons x0 _ xr _ h0 hr0 =>
    have i0 : ∀ {G : Hp}, Ex H G → Ev (tOp (rIxT K) (tVar 0) (tC (.int 0))) [some (.ref x)] G x0 := fun e => ev_ixT (K := K) (j := 0) (ev_var rfl) (Tu.ex e hx) rfl
    refine q_when (b := !isT u0 "str") (et_is (et_or (et_not (et_B (ev_isi (ev_var rfl) hat))) fun _ => et_or (et_test (ev_opU (ev_var rfl) (eu_tup ea_nil (by decide)) fun q H1 hq e1 => rv_eqN ((nc_at S.q hat).ex e1) hq)) fun _ => et_not (et_B (ev_isi (i0 (Ex.refl H)) h0))) (by simp [isT, isS, tyU, nilU])) (fun q H1 e => s_ret ev_c fun H2 e2 => bad ?_ H1 H2 e e2) (fun q H1 e => ?_)
    · cases u0 with
      | str z => simp [isT, isS, tyU] at q
      | _ => rfl
    rw [Bool.not_eq_false'] at q
    obtain ⟨z, rfl⟩ := isT_str q
    cases at_str h0
    have fr : Fine (.tup ur) := by
      have w1 := fi.w
      have c1 := fi.c
      simp only [wt, wtL] at w1
      refine ⟨by simp only [wt]; omega, ?_⟩
      simp only [clean, cleanL] at c1 ⊢
      exact c1.2
    have sr : Sm (.tup ur) := by
      have h2 : wt (.tup (.str z :: ur)) ≤ 160000 := hs
      simp only [wt, wtL] at h2
      show wt (.tup ur) ≤ 160000
      simp only [wt]
      omega
    refine q_when (b := decide (z = "stand")) (et_test (ev_is (ev_op (i0 e) ev_c (rv_eq rfl)) ?_)) (fun q2 H2 e2 => ?_) (fun q2 H2 e2 => ?_)
    · have : ∀ y : Str, decide (V.str z = V.str y) = decide (z = y) := fun y => decide_eq_decide.mpr ⟨fun h => V.str.inj h, fun h => by rw [h]⟩
      rw [this]
    · have q3 := of_decide_eq_true q2
      subst q3
      have e12 := e.trans e2
      cases hr0 with
      | nil =>
        refine s_ret (ev_andV (a := false) (b := true) (ev_is (ev_op (ev_lenT (K := K) (ev_var rfl) (Tu.ex e12 hx)) ev_c (rv_eq rfl)) (by decide)) fun q => Bool.noConfusion q) fun H3 e3 => bad rfl H2 H3 e12 e3
      | @cons y1 t xr ur h1 hr1 =>
        cases hr1 with
        | nil =>
          have g : gDeed tab (.tup [.str "stand", t]) = (true && gTable t) := rfl
          rw [g] at k
          exact s_ret (ev_andV (ev_is (ev_op (ev_lenT (K := K) (ev_var rfl) (Tu.ex e12 hx)) ev_c (rv_eq rfl)) (congrArg V.bl (decide_eq_true rfl))) fun _ => ev_Jw (ev_ixT (K := K) (j := 1) (ev_var rfl) (Tu.ex e12 hx) rfl) (ex_at e12 h1) (fi.tup t (by simp)) (hs.memK (by simp)) (hw.imp fun o z => e12 _ _ z)) fun H3 e3 => k H3 (e12.trans e3)
        | @cons y2 t2 xr ur h2 hr2 =>
          have lz := AtL.length hr2
          refine s_ret (ev_andV (a := false) (b := true) (ev_is (ev_op (ev_lenT (K := K) (ev_var rfl) (Tu.ex e12 hx)) ev_c (rv_eq rfl)) ?_) fun q => Bool.noConfusion q) fun H3 e3 => bad rfl H2 H3 e12 e3
          exact congrArg V.bl (decide_eq_false fun h => by
            have := V.int.inj h
            simp only [List.length_cons] at this
            omega)
    · have q3 := of_decide_eq_false q2
      have e12 := e.trans e2
      have g : gDeed tab (.tup (.str z :: ur)) = lookT tab z ur := if_neg q3
      rw [g] at k
      obtain ⟨n1, n2⟩ := T.ns z
      cases c : tabOf tab z with
      | none =>
        have e9 : lookT tab z ur = false := by unfold lookT; rw [c]
        rw [e9] at k
        exact s_ret (ev_andV (a := false) (b := true) (ev_op (i0 e12) ev_c fun G1 e Q f => ⟨z, none, rfl, rfl, n2 c, f G1 (Ex.refl G1)⟩) fun q => Bool.noConfusion q) fun H3 e3 => k H3 (e12.trans e3)
      | some ks =>
        obtain ⟨p, hp, tk⟩ := n1 ks c
        have e9 : lookT tab z ur = (true && gParts ks ur) := by unfold lookT; rw [c, Bool.true_and]
        rw [e9] at k
        refine s_ret (ev_andV (a := true) (b := gParts ks ur) (ev_op (i0 e12) ev_c fun G1 e Q f => ⟨z, some (.ref p), rfl, rfl, hp, f G1 (Ex.refl G1)⟩) fun _ => fun G eg Qf f => ?_) fun H3 e3 => k H3 (e12.trans e3)
        refine call1X ?_
        refine cons1 ?_
        refine (ev_op (ta := tC (.ref a)) ev_c (i0 (e12.trans eg)) fun G1 g1 Q f => ⟨a, z, .ref p, rfl, rfl, ⟨es, n, .ref p, T.kd.at_, T.kd.lit, hp, rfl⟩, f G1 (Ex.refl G1)⟩) G (Ex.refl G) _ fun G1 g1 => ?_
        refine cons1 ?_
        have E1 := (e12.trans eg).trans g1
        refine (ed_slice (K := K) (C := C) (w := w) (hw.imp fun o q => E1 _ _ q) (ev_var rfl) (Tu.ex E1 hx) nx (ex_atl E1 (.cons (.str _) hr0)) (eo_some ev_c) eo_none) G1 (Ex.refl G1) _ fun v2 G2 g2 a2 => ?_
        rw [cut_one] at a2
        exact ⟨p, ks, v2, ur, w, rfl, tk, a2, fr, sr, tab_len tz c, hw.imp fun o q => (E1.trans g2) _ _ q, fun G3 g3 => f G3 ((g1.trans g2).trans g3)⟩
theorem scChanged : FnScope ["table", "at", "part"] ["table", "at", "part"] (defScope sChanged3) := ⟨rfl, rfl, rfl, by decide +kernel, rfl, by decide +kernel, by decide +kernel⟩
theorem ok_changed {f : Addr} {fd : FuncData} (D : Df K mg "changed" sChanged3 ["table", "at", "part"] f fd) : FnOk P wd K mg base CX0 1 f fd ["table", "at", "part"] (spCh C) := by
  refine D.F.ok scChanged (fun vs H Q E h => ?_) (fun cdv A outer s H vs Q E hr h => ?_)
  · obtain ⟨x, y, k, us, u, w, rfl, _⟩ := h
    rfl
  obtain ⟨x, y, j, us, u, w, rfl, hx, hy, hw, hj, hz, k⟩ := h
  refine ⟨_, pss_one (ps_ret (pe_op op_catF (pe_op op_catF (pe_slice sl_tupF (pv 0) po_none (po_some (pv 1))) (pe_tupF (pa_cons (pv 2) pa_nil))) (pe_slice sl_tupF (pv 0) (po_some (pe_op op_add (pv 1) pe_int)) po_none))), ?_⟩
  obtain ⟨a, xs, rfl, ha, na, hl⟩ := at_tup hx
  have main : EvD w C (tOp (rCatF K) (tOp (rCatF K) (tSl (rSlF K) (tVar 0) tNoPart (tPart (tVar 1))) (tTupF (tCons (tVar 2) tNil))) (tSl (rSlF K) (tVar 0) (tPart (tOp (rI0 fun i j => .int (i + j)) (tVar 1) (tC (.int 1)))) tNoPart)) [some (.ref a), some (.int (j : Int)), some y] H (.tup (us.set j u)) := by
    rw [← set_cut us j u hj]
    have l1 : (cutU us none (some (j : Int))).length ≤ 1000 := by
      unfold cutU
      rw [List.length_take, List.length_drop]
      omega
    have l2 : (cutU us (some ((j : Int) + 1)) none).length ≤ 1000 := by
      unfold cutU
      rw [List.length_take, List.length_drop]
      omega
    refine ed_cat hw (ed_cat hw (ed_slice hw (ev_var rfl) ha na hl eo_none (eo_some (ev_var rfl))) (ed_tup hw (eds_cons (ed_ev (ev_var rfl) hy) eds_nil) (by show (1 : Nat) ≤ 100000; decide)) ?_) (ed_slice hw (ev_var rfl) ha na hl (eo_some (ev_op (ev_var rfl) ev_c rv_I0)) eo_none) ?_
    · show _ + 1 ≤ 100000
      omega
    · rw [List.length_append]
      show _ + 1 + _ ≤ 100000
      omega
  exact main H (Ex.refl H) _ fun v H1 e a => k v H1 e a
/-- a doing with these parts: what it makes of a table's row -/
def spDg (C : Addr) (ok : List U → List U → Prop) (F : List U → List U → List U) : Sp := fun vs H Q _ => ∃ (x y : V) (us ps : List U) (w : Addr), vs = [x, y] ∧ At w C H x (.tup us) ∧ At w C H y (.tup ps) ∧ (∃ l, H w = some (.lst l)) ∧ us.length = 10 ∧ ok us ps ∧ ∀ v H', Same H H' → At w C H' v (.tup (F us ps)) → Q v H'
theorem lenDg {C : Addr} {ok : List U → List U → Prop} {F : List U → List U → List U} {a b : Str} : ∀ vs H Q E, spDg C ok F vs H Q E → vs.length = [a, b].length := fun vs H Q E h => by
  obtain ⟨x, y, us, ps, w, rfl, _⟩ := h
  rfl
end
section
variable {w C : Addr} {H : Hp} {K : PySem.W.Frag} {σ : L2.St} {te : TE} {us : List U} {x : V}
/-- an item of a row, as data -/
theorem ed_item (h : Ev te σ H x) (hat : At w C H x (.tup us)) (k : Nat) (hk : k < us.length) : EvD w C (tOp (rIxT K) te (tC (.int (k : Int)))) σ H (us.getD k .non) := by
  obtain ⟨y, ey, ay⟩ := ev_nth (K := K) (m := us.length) (u := .tup us) (te := te) (k := k) (σ := σ) h hat (decide_eq_true rfl) hk
  exact ed_ev ey ay
/-- changed(..) in a reading -/
theorem ed_changed {w : Addr} {σ : L2.St} {H : Hp} {t1 t2 t3 : TE} {E : XK} {us : List U} {u : U} {k : Nat} (hw : ∃ o, H w = some o) (h1 : EvD w C t1 σ H (.tup us)) (h2 : Ev t2 σ H (.int (k : Int))) (h3 : EvD w C t3 σ H u) (hk : k < us.length) (hz : us.length ≤ 1000) :
    EvD w C (tCall (spCh C) [] E (tCons t1 (tCons t2 (tCons t3 tNil)))) σ H (.tup (us.set k u)) := fun G e Q q =>
  h1 G e _ fun v1 G1 e1 a1 => h2 G1 (e.trans e1) _ fun G2 e2 => h3 G2 ((e.trans e1).trans e2) _ fun v3 G3 e3 a3 =>
    ⟨v1, v3, k, us, u, w, rfl, ex_at (e2.trans e3) a1, a3, hw.imp fun o z => (((e.trans e1).trans e2).trans e3) _ _ z, hk, hz, fun v H' s a => q v H' (((e1.trans e2).trans e3).trans s) a⟩
end
section
variable {P : Program} {wd : World} {K : PySem.W.Frag} {mg : Str → Option Value} {base : Heap} {C : Addr}
def bareDs : List Str := ["install", "stand", "tick", "rise", "collect"]
def letsB (e : Int) (z : Str) : Bool := decide (e ≥ 0) || inV (.str z) (bareDs.map V.str)
def spLets5 (K : PySem.W.Frag) : Sp := fun vs H Q _ => ∃ (a b : Addr) (xs ys : List V) (e : Int) (z : Str), vs = [.ref a, .ref b] ∧ SqT K H a xs ∧ xs[0]? = some (.int e) ∧ SqT K H b ys ∧ ys[0]? = some (.str z) ∧ ∀ H', Same H H' → Q (.bl (letsB e z)) H'
theorem scLets : FnScope ["table", "deed"] ["table", "deed"] (defScope sLets3) := ⟨rfl, rfl, rfl, by decide +kernel, rfl, by decide +kernel, by decide +kernel⟩
theorem scDone : FnScope ["table", "deed", "doing"] ["table", "deed"] (defScope sDone3) := ⟨rfl, rfl, rfl, by decide +kernel, rfl, by decide +kernel, by decide +kernel⟩
theorem ok_lets5 {f aB : Addr} {fd : FuncData} (D : Df K mg "lets" sLets3 ["table", "deed"] f fd) (N : Ct mg) (gB : mg "BARE_DEEDS" = some (.ref aB)) (tB : TupK K aB bareDs) : FnOk P wd K mg base CX0 1 f fd ["table", "deed"] (spLets5 K) := by
  refine D.F.ok scLets (fun vs H Q E h => ?_) (fun cdv A outer s H vs Q E hr h => ?_)
  · obtain ⟨a, b, xs, ys, e, z, rfl, _⟩ := h
    rfl
  obtain ⟨a, b, xs, ys, e, z, rfl, ha, h0, hb, h1, k⟩ := h
  refine ⟨_, pss_one (ps_ret (pe_or (pe_cmpR op_ge (pe_ix (show IxR _ (rIxT K) from ix_tup) (pv 0) (pe_gi (by rfl) N.p0) (fun _ _ => rfl)) pe_int (nomark _)) (pe_one (pe_cmpR (show OpR _ _ (rIn K false) from op_in_seq) (pe_ix (show IxR _ (rIxT K) from ix_tup) (pv 1) pe_int (fun _ _ => rfl)) (pe_glob (v := .ref aB) (by rfl) gB rfl) (by rfl))))), ?_⟩
  refine s_ret (ev_orV (ev_op (ev_op (ev_var rfl) ev_c (rv_ixT ha (atI_nat (j := 0) h0))) ev_c rv_I0) fun _ => ev_op (ev_op (ev_var rfl) ev_c (rv_ixT hb (atI_nat (j := 0) h1))) ev_c (rv_inT (neg := false) (tB H) rfl (by rfl))) fun H1 e => k H1 e
/-- done, by the word of the deed: the doing that the table of doings has for it -/
def spDone5 (C : Addr) (z : Str) (ok : List U → List U → Prop) (F : List U → List U → List U) : Sp := fun vs H Q _ => ∃ (x y : V) (us ps : List U) (w : Addr), vs = [x, y] ∧ At w C H x (.tup us) ∧ At w C H y (.tup (.str z :: ps)) ∧ (∃ l, H w = some (.lst l)) ∧ us.length = 10 ∧ ok us ps ∧ ∀ v H', Same H H' → At w C H' v (.tup (F us ps)) → Q v H'
theorem ok_done5 {f fG a : Addr} {fd dG : FuncData} {z : Str} {ok : List U → List U → Prop} {F : List U → List U → List U} (D : Df K mg "done" sDone3 ["table", "deed"] f fd) (hg : mg "DOINGS" = some (.ref a)) (hk : KDct K wd a z (.ref fG)) (kp : PySem.W.keepIn K (.ref fG) = true) (bG : Binds K dG ["table", "parts"] [])
    (G : FnOk P wd K mg base CX0 3 fG dG ["table", "parts"] (spDg C ok F)) : FnOk P wd K mg base CX0 4 f fd ["table", "deed"] (spDone5 C z ok F) := by
  refine D.F.ok scDone (fun vs H Q E h => ?_) (fun cdv A outer s H vs Q E hr h => ?_)
  · obtain ⟨x, y, us, ps, w, rfl, _⟩ := h
    rfl
  obtain ⟨x, y, us, ps, w, rfl, hx, hy, hl, h10, hok, q⟩ := h
  have hw : ∃ o, H w = some o := hl.elim fun l h => ⟨_, h⟩
  refine ⟨_, pss_cons (ps_set (i := 2) scDone.nd rfl (.inl rfl) (pe_ix ix_kdict (pe_glob (v := .ref a) (by rfl) hg rfl) (pe_ix ix_tup (pv 1) pe_int (fun _ _ => rfl)) (fun _ _ => rfl)))
    (pss_one (ps_ret (pe_callL (i := 2) G hr rfl (.inl rfl) kp bG .nil pass0 (pa_cons (pv 0) (pa_cons (pe_slice sl_tupF (pv 1) (po_some pe_int) po_none) pa_nil))))), ?_⟩
  obtain ⟨b, xs, rfl, hb, nb, hls⟩ := at_tup hy
  obtain ⟨x0, xr, rfl, h0⟩ : ∃ x0 xr, xs = x0 :: xr ∧ x0 = .str z := by
    cases hls with
    | cons h1 h2 => exact ⟨_, _, rfl, at_str h1⟩
  subst h0
  refine q_asg (v := .ref fG) (ev_op ev_c (ev_ixT (j := 0) (ev_var rfl) hb rfl) fun G1 e Q q => ⟨a, z, .ref fG, rfl, rfl, hk, q G1 (Ex.refl G1)⟩) fun H1 e1 => ?_
  refine ⟨rfl, x, rfl, ?_⟩
  refine (ed_slice (K := K) (hw.imp fun o z => e1 _ _ z) (ev_var rfl) (Tu.ex e1 hb) nb (ex_atl e1 hls) (eo_some ev_c) eo_none) H1 (Ex.refl H1) _ fun v2 H2 e2 a2 => ?_
  rw [cut_one] at a2
  exact ⟨x, v2, us, ps, w, rfl, ex_at (e1.trans e2) hx, a2, hl.imp fun l h => (e1.trans e2) _ _ h, h10, hok, fun v H' s a => q v H' ((e1.trans e2).trans s) a⟩
end
end Hs
namespace Hs
open PySem PySem.Spec PyProof.Rows L2 Hu Evl
def toT : List (Str × List Str) := [("ask", ["epoch", "name"]), ("list", ["epoch"]), ("get", ["epoch", "id"]), ("put", ["epoch", "id", "piece"]), ("head", ["epoch", "name", "stamp", "row"]), ("lease", ["epoch", "name"]), ("free", ["epoch", "name"]), ("prepare", ["epoch", "ballot"]), ("accept", ["epoch", "ballot", "members"]), ("seal", ["epoch", "members"]), ("install", ["epoch", "members", "ahead", "heads", "blocks"])]
def amT : List (Str × List Str) := [("sums", ["epoch", "many"]), ("values", ["epoch", "many", "size", "sums"]), ("roots", ["epoch", "factor"]), ("heads", ["epoch", "heads", "blocks"])]
def thT : List (Str × List Str) := [("told", ["epoch", "name", "stamp", "row"]), ("names", ["epoch", "names"]), ("block", ["epoch", "id", "piece"]), ("none", ["epoch", "id"]), ("have", ["epoch", "id"]), ("kept", ["epoch", "name", "stamp"]), ("lacks", ["epoch", "name", "stamp", "ids"]), ("leased", ["epoch"]), ("granted", ["epoch", "name", "stamp", "row"]), ("freed", ["epoch", "name"]), ("promised", ["epoch", "ballot", "voted"]), ("voted", ["epoch", "ballot"]), ("beaten", ["epoch", "ballot"]), ("sealed", ["epoch", "members", "heads", "blocks"]), ("stood", ["epoch", "members", "heads", "blocks"]), ("installed", ["epoch"]), ("moved", ["epoch", "epoch", "members", "ahead"]), ("behind", ["epoch"])]
theorem gp_epoch (u : U) : gPart "epoch" u = gCnt u := by
  unfold gPart
  rw [if_pos (by decide +kernel)]
theorem gp_name (u : U) : gPart "name" u = gNam u := by
  unfold gPart
  rw [if_neg (by decide +kernel), if_pos (by decide +kernel)]
theorem gp_stamp (u : U) : gPart "stamp" u = gStamp u := by
  unfold gPart
  rw [if_neg (by decide +kernel), if_neg (by decide +kernel), if_neg (by decide +kernel), if_pos (by decide +kernel)]
theorem gp_ballot (u : U) : gPart "ballot" u = gStamp u := by
  unfold gPart
  rw [if_neg (by decide +kernel), if_neg (by decide +kernel), if_neg (by decide +kernel), if_pos (by decide +kernel)]
theorem gp_row (u : U) : gPart "row" u = gRow u := by
  unfold gPart
  rw [if_neg (by decide +kernel), if_neg (by decide +kernel), if_neg (by decide +kernel), if_neg (by decide +kernel), if_pos (by decide +kernel)]
theorem gp_id (u : U) : gPart "id" u = gId u := by
  unfold gPart
  rw [if_neg (by decide +kernel), if_neg (by decide +kernel), if_neg (by decide +kernel), if_neg (by decide +kernel), if_neg (by decide +kernel), if_pos (by decide +kernel)]
theorem gp_piece (u : U) : gPart "piece" u = gPiece u := by
  unfold gPart
  rw [if_neg (by decide +kernel), if_neg (by decide +kernel), if_neg (by decide +kernel), if_neg (by decide +kernel), if_neg (by decide +kernel), if_neg (by decide +kernel), if_pos (by decide +kernel)]
theorem gp_members (u : U) : gPart "members" u = gMembers u := by
  unfold gPart
  rw [if_neg (by decide +kernel), if_neg (by decide +kernel), if_neg (by decide +kernel), if_neg (by decide +kernel), if_neg (by decide +kernel), if_neg (by decide +kernel), if_neg (by decide +kernel), if_pos (by decide +kernel)]
theorem gp_ahead (u : U) : gPart "ahead" u = gAhead u := by
  unfold gPart
  rw [if_neg (by decide +kernel), if_neg (by decide +kernel), if_neg (by decide +kernel), if_neg (by decide +kernel), if_neg (by decide +kernel), if_neg (by decide +kernel), if_neg (by decide +kernel), if_neg (by decide +kernel), if_pos (by decide +kernel)]
theorem gp_heads (u : U) : gPart "heads" u = gHeads u := by
  unfold gPart
  rw [if_neg (by decide +kernel), if_neg (by decide +kernel), if_neg (by decide +kernel), if_neg (by decide +kernel), if_neg (by decide +kernel), if_neg (by decide +kernel), if_neg (by decide +kernel), if_neg (by decide +kernel), if_neg (by decide +kernel), if_neg (by decide +kernel), if_neg (by decide +kernel)]
  unfold gLot
  rw [if_pos (by decide +kernel)]
theorem gp_blocks (u : U) : gPart "blocks" u = gBlocks u := by
  unfold gPart
  rw [if_neg (by decide +kernel), if_neg (by decide +kernel), if_neg (by decide +kernel), if_neg (by decide +kernel), if_neg (by decide +kernel), if_neg (by decide +kernel), if_neg (by decide +kernel), if_neg (by decide +kernel), if_neg (by decide +kernel), if_neg (by decide +kernel), if_neg (by decide +kernel)]
  unfold gLot
  rw [if_neg (by decide +kernel), if_pos (by decide +kernel)]
theorem gParts_cons (a : Str) (as : List Str) (u : U) (us : List U) : gParts (a :: as) (u :: us) = (gPart a u && gParts as us) := by
  unfold gParts partsAll
  simp only [List.length_cons, List.range_succ_eq_map, List.all_cons, List.all_map, List.getD_cons_zero]
  have : (decide (us.length + 1 = as.length + 1) : Bool) = decide (us.length = as.length) := by simp
  rw [this, ← Bool.and_assoc, Bool.and_comm (decide _), Bool.and_assoc]
  congr 1
theorem gParts_nn : gParts [] [] = true := rfl
theorem lookT_pos {tab : List (Str × List Str)} {z : Str} {ks : List Str} (h : tabOf tab z = some ks) (us : List U) : lookT tab z us = gParts ks us := by
  unfold lookT
  rw [h]
end Hs
namespace Hs
open PySem PySem.Spec PyProof.Rows L2 Hu Evl
def dT : List (Str × List Str) := [("install", ["epoch", "members", "ahead", "heads", "blocks"]), ("put", ["id", "piece"]), ("head", ["name", "stamp", "row"]), ("lease", ["name", "hand", "talk"]), ("free", ["name", "hand", "talk"]), ("promise", ["ballot"]), ("vote", ["ballot", "members"]), ("seal", ["members"]), ("tick", []), ("collect", []), ("rise", []), ("mend", ["heads", "blocks"])]
section
variable {P : Program} {wd : World} {K : PySem.W.Frag} {mg : Str → Option Value} {base : Heap} {C : Addr}
theorem scBehR : FnScope ["table", "deed"] ["table", "deed"] (defScope sBehind3) := ⟨rfl, rfl, rfl, by decide +kernel, rfl, by decide +kernel, by decide +kernel⟩
end
end Hs
namespace Hk
open PySem PySem.Spec PyProof.Rows L2
def zv : Value → Str
  | .str z _ => z
  | _ => default
def ltZv (v u : Value) : Bool := decide ((zv v).cps.toList < (zv u).cps.toList)
theorem swo_str : SrtO.Swo ltZv := by
  refine ⟨fun x y h => ?_, fun x y z h1 h2 => ?_⟩
  · have a := of_decide_eq_true (p := (zv x).cps.toList < (zv y).cps.toList) h
    exact decide_eq_false fun b => List.lt_irrefl _ (List.lt_trans a b)
  · have a := of_decide_eq_false (p := (zv y).cps.toList < (zv x).cps.toList) h1
    have b := of_decide_eq_false (p := (zv z).cps.toList < (zv y).cps.toList) h2
    exact decide_eq_false fun c => by
      rcases lt_tri (zv x).cps.toList (zv y).cps.toList with q | q | q
      · exact b (List.lt_trans c q)
      · exact b (by rw [← q]; exact c)
      · exact a q
section
variable {prog : Program} {w : World} {A : Around} {s : Shared}
theorem strs_mem : ∀ {vs : List Value} {ss : List Str}, StrsAre vs ss → ∀ v ∈ vs, ∃ z t, v = Value.str z t
  | _, _, .nil, v, h => absurd h (by simp)
  | _, _, .cons z t r, v, h => by
    rcases List.mem_cons.mp h with e | h
    · exact ⟨z, t, e⟩
    · exact strs_mem r v h
theorem zv_strs : ∀ {vs : List Value} {ss : List Str}, StrsAre vs ss → vs.map zv = ss
  | _, _, .nil => rfl
  | _, _, .cons z t r => congrArg (z :: ·) (zv_strs r)
theorem str_cmp {vs : List Value} {ss : List Str} (hI : StrsAre vs ss) : SrtO.Cmp prog w A s oneType' (fun p => p.1 ∈ vs) (SrtO.lt2 ltZv) := by
  intro p q hm hm'
  obtain ⟨a, t, e⟩ := strs_mem hI _ hm
  obtain ⟨b, u, e'⟩ := strs_mem hI _ hm'
  show wpAny (model prog w) A (keyLt' oneType' p.1 q.1) (fun r s' => s' = s ∧ r = ltZv p.1 q.1) (fun _ _ => False) s
  rw [e, e', keyLt'_oneType]
  exact oneLt_str ⟨rfl, rfl⟩
theorem strs_sortable {a : Addr} {vs : List Value} {ss : List Str} (hI : StrsAre vs ss) (h2 : 2 ≤ vs.length) : SrtO.SortableO prog w A s a vs ltZv := by
  intro h' _
  refine ⟨oneType', fun Q E hq => ?_, str_cmp hI⟩
  match vs, hI, h2 with
  | v1 :: v2 :: rest, hI, _ =>
    rw [keyKind_strs hI]
    exact wpAny_pure hq
  | [], _, h => exact absurd h (by decide)
  | [v], _, h => exact absurd h (by simp)
end
/-- the keys of such a dict, as they stand -/
theorem pairs_at {prog : Program} {w : World} : ∀ {es : List DictEntry} {kvs : List (L2.Key × Value)} {j : Nat} {e : DictEntry}, Pairs (mixKind prog w) es kvs → es[j]? = some e → ∃ kv, kvs[j]? = some kv ∧ (mixKind prog w).is kv.1 e.key = true
  | _, _, _, _, .nil, h => by simp at h
  | _, _, 0, _, .cons (kv := kv) h _ _, q => by
    cases q
    exact ⟨kv, rfl, h⟩
  | _, _, j + 1, _, .cons _ _ r, q => by
    obtain ⟨kv, h1, h2⟩ := pairs_at r (by simpa using q)
    exact ⟨kv, by simpa using h1, h2⟩
theorem pairs_len {prog : Program} {w : World} : ∀ {es : List DictEntry} {kvs : List (L2.Key × Value)}, Pairs (mixKind prog w) es kvs → es.length = kvs.length
  | _, _, .nil => rfl
  | _, _, .cons _ _ r => by rw [List.length_cons, List.length_cons, pairs_len r]
theorem strs_by : ∀ {vs : List Value} {ss : List Str}, vs.length = ss.length → (∀ (j : Nat) (v : Value), vs[j]? = some v → ∃ z t, ss[j]? = some z ∧ v = .str z t) → StrsAre vs ss
  | [], [], _, _ => .nil
  | [], _ :: _, h, _ => by cases h
  | _ :: _, [], h, _ => by cases h
  | v :: vs, z :: ss, h, k => by
    obtain ⟨y, t, e, rfl⟩ := k 0 v rfl
    cases e
    exact .cons z t (strs_by (by simpa using h) fun j u q => k (j + 1) u (by simpa using q))
theorem strs_vals : ∀ {vs : List Value}, (∀ v ∈ vs, ∃ z t, v = Value.str z t) → Vals ((vs.map zv).map V.str) vs
  | [], _ => .nil
  | v :: vs, h => by
    obtain ⟨z, t, rfl⟩ := h v List.mem_cons_self
    exact .cons ⟨t, rfl⟩ (strs_vals fun u hu => h u (List.mem_cons_of_mem _ hu))
section
variable {X : Cx}
/-- sorted(d): the keys, in a new list -/
def rSortDZ : List V → Hp → VK → Prop := fun xs H Q => ∃ (a : Addr) (kvs : List (L2.Key × V)) (ks : List Str), xs = [.ref a] ∧ H a = some (.dK kvs) ∧ kvs.map (·.1) = ks.map Sum.inr ∧
  ∀ (zs : List Str) (p : Addr), zs.Perm ks → zs.Pairwise (fun x y => ¬ y.cps.toList < x.cps.toList) → H p = none → Q (.ref p) (upd H p (.lst (zs.map V.str)))
theorem cr_sortDZ (hc : X.calm = true) : CallR X (.builtin "sorted") rSortDZ := by
  intro pins s σ H xs us Q I r h
  obtain ⟨a, kvs, ks, rfl, ha, hks, q⟩ := h
  obtain rfl := Vals.ref1 r
  obtain ⟨z, lo, vs, rel, o, es, ep, ho, hx, hdat, _, hps, _⟩ := dk_of I.hok ha
  have l1 : kvs.length = vs.length := Paired.length rel
  have l2 : es.size = vs.length := by rw [← Array.length_toList]; exact pairs_len hps
  have l3 : kvs.length = ks.length := by
    have e := congrArg List.length hks
    rw [List.length_map, List.length_map] at e
    exact e
  have h16 : es.size ≤ sizeLine := by omega
  refine Calls.call_function_entry PyProof.Rows.kind_sorted PyProof.Rows.plain_sorted PyProof.Rows.entry_sorted (PyProof.Rows.args_sorted1 _) ?_
  unfold Builtin.«sorted»
  refine wpAny_bind (m := checkCount "sorted" 1 1 _) (wpAny_pure ?_)
  refine wpAny_bind (PySem.W.kdu_collect (A := X.A.in1) (kdl_dt lo hx hdat) (I.ok.hd hc) ho h16 fun h' tk acc hk hacc => ?_)
  have hI : StrsAre acc.toList ks := by
    refine strs_by (by rw [Array.length_toList, hacc.1]; omega) fun j v hj => ?_
    obtain ⟨en, he, rfl⟩ := hacc.2 j v (by rw [← Array.getElem?_toList]; exact hj)
    obtain ⟨kv, h1, h2⟩ := pairs_at hps (by rw [Array.getElem?_toList]; exact he)
    obtain ⟨e0, he0, r1, _⟩ := L2.DX.pget rel h1
    have k0 : (kvs.map (·.1))[j]? = some e0.1 := by rw [List.getElem?_map, he0]; rfl
    rw [hks, List.getElem?_map] at k0
    cases hkj : ks[j]? with
    | none => rw [hkj] at k0; cases k0
    | some y =>
      rw [hkj] at k0
      have k1 : (Sum.inr y : L2.Key) = e0.1 := Option.some.inj k0
      have h3 : L2.keyIs kv.1 en.key = true := h2
      rw [← r1, ← k1] at h3
      rcases L2.keyIs_shape h3 with ⟨i, t, e, _⟩ | ⟨x, t, e, e2⟩
      · cases e
      · cases e
        exact ⟨y, t, rfl, e2⟩
  have hz : acc.toList.length ≤ sizeLine := by rw [Array.length_toList, hacc.1]; exact h16
  have I1 : Inv X pins σ H { s with heap := h', toks := tk } := I.kept hk
  refine wpAny_bind (wpAny_newList ?_ hz)
  have hoL : (h'.push (seqObj "list" acc.toList.toArray 0)).get? h'.objs.size = some (seqObj "list" acc.toList.toArray 0) := Heap.get?_push_size _ rfl
  show wpAny _ _ _ _ _ { s with heap := h'.push (seqObj "list" acc.toList.toArray 0), toks := tk }
  refine wpAny_bind (wpAny_holding (wpAny_call_entry PyProof.Rows.slot_list_sort ⟨_, hoL, rfl⟩ PyProof.Rows.entry_list_sort
    (SrtO.list_sort_ord (s := { s with heap := h'.push (seqObj "list" acc.toList.toArray 0), toks := tk }) swo_str hoL hz (fun h2 => strs_sortable hI h2) fun out hs hb => ⟨_, rfl, ?_⟩)
    (PyProof.Rows.args_list_sort _)))
  obtain ⟨e', he'⟩ := PyProof.Rows.sortedHeap_at (vs := acc.toList) (out := out.toArray) hoL
  have hlen : ((out.map zv).map V.str).length ≤ sizeLine := by
    rw [List.length_map, List.length_map, hb.perm.length_eq]
    exact hz
  refine wpAny_pure ⟨_, rfl, .ref h'.objs.size, upd H h'.objs.size (.lst ((out.map zv).map V.str)), I1.laid (t' := tk) (fun b u e => ?_) (Nat.le_refl _)
    (show ObjOk X.prog X.w _ _ _ (.lst _) from ⟨hlen, out, e', strs_vals fun v hv => strs_mem hI v (hb.perm.mem_iff.mp hv), he'⟩), rfl, q _ _ ?_ ?_ (I1.hok.fresh (Nat.le_refl _))⟩
  · have hb : b < h'.objs.size := Heap.lt_size e
    rw [PyProof.Rows.sortedHeap_old (Nat.ne_of_lt hb) (by rw [size_push']; exact Nat.lt_succ_of_lt hb)]
    exact Heap.get?_push_of_some _ e
  · rw [← zv_strs hI]
    exact hb.perm.map _
  · rw [List.pairwise_map]
    exact hs.imp fun {x y} h => of_decide_eq_false (p := (zv y).cps.toList < (zv x).cps.toList) h
end
end Hk
namespace Hs
open PySem PySem.Spec PyProof.Rows L2 Hu Evl
open Hk (rSortDZ cr_sortDZ)
def nmU (u : U) : Str := strU (nth u 0)
abbrev srtH (us : List U) : Prop := us.Pairwise fun a b => (nmU a).cps.toList < (nmU b).cps.toList
theorem NV.keys {w C : Addr} {H : Hp} {kvs : List (L2.Key × V)} {us : List U} (h : NV w C H kvs us) : kvs.map (·.1) = (us.map nmU).map Sum.inr := by
  induction h with
  | nil => rfl
  | cons _ _ ih => rw [List.map_cons, List.map_cons, List.map_cons, ih]; rfl
theorem NV.get {w C : Addr} {H : Hp} {kvs : List (L2.Key × V)} {us : List U} (h : NV w C H kvs us) (nd : (us.map nmU).Nodup) {u : U} (hu : u ∈ us) : ∃ z s r v, u = .tup [.str z, s, r] ∧ valV kvs (.inr z) = some v ∧ At w C H v (.tup [s, r]) := by
  induction h with
  | nil => cases hu
  | @cons z s r v kvs us h1 h2 ih =>
    rw [List.map_cons, List.nodup_cons] at nd
    rcases List.mem_cons.mp hu with rfl | hu
    · exact ⟨z, s, r, v, rfl, valV_pos rfl, h1⟩
    · obtain ⟨y, a, b, x, e1, e2, e3⟩ := ih nd.2 hu
      refine ⟨y, a, b, x, e1, ?_, e3⟩
      rw [valV_neg]
      · exact e2
      · intro e
        refine nd.1 ?_
        have : nmU (.tup [.str z, s, r]) = nmU u := by
          rw [e1]
          exact Sum.inr.inj e
        rw [this]
        exact List.mem_map.mpr ⟨u, hu, rfl⟩
/-- names in order tell the heads in order -/
theorem names_tell {us L : List U} {zs : List Str} (nd : (us.map nmU).Nodup) (hp : L.Perm us) (hs : srtH L) (pz : zs.Perm (us.map nmU)) (sz : zs.Pairwise fun x y => ¬ y.cps.toList < x.cps.toList) : zs = L.map nmU := by
  refine List.Perm.eq_of_pairwise (le := fun x y : Str => ¬ y.cps.toList < x.cps.toList) (fun a b _ _ h1 h2 => ?_) sz ?_ (pz.trans (hp.map nmU).symm)
  · rcases Hk.lt_tri a.cps.toList b.cps.toList with q | q | q
    · exact absurd q h2
    · exact Hk.str_ext q
    · exact absurd q h1
  · rw [List.pairwise_map]
    exact hs.imp fun {a b} h q => List.lt_irrefl _ (List.lt_trans h q)
def ltN (x y : U) : Bool := decide ((nmU x).cps.toList < (nmU y).cps.toList)
/-- a row put among rows in order -/
def insH (x : U) : List U → List U
  | [] => [x]
  | y :: r => if nmU x = nmU y then x :: r else if ltN x y = true then x :: y :: r else y :: insH x r
def putH (ps : List U) (x : U) : List U := if (ps.any fun y => decide (nmU y = nmU x)) = true then ps.map fun y => if nmU y = nmU x then x else y else ps ++ [x]
abbrev srtN (ps : List U) : Prop := ps.Pairwise fun x y => ltN x y = true
theorem ltN_ne {x y : U} (h : ltN x y = true) : nmU x ≠ nmU y := fun e => by
  have h := of_decide_eq_true h
  rw [e] at h
  exact List.lt_irrefl _ h
theorem ltN_trans {x y z : U} (h1 : ltN x y = true) (h2 : ltN y z = true) : ltN x z = true := decide_eq_true (List.lt_trans (of_decide_eq_true h1) (of_decide_eq_true h2))
theorem ltN_key {x y z : U} (e : nmU x = nmU y) (h : ltN y z = true) : ltN x z = true := by
  unfold ltN at *
  rw [e]
  exact h
theorem ltN_tri {x y : U} (h : nmU x ≠ nmU y) (h2 : ¬ ltN x y = true) : ltN y x = true := by
  rcases Hk.lt_tri (nmU x).cps.toList (nmU y).cps.toList with q | q | q
  · exact absurd (decide_eq_true q) h2
  · exact absurd (Hk.str_ext q) h
  · exact decide_eq_true q
theorem insH_all {x : U} {p : U → Prop} (hx : p x) : ∀ {ps : List U}, (∀ y ∈ ps, p y) → ∀ y ∈ insH x ps, p y
  | [], _, y, h => by
    rw [show insH x [] = [x] from rfl, List.mem_singleton] at h
    rw [h]; exact hx
  | a :: r, hp, y, h => by
    unfold insH at h
    split at h
    · rcases List.mem_cons.mp h with h | h
      · rw [h]; exact hx
      · exact hp y (List.mem_cons_of_mem _ h)
    · split at h
      · rcases List.mem_cons.mp h with h | h
        · rw [h]; exact hx
        · exact hp y h
      · rcases List.mem_cons.mp h with h | h
        · rw [h]; exact hp a (by simp)
        · exact insH_all hx (fun z hz => hp z (List.mem_cons_of_mem _ hz)) y h
theorem srt_insH {x : U} : ∀ {ps : List U}, srtN ps → srtN (insH x ps)
  | [], _ => List.pairwise_singleton _ _
  | a :: r, h => by
    have h' := List.pairwise_cons.mp h
    unfold insH
    split
    · rename_i e
      exact List.pairwise_cons.mpr ⟨fun y hy => ltN_key e (h'.1 y hy), h'.2⟩
    · split
      · rename_i e l
        refine List.pairwise_cons.mpr ⟨fun y hy => ?_, h⟩
        rcases List.mem_cons.mp hy with rfl | hy
        · exact l
        · exact ltN_trans l (h'.1 y hy)
      · rename_i e l
        exact List.pairwise_cons.mpr ⟨insH_all (ltN_tri e l) h'.1, srt_insH h'.2⟩
theorem srtN_keys {ps : List U} (h : srtN ps) : (ps.map nmU).Nodup := List.Pairwise.map _ (fun _ _ h => ltN_ne h) h
theorem nd_keysH {ps : List U} (h : (ps.map nmU).Nodup) : ps.Nodup := by
  unfold List.Nodup at h ⊢
  rw [List.pairwise_map] at h
  exact h.imp fun {a b} q e => q (by rw [e])
theorem mem_insH {x y : U} : ∀ {ps : List U}, srtN ps → (y ∈ insH x ps ↔ y = x ∨ (y ∈ ps ∧ nmU y ≠ nmU x))
  | [], _ => by simp [insH]
  | a :: r, h => by
    have h' := List.pairwise_cons.mp h
    unfold insH
    split
    · rename_i e
      rw [List.mem_cons, List.mem_cons]
      constructor
      · rintro (q | q)
        · exact .inl q
        · exact .inr ⟨.inr q, fun z => ltN_ne (h'.1 y q) (by rw [z, e])⟩
      · rintro (q | ⟨q | q, n⟩)
        · exact .inl q
        · exact absurd (by rw [q, e]) n
        · exact .inr q
    · rename_i e
      split
      · rename_i l
        rw [List.mem_cons]
        constructor
        · rintro (q | q)
          · exact .inl q
          · refine .inr ⟨q, fun z => ?_⟩
            rcases List.mem_cons.mp q with rfl | q
            · exact e z.symm
            · exact ltN_ne (ltN_trans l (h'.1 y q)) z.symm
        · rintro (q | ⟨q, _⟩)
          · exact .inl q
          · exact .inr q
      · rw [List.mem_cons, mem_insH h'.2, List.mem_cons]
        constructor
        · rintro (q | q | ⟨q, n⟩)
          · exact .inr ⟨.inl q, fun z => e (by rw [← z, q])⟩
          · exact .inl q
          · exact .inr ⟨.inr q, n⟩
        · rintro (q | ⟨q | q, n⟩)
          · exact .inr (.inl q)
          · exact .inl q
          · exact .inr (.inr ⟨q, n⟩)
theorem mem_putH {x y : U} {ps : List U} : y ∈ putH ps x ↔ y = x ∨ (y ∈ ps ∧ nmU y ≠ nmU x) := by
  unfold putH
  split
  · rename_i h
    obtain ⟨a, ha, e⟩ := List.any_eq_true.mp h
    have e := of_decide_eq_true e
    rw [List.mem_map]
    constructor
    · rintro ⟨b, hb, q⟩
      split at q
      · exact .inl q.symm
      · rename_i n
        rw [← q]
        exact .inr ⟨hb, n⟩
    · rintro (q | ⟨q, n⟩)
      · exact ⟨a, ha, by rw [if_pos e, q]⟩
      · exact ⟨y, q, if_neg n⟩
  · rename_i h
    have no : ∀ a ∈ ps, nmU a ≠ nmU x := fun a ha e => h (List.any_eq_true.mpr ⟨a, ha, decide_eq_true e⟩)
    rw [List.mem_append, List.mem_singleton]
    constructor
    · rintro (q | q)
      · exact .inr ⟨q, no y q⟩
      · exact .inl q
    · rintro (q | ⟨q, _⟩)
      · exact .inr q
      · exact .inl q
theorem putH_keys {x : U} {ps : List U} (h : (ps.map nmU).Nodup) : ((putH ps x).map nmU).Nodup := by
  unfold putH
  split
  · rw [List.map_map]
    have : (nmU ∘ fun y => if nmU y = nmU x then x else y) = nmU := by
      funext y
      show nmU (if nmU y = nmU x then x else y) = nmU y
      split
      · rename_i e; exact e.symm
      · rfl
    rw [this]
    exact h
  · rename_i n
    rw [List.map_append, List.nodup_append]
    refine ⟨h, by simp, fun a ha b hb e => ?_⟩
    obtain ⟨y, hy, rfl⟩ := List.mem_map.mp ha
    have hb' : b = nmU x := by simpa using hb
    exact n (List.any_eq_true.mpr ⟨y, hy, decide_eq_true (e.trans hb')⟩)
theorem srtN_H {us : List U} (h : srtN us) : srtH us := h.imp fun {a b} q => of_decide_eq_true q
theorem NV.repl {z : Str} {s r : U} {v : V} (hv : At w C H v (.tup [s, r])) {kvs : List (L2.Key × V)} {us : List U} (h : NV w C H kvs us) :
    NV w C H (kvs.map fun kv => if kv.1 = .inr z then (kv.1, v) else kv) (us.map fun y => if nmU y = nmU (.tup [.str z, s, r]) then .tup [.str z, s, r] else y) := by
  induction h with
  | nil => exact .nil
  | @cons y a b x kvs us h1 h2 ih =>
    rw [List.map_cons, List.map_cons]
    by_cases q : y = z
    · have e1 : nmU (.tup [.str y, a, b]) = nmU (.tup [.str z, s, r]) := q
      rw [if_pos e1, if_pos (congrArg Sum.inr q)]
      have : ((Sum.inr y : L2.Key), v) = (Sum.inr z, v) := by rw [q]
      rw [this]
      exact .cons hv ih
    · have e1 : ¬ nmU (.tup [.str y, a, b]) = nmU (.tup [.str z, s, r]) := q
      rw [if_neg e1, if_neg fun e => q (Sum.inr.inj e)]
      exact .cons h1 ih
theorem NV.put {z : Str} {s r : U} {v : V} (hv : At w C H v (.tup [s, r])) {kvs : List (L2.Key × V)} {us : List U} (h : NV w C H kvs us) : NV w C H (putK kvs (.inr z) v) (putH us (.tup [.str z, s, r])) := by
  have ea : (kvs.any fun kv => decide (kv.1 = .inr z)) = us.any fun y => decide (nmU y = nmU (.tup [.str z, s, r])) := by
    clear hv
    induction h with
    | nil => rfl
    | @cons y a b x kvs us _ _ ih =>
      rw [List.any_cons, List.any_cons, ih]
      congr 1
      exact decide_eq_decide.mpr ⟨fun e => Sum.inr.inj e, fun e => congrArg Sum.inr (show y = z from e)⟩
  unfold putK putH
  rw [ea]
  split
  · exact h.repl hv
  · exact h.append (.cons hv .nil)
/-- in order, whatever the order was -/
theorem in_order : ∀ {us : List U}, (us.map nmU).Nodup → ∃ L, L.Perm us ∧ srtN L
  | [], _ => ⟨[], .nil, .nil⟩
  | x :: r, h => by
    rw [List.map_cons, List.nodup_cons] at h
    obtain ⟨L, p, s⟩ := in_order h.2
    refine ⟨insH x L, ?_, srt_insH s⟩
    refine (List.perm_ext_iff_of_nodup (nd_keysH (srtN_keys (srt_insH s))) (List.nodup_cons.mpr ⟨fun q => h.1 (List.mem_map.mpr ⟨x, q, rfl⟩), nd_keysH h.2⟩)).mpr fun y => ?_
    rw [mem_insH s, List.mem_cons, p.mem_iff]
    constructor
    · rintro (q | ⟨q, _⟩)
      · exact .inl q
      · exact .inr q
    · rintro (q | q)
      · exact .inl q
      · exact .inr ⟨q, fun e => h.1 (by rw [← e]; exact List.mem_map.mpr ⟨y, q, rfl⟩)⟩
end Hs
namespace Hs
open PySem PySem.Spec PyProof.Rows L2 Hu Evl
/-- a drawn value with R -/
def EvW (wl : WA) (C : Addr) (te : TE) (σ : L2.St) (H : Hp) (R : U → Prop) : Prop := ∀ H1, Drawn wl H H1 → ∀ Q : VK, (∀ v u H2, Drawn wl H1 H2 → At wl.w C H2 v u → R u → Q v H2) → te σ H1 Q
/-- a drawn integer -/
def EvI (wl : WA) (te : TE) (σ : L2.St) (H : Hp) (lo hi : Int) : Prop := ∀ H1, Drawn wl H H1 → ∀ Q : VK, (∀ (i : Int) H2, Drawn wl H1 H2 → lo ≤ i → i < hi → Q (.int i) H2) → te σ H1 Q
section
variable {wl : WA} {C : Addr} {σ : L2.St} {H : Hp} {te tl tx : TE} {ta tr : TA} {R R' : U → Prop} {n m m1 m2 d : Nat} {K : PySem.W.Frag} {E : XK} {D : Ends} {tz : TS} {i : Nat} {lo hi : Int} {v : V} {u : U}
theorem EvW.mono (h : EvW wl C te σ H R) (r : ∀ u, R u → R' u) : EvW wl C te σ H R' := fun H1 D1 Q q => h H1 D1 Q fun v u H2 D2 a ru => q v u H2 D2 a (r u ru)
theorem ew_var (h : σ[i]? = some (some v)) (a : At wl.w C H v u) (r : R u) : EvW wl C (tVar i) σ H R := fun H1 D1 Q q => ⟨v, h, q v u H1 (.refl D1.well) (At.drawn D1 a) r⟩
theorem ew_c (a : ∀ H, At wl.w C H v u) (r : R u) : EvW wl C (tC v) σ H R := fun H1 D1 Q q => q v u H1 (.refl D1.well) (a H1) r
theorem ei_var {j : Int} (h : σ[i]? = some (some (.int j))) (h1 : lo ≤ j) (h2 : j < hi) : EvI wl (tVar i) σ H lo hi := fun H1 D1 Q q => ⟨_, h, q j H1 (.refl D1.well) h1 h2⟩
theorem ei_draw {m : Int} (h0 : σ[0]? = some (some (.ref wl.w))) (hm : 0 < m) (hm2 : m < 2 ^ 62) : EvI wl (tCall spDraw [] E (tCons (tVar 0) (tCons (tC (.int m)) tNil))) σ H 0 m := fun H1 D1 Q q => ⟨_, h0, wl, m, rfl, D1.well, hm, hm2, fun e H2 e0 e1 D2 => q e H2 D2 e0 e1⟩
theorem ei_add {k : Int} (h : EvI wl te σ H lo hi) : EvI wl (tOp (rI0 fun i j => .int (i + j)) (tC (.int k)) te) σ H (k + lo) (k + hi) := fun H1 D1 Q q => h H1 D1 _ fun j H2 D2 h1 h2 => ⟨k, j, rfl, rfl, q (k + j) H2 D2 (by omega) (by omega)⟩
/-- x = a drawn value -/
theorem q_asgW (h : EvW wl C te σ H R) (W : Well H wl) (k : ∀ v u H1, Drawn wl H H1 → At wl.w C H1 v u → R u → tz D (σ.set i (some v)) H1) : tSeq (tAsg te (gName i)) tz D σ H := h H (.refl W) _ fun v u H1 D1 a r => k v u H1 D1 a r
theorem q_asgI (h : EvI wl te σ H lo hi) (W : Well H wl) (k : ∀ (j : Int) H1, Drawn wl H H1 → lo ≤ j → j < hi → tz D (σ.set i (some (.int j))) H1) : tSeq (tAsg te (gName i)) tz D σ H := h H (.refl W) _ fun j H1 D1 a b => k j H1 D1 a b
theorem s_retW (h : EvW wl C te σ H R) (W : Well H wl) (k : ∀ v u H1, Drawn wl H H1 → At wl.w C H1 v u → R u → D.rt v H1) : tRet te D σ H := h H (.refl W) _ k
end
end Hs
namespace Hs
open PySem PySem.Spec PyProof.Rows L2 Hu Evl
abbrev lPieceL : Stmt := topS 154
section
variable {wl : WA} {C : Addr} {σ : L2.St} {H : Hp} {te tl tx tz tn : TE} {ta tr : TA} {R R' : U → Prop} {n m1 m2 d : Nat} {K : PySem.W.Frag} {E : XK} {D : Ends} {i : Nat} {lo hi m : Int} {v : V} {u : U}
/-- [integers][a draw] -/
theorem ei_pick {xs : List Int} (h : ∀ G, EvA ta σ G (xs.map V.int)) (h0 : σ[0]? = some (some (.ref wl.w))) (hm : (xs.length : Int) = m) (hz : xs.length ≤ 1000) (h1 : 0 < m) (hb : ∀ t ∈ xs, lo ≤ t ∧ t < hi) : EvI wl (tOp (rIxL K) (tLst ta) (tCall spDraw [] E (tCons (tVar 0) (tCons (tC (.int m)) tNil)))) σ H lo hi := fun H1 D1 Q q => by
  refine (el_lst (h H1) (by rw [List.length_map]; omega)) H1 (Ex.refl _) _ fun l H2 hl e2 h2 => ⟨_, h0, wl, m, rfl, D1.well.same e2, h1, by omega, fun e H3 g0 g1 D3 => ?_⟩
  have nl := (D1.well.ne hl).1
  have hl3 : H3 l = some (.lst (xs.map V.int)) := D3.keep _ _ nl h2
  have he : e.toNat < xs.length := by omega
  have ee : ((e.toNat : Nat) : Int) = e := by omega
  obtain ⟨b1, b2⟩ := hb xs[e.toNat] (List.getElem_mem he)
  refine ⟨l, _, e, .int xs[e.toNat], rfl, rfl, SqL.of hl3, ?_, q _ H3 (((Drawn.refl D1.well).same e2).trans D3) b1 b2⟩
  have hg : (xs.map V.int)[e.toNat]? = some (.int xs[e.toNat]) := by rw [List.getElem?_map, List.getElem?_eq_getElem he]; rfl
  have a := atI_nat hg
  rw [ee] at a
  exact a
/-- a sign -/
def SgR (p : Nat → Bool) (z : Str) : Prop := ∃ c, z = ⟨#[c]⟩ ∧ p c = true
def EvG (wl : WA) (te : TE) (σ : L2.St) (H : Hp) (p : Nat → Bool) : Prop := ∀ H1, Drawn wl H H1 → ∀ Q : VK, (∀ z H2, Drawn wl H1 H2 → SgR p z → Q (.str z) H2) → te σ H1 Q
theorem eg_ix {Z : Str} {p : Nat → Bool} (hz : ∀ G, Ev tz σ G (.str Z)) (h0 : σ[0]? = some (some (.ref wl.w))) (hl : ((TL.tl Z).length : Int) = m) (hl2 : Z.length ≤ 1000) (h1 : 0 < m) (hp : (TL.tl Z).all p = true) : EvG wl (tOp rIxS tz (tCall spDraw [] E (tCons (tVar 0) (tCons (tC (.int m)) tNil)))) σ H p := fun H1 D1 Q q => by
  refine hz H1 H1 (Ex.refl _) _ fun H2 e2 => ⟨_, h0, wl, m, rfl, D1.well.same e2, h1, by rw [TL.len_tl] at hl2; omega, fun e H3 g0 g1 D3 => ?_⟩
  have he : e.toNat < (TL.tl Z).length := by omega
  have ee : ((e.toNat : Nat) : Int) = e := by omega
  refine ⟨Z, e, (TL.tl Z)[e.toNat], rfl, rfl, len_fine (by omega), ?_, q _ H3 (((Drawn.refl D1.well).same e2).trans D3) ⟨_, rfl, List.all_eq_true.mp hp _ (List.getElem_mem he)⟩⟩
  have hg : (TL.tl Z)[e.toNat]? = some (TL.tl Z)[e.toNat] := List.getElem?_eq_getElem he
  have a := atI_nat hg
  rw [ee] at a
  exact a
theorem join_sg {p : Nat → Bool} : ∀ l : List Str, (∀ z ∈ l, SgR p z) → (l.map (·.length)).sum = l.length ∧ ((l.map TL.tl).flatten).length = l.length ∧ ∀ c ∈ (l.map TL.tl).flatten, p c = true := by
  intro l
  induction l with
  | nil => exact fun _ => ⟨rfl, rfl, fun c hc => by cases hc⟩
  | cons a r ih =>
    intro h
    obtain ⟨i1, i2, i3⟩ := ih fun z hz => h z (List.mem_cons_of_mem _ hz)
    obtain ⟨c, ec, oc⟩ := h a List.mem_cons_self
    subst ec
    refine ⟨?_, ?_, ?_⟩
    · rw [List.map_cons, List.sum_cons, i1, List.length_cons]
      show 1 + r.length = r.length + 1
      omega
    · show (TL.tl (⟨#[c]⟩ : Str) ++ (r.map TL.tl).flatten).length = _
      rw [sgn_tl, List.length_append, i2, List.length_cons]
      show 1 + r.length = r.length + 1
      omega
    · intro b hb
      have hb' : b ∈ TL.tl (⟨#[c]⟩ : Str) ++ (r.map TL.tl).flatten := hb
      rcases List.mem_append.mp hb' with hb | hb
      · rw [sgn_tl] at hb
        rw [List.mem_singleton.mp hb]
        exact oc
      · exact i3 b hb
/-- [a sign for k in range(n)] -/
theorem lc_sg {p : Nat → Bool} {j : Nat} {vs : List Nat} {k : Int} (hn : Ev tn σ H (.int k)) (k0 : 0 ≤ k) (k1 : k ≤ 1000) (W : Well H wl) (hw : ∀ x, wipe ((wipe σ vs).set j (some x)) vs = wipe σ vs) (he : ∀ x G, EvG wl te ((wipe σ vs).set j (some x)) G p) (Q : VK)
    (q : ∀ D' (zs : List Str) H', Drawn wl H H' → H' D' = some (.lst (zs.map V.str)) → zs.length = k.toNat → (∀ z ∈ zs, SgR p z) → Q (.ref D') H') : tLc (iRng1 (tCons tn tNil)) (gName j) tYes te vs σ H Q := by
  refine hn H (Ex.refl H) _ fun H1 e1 => ⟨k, rfl, by omega, by omega, fun D' hD => ?_⟩
  have W1 := W.same e1
  refine lc_range (lo := 0) (n := k.toNat) (fun i H' => Drawn wl H1 H' ∧ ∃ zs : List Str, H' D' = some (.lst (zs.map V.str)) ∧ zs.length = i ∧ ∀ z ∈ zs, SgR p z) ⟨(Drawn.refl W1).new hD, [], upd_same, rfl, fun z hz => by cases hz⟩ ?_ ?_
  · rintro i H2 hi ⟨D2, zs, hz, hl, hc⟩
    have nD := (W1.ne hD).1
    refine ⟨hw _, ?_⟩
    refine et_yes _ (Ex.refl _) _ fun H3 e3 => ?_
    rw [if_pos rfl]
    have D3 := D2.same e3
    refine he _ H3 H3 (.refl D3.well) _ fun z H4 D4 sz => ?_
    refine ⟨zs.map V.str, D4.keep D' _ nD (e3 _ _ hz), ?_, (D3.trans D4).put W1 hD, zs ++ [z], ?_, ?_, ?_⟩
    · rw [List.length_map]
      exact sz_lt (by omega)
    · rw [upd_same, List.map_append]
      rfl
    · rw [List.length_append, hl]
      rfl
    · intro y hy
      rcases List.mem_append.mp hy with hy | hy
      · exact hc y hy
      · rw [List.mem_singleton.mp hy]
        exact sz
  · rintro H2 ⟨D2, zs, hz, hl, hc⟩
    exact q D' zs H2 (((Drawn.refl W).same e1).trans D2) hz hl hc
end
section
variable {P : Program} {wd : World} {K : PySem.W.Frag} {mg : Str → Option Value} {base : Heap} {C : Addr} {fD : Addr} {dD : FuncData}
def lettersZ : Str := "abcdefghijklmnopqrstuvwxyz"
def mzZ : Str := "mz"
theorem letters_len : (TL.tl lettersZ).length = 26 := by decide +kernel
theorem letters_ok : (TL.tl lettersZ).all lowc = true := by decide +kernel
theorem scNameH : FnScope ["hat", "size", "k"] ["hat"] (defScope lName) := ⟨rfl, rfl, rfl, by decide +kernel, rfl, by decide +kernel, by decide +kernel⟩
theorem nam_join {zs : List Str} {k : Int} (hl : zs.length = k.toNat) (k1 : 1 ≤ k) (k8 : k ≤ 8) (hc : ∀ z ∈ zs, SgR lowc z) : gNam (.str (Txt.join ("" : Str) zs)) = true := by
  obtain ⟨s1, s2, s3⟩ := join_sg zs hc
  have e1 : (Txt.join ("" : Str) zs).length = k.toNat := by
    rw [TL.len_tl, join_tl, s2, hl]
  have e2 : (TL.tl (Txt.join ("" : Str) zs)).all lowc = true := by
    rw [join_tl]
    exact List.all_eq_true.mpr s3
  show ((decide (1 ≤ (Txt.join ("" : Str) zs).length) && decide ((Txt.join ("" : Str) zs).length ≤ 8)) && (TL.tl (Txt.join ("" : Str) zs)).all lowc) = true
  rw [e1, e2, decide_eq_true (by omega), decide_eq_true (by omega)]
  rfl
theorem join_roomP {p : Nat → Bool} {zs : List Str} (hc : ∀ z ∈ zs, SgR p z) (hz : zs.length ≤ 1000) : (zs.map (·.length)).sum + zs.length * ("" : Str).length ≤ 16777216 := by
  obtain ⟨s1, s2, s3⟩ := join_sg zs hc
  have e0 : ("" : Str).length = 0 := by decide +kernel
  rw [e0]
  omega
theorem ok_nameH {f : Addr} {fd : FuncData} (F : Fun K "_law_name" "_law_name" lName f fd) (B : Bt mg) (D : Dd P wd K mg base fD dD) : FnOk P wd K mg base CX0 2 f fd ["hat"] spName := by
  refine F.ok scNameH (fun vs H Q E h => ?_) (fun cdv A outer s H vs Q E hr h => ?_)
  · obtain ⟨wl, rfl, _⟩ := h
    rfl
  obtain ⟨wl, rfl, W, k⟩ := h
  refine ⟨_, pss_cons (ps_set (i := 1) scNameH.nd rfl (.inl rfl) (pe_ix (show IxR _ (rIxL K) from ix_list) (pe_lst (pa_cons pe_int (pa_cons pe_int (pa_cons pe_int (pa_cons pe_int (pa_cons pe_int (pa_cons pe_int (pa_cons pe_int (pa_cons pe_int pa_nil))))))))) (pe_draw D hr (by decide) (by rfl) (pv 0) pe_int) (fun _ _ => rfl)))
    (pss_cons (ps_if (pt_cmpR op_eq (pe_draw D hr (by decide) (by rfl) (pv 0) pe_int) pe_int (nomark _)) (pss_one (ps_ret (pe_join pe_str (pe_lc (own := [("k", 2)]) (g := gName 2) (tt := tYes) rfl scNameH.nd (pi_range1 (by rfl) B.range (pa_cons (pv 1) pa_nil)) (blkOk_by (N := ["hat", "size", "k"]) (sc := defScope lName) (by decide +kernel))
        (fun _ _ _ _ _ => pg_name (i := 2) scNameH.nd rfl (Or.inl rfl)) (fun _ _ _ _ _ => pts_nil) (fun _ _ _ _ _ => pe_ix ix_str pe_str (pe_draw D hr (by decide) (by rfl) (pv 0) pe_int) (fun _ _ => rfl)))))) pss_nil)
    (pss_one (ps_ret (pe_join pe_str (pe_lc (own := [("k", 2)]) (g := gName 2) (tt := tYes) rfl scNameH.nd (pi_range1 (by rfl) B.range (pa_cons (pv 1) pa_nil)) (blkOk_by (N := ["hat", "size", "k"]) (sc := defScope lName) (by decide +kernel))
        (fun _ _ _ _ _ => pg_name (i := 2) scNameH.nd rfl (Or.inl rfl)) (fun _ _ _ _ _ => pts_nil) (fun _ _ _ _ _ => pe_ix ix_str pe_str (pe_draw D hr (by decide) (by rfl) (pv 0) pe_int) (fun _ _ => rfl))))))), ?_⟩
  refine q_asgI (wl := wl) (ei_pick (xs := [1, 1, 1, 1, 2, 3, 5, 8]) (lo := 1) (hi := 9) (fun G => ea_cons ev_c (ea_cons ev_c (ea_cons ev_c (ea_cons ev_c (ea_cons ev_c (ea_cons ev_c (ea_cons ev_c (ea_cons ev_c ea_nil)))))))) rfl rfl (by decide) (by decide) (by decide)) W fun k1 H1 D1 b1 b2 => ?_
  show tSeq _ _ _ [some (V.ref wl.w), some (.int k1), none] H1
  refine ⟨_, rfl, wl, 3, rfl, D1.well, by decide, by decide, fun d2 H2 e0 e1 D2 => ⟨rfl, _, rfl, ?_⟩⟩
  have D12 := D1.trans D2
  refine ite2 (fun q => ?_) (fun q => ?_)
  · refine ⟨⟨_, rfl⟩, lc_sg (wl := wl) (p := lowc) (ev_var rfl) (by omega) (by omega) D12.well (fun _ => rfl) (fun x G => eg_ix (Z := lettersZ) (fun G => ev_c) rfl (by rw [letters_len]; rfl) (by decide +kernel) (by decide) letters_ok) _ fun D' zs H3 D3 hz hl hc => ?_⟩
    exact ⟨_, D', zs, rfl, rfl, .inl (SqL.of hz), join_roomP hc (by omega), k _ H3 (nam_join hl (by omega) (by omega) hc) (D12.trans D3)⟩
  · refine ⟨⟨_, rfl⟩, lc_sg (wl := wl) (p := lowc) (ev_var rfl) (by omega) (by omega) D12.well (fun _ => rfl) (fun x G => eg_ix (Z := mzZ) (fun G => ev_c) rfl (by decide +kernel) (by decide +kernel) (by decide) (by decide +kernel)) _ fun D' zs H3 D3 hz hl hc => ?_⟩
    exact ⟨_, D', zs, rfl, rfl, .inl (SqL.of hz), join_roomP hc (by omega), k _ H3 (nam_join hl (by omega) (by omega) hc) (D12.trans D3)⟩
end
end Hs
namespace Hs
open PySem PySem.Spec PyProof.Rows L2 Hu Evl
/-- a maker of one drawn value -/
def spMk (C : Addr) (R : U → Prop) : Sp := fun vs H Q _ => ∃ wl : WA, vs = [.ref wl.w] ∧ Well H wl ∧ ∀ (v : V) (u : U) (H' : Hp), Drawn wl H H' → At wl.w C H' v u → R u → Q v H'
theorem lenMk {C : Addr} {R : U → Prop} {a : Str} : ∀ vs H Q E, spMk C R vs H Q E → vs.length = [a].length := fun vs H Q E h => by
  obtain ⟨wl, rfl, _⟩ := h
  rfl
/-- drawn values with a property of all -/
def EvWR (wl : WA) (C : Addr) (ta : TA) (σ : L2.St) (H : Hp) (RL : List U → Prop) : Prop := ∀ H1, Drawn wl H H1 → ∀ Q : List V → Hp → Prop, (∀ vs us H2, Drawn wl H1 H2 → AtL wl.w C H2 vs us → RL us → Q vs H2) → ta σ H1 Q
section
variable {wl : WA} {C : Addr} {σ : L2.St} {H : Hp} {te t2 tl tx tz tn : TE} {ta tr : TA} {R R' : U → Prop} {RL : List U → Prop} {n m1 m2 d : Nat} {K : PySem.W.Frag} {E : XK} {D : Ends} {ts : TS} {i : Nat} {lo hi lo2 hi2 m j : Int} {v : V} {u : U}
theorem ewr_nil : EvWR wl C tNil σ H (fun us => us = []) := fun H1 D1 Q q => q [] [] H1 (.refl D1.well) .nil rfl
theorem ewr_cons (h : EvW wl C te σ H R) (hr : EvWR wl C tr σ H RL) : EvWR wl C (tCons te tr) σ H (fun us => ∃ u r, us = u :: r ∧ R u ∧ RL r) := fun H1 D1 Q q =>
  h H1 D1 _ fun v u H2 D2 a ru => hr H2 (D1.trans D2) _ fun vs us H3 D3 l rl => q (v :: vs) (u :: us) H3 (D2.trans D3) (.cons (At.drawn D3 a) l) ⟨u, us, rfl, ru, rl⟩
theorem ewr_tup (h : EvWR wl C ta σ H RL) (hn : ∀ us, RL us → us.length ≤ 100000) : EvW wl C (tTupF ta) σ H (fun u => ∃ us, u = .tup us ∧ RL us) := fun H1 D1 Q q =>
  h H1 D1 _ fun vs us H2 D2 l rl => ⟨sz_of (by rw [AtL.length l]; exact hn _ rl), newT_data D2.well.at l fun v H3 e3 a => q v (.tup us) H3 (D2.same e3) a ⟨us, rfl, rl⟩⟩
theorem ei_of (h : ∀ G, Ev te σ G (.int j)) (h1 : lo ≤ j) (h2 : j < hi) : EvI wl te σ H lo hi := fun H1 D1 Q q => h H1 H1 (Ex.refl _) _ fun H2 e2 => q j H2 ((Drawn.refl D1.well).same e2) h1 h2
theorem ei_drawI (h : EvI wl te σ H lo hi) (h0 : σ[0]? = some (some (.ref wl.w))) (l0 : 0 < lo) (hh : hi ≤ 2 ^ 62) : EvI wl (tCall spDraw [] E (tCons (tVar 0) (tCons te tNil))) σ H 0 (hi - 1) := fun H1 D1 Q q =>
  ⟨_, h0, h H1 D1 _ fun m H2 D2 b1 b2 => ⟨wl, m, rfl, D2.well, by omega, by omega, fun e H3 e0 e1 D3 => q e H3 (D2.trans D3) e0 (by omega)⟩⟩
theorem ei_addI (h : EvI wl te σ H lo hi) (k : EvI wl t2 σ H lo2 hi2) : EvI wl (tOp (rI0 fun i j => .int (i + j)) te t2) σ H (lo + lo2) (hi + hi2 - 1) := fun H1 D1 Q q => h H1 D1 _ fun i H2 D2 h1 h2 => k H2 (D1.trans D2) _ fun j H3 D3 h3 h4 => ⟨i, j, rfl, rfl, q (i + j) H3 (D2.trans D3) (by omega) (by omega)⟩
theorem ei_subI (h : EvI wl te σ H lo hi) (k : EvI wl t2 σ H lo2 hi2) : EvI wl (tOp (rI0 fun i j => .int (i - j)) te t2) σ H (lo - hi2 + 1) (hi - lo2) := fun H1 D1 Q q => h H1 D1 _ fun i H2 D2 h1 h2 => k H2 (D1.trans D2) _ fun j H3 D3 h3 h4 => ⟨i, j, rfl, rfl, q (i - j) H3 (D2.trans D3) (by omega) (by omega)⟩
theorem ew_intR (h : EvI wl te σ H lo hi) : EvW wl C te σ H (fun u => ∃ i : Int, u = .int i ∧ lo ≤ i ∧ i < hi) := fun H1 D1 Q q => h H1 D1 _ fun i H2 D2 b1 b2 => q (.int i) (.int i) H2 D2 (.int i) ⟨i, rfl, b1, b2⟩
/-- a maker called -/
theorem ew_mk (h0 : σ[0]? = some (some (.ref wl.w))) : EvW wl C (tCall (spMk C R) [] E (tCons (tVar 0) tNil)) σ H R := fun H1 D1 Q q => ⟨_, h0, wl, rfl, D1.well, fun v u H2 D2 a r => q v u H2 D2 a r⟩
/-- [constants][a draw], with constants whose worth is reckoned -/
theorem ei_pickE {xs : List Int} (h : ∀ G, EvA ta σ G (xs.map V.int)) (he : EvI wl te σ H 0 (xs.length : Int)) (hz : xs.length ≤ 1000) (hb : ∀ t ∈ xs, lo ≤ t ∧ t < hi) : EvI wl (tOp (rIxL K) (tLst ta) te) σ H lo hi := fun H1 D1 Q q => by
  refine (el_lst (h H1) (by rw [List.length_map]; omega)) H1 (Ex.refl _) _ fun l H2 hl e2 h2 => he H2 (D1.same e2) _ fun e H3 D3 g0 g1 => ?_
  have D2 := D1.same e2
  have nl := (D1.well.ne hl).1
  have hl3 : H3 l = some (.lst (xs.map V.int)) := D3.keep _ _ nl h2
  have he : e.toNat < xs.length := by omega
  have ee : ((e.toNat : Nat) : Int) = e := by omega
  obtain ⟨b1, b2⟩ := hb xs[e.toNat] (List.getElem_mem he)
  refine ⟨l, _, e, .int xs[e.toNat], rfl, rfl, SqL.of hl3, ?_, q _ H3 (((Drawn.refl D1.well).same e2).trans D3) b1 b2⟩
  have hg : (xs.map V.int)[e.toNat]? = some (.int xs[e.toNat]) := by rw [List.getElem?_map, List.getElem?_eq_getElem he]; rfl
  have a := atI_nat hg
  rw [ee] at a
  exact a
theorem ec_pow {a b : Int} (hc : CPow a b) : ∀ G, Ev (tOp (rI CPow fun i j => .int (i ^ j.toNat)) (tC (.int a)) (tC (.int b))) σ G (.int (a ^ b.toNat)) := fun G => ev_op ev_c ev_c (rv_powN hc)
/-- if a drawn number is so -/
theorem q_ifI {r : R2} {a : TS} (hr : ∀ (i : Int) H Q, (∀ b, Q (.bl b) H) → r (.int i) (.int m) H Q) (h : EvI wl te σ H lo hi) (W : Well H wl) (k : ∀ H1, Drawn wl H H1 → a { D with nx := ts D } σ H1) (k' : ∀ H1, Drawn wl H H1 → ts D σ H1) : tSeq (tIfS (tTest (tOp r te (tC (.int m)))) a tNext) ts D σ H :=
  h H (.refl W) _ fun i H1 D1 _ _ => hr i H1 _ fun b => ⟨b, rfl, ite2 (fun _ => k H1 D1) (fun _ => k' H1 D1)⟩
end
end Hs
namespace Hs
open PySem PySem.Spec PyProof.Rows L2 Hu Evl
def IdU (u : U) : Prop := ∃ i j : Int, u = .tup [.int i, .int j] ∧ 1 ≤ i ∧ i ≤ 99 ∧ 1 ≤ j ∧ j ≤ 10 ^ 11
def StU (u : U) : Prop := ∃ i j : Int, u = .tup [.int i, .int j] ∧ ((i = 0 ∧ j = 0) ∨ (1 ≤ i ∧ i ≤ 10 ^ 11 ∧ 1 ≤ j ∧ j ≤ 99))
def PcU (u : U) : Prop := ∃ z, u = .str z ∧ gPiece (.str z) = true ∧ (TL.tl z).all okS = true
def MmU (u : U) : Prop := gMembers u = true ∧ Bd u 800 1 0
section
variable {P : Program} {wd : World} {K : PySem.W.Frag} {mg : Str → Option Value} {base : Heap} {C : Addr} {fD : Addr} {dD : FuncData}
theorem scIdH : FnScope ["hat"] ["hat"] (defScope lId) := ⟨rfl, rfl, rfl, by decide +kernel, rfl, by decide +kernel, by decide +kernel⟩
theorem ok_idH {f : Addr} {fd : FuncData} (F : Fun K "_law_id" "_law_id" lId f fd) (D : Dd P wd K mg base fD dD) : FnOk P wd K mg base CX0 2 f fd ["hat"] (spMk C IdU) := by
  refine F.ok scIdH lenMk (fun cdv A outer s H vs Q E hr h => ?_)
  obtain ⟨wl, rfl, W, k⟩ := h
  refine ⟨_, pss_cons (ps_if (pt_cmpR op_eq (pe_draw D hr (by decide) (by rfl) (pv 0) pe_int) pe_int (nomark _)) (pss_one (ps_ret (pe_tupF (pa_cons (pe_op op_add pe_int (pe_draw D hr (by decide) (by rfl) (pv 0) pe_int)) (pa_cons (pe_op op_add pe_int (pe_draw D hr (by decide) (by rfl) (pv 0) (pe_op op_pow pe_int pe_int))) pa_nil))))) pss_nil)
    (pss_one (ps_ret (pe_tupF (pa_cons (pe_op op_add pe_int (pe_draw D hr (by decide) (by rfl) (pv 0) pe_int)) (pa_cons (pe_op op_add pe_int (pe_draw D hr (by decide) (by rfl) (pv 0) pe_int)) pa_nil))))), ?_⟩
  have len : ∀ {A B : U → Prop} us, (∃ u r, us = u :: r ∧ A u ∧ ∃ u' r', r = u' :: r' ∧ B u' ∧ r' = []) → us.length ≤ 100000 := fun us h => by
    obtain ⟨u, r, rfl, _, u', r', rfl, _, rfl⟩ := h
    show (2 : Nat) ≤ 100000
    decide
  refine q_ifI (fun i H Q q => ⟨rfl, q _⟩) (ei_draw rfl (by decide) (by decide)) W (fun H1 D1 => ?_) (fun H1 D1 => ?_)
  · refine s_retW (ewr_tup (ewr_cons (ew_intR (ei_add (ei_draw rfl (by decide) (by decide)))) (ewr_cons (ew_intR (ei_add (ei_drawI (ei_of (lo := 10 ^ 11) (hi := 10 ^ 11 + 1) (ec_pow ⟨by decide, by decide, by decide⟩) (by decide) (by decide)) rfl (by decide) (by decide)))) ewr_nil)) len) D1.well fun v u H2 D2 a r => k v u H2 (D1.trans D2) a ?_
    obtain ⟨us, rfl, _, r, rfl, ⟨i, rfl, i1, i2⟩, _, _, rfl, ⟨j, rfl, j1, j2⟩, rfl⟩ := r
    exact ⟨i, j, rfl, by omega, by omega, by omega, by omega⟩
  · refine s_retW (ewr_tup (ewr_cons (ew_intR (ei_add (ei_draw rfl (by decide) (by decide)))) (ewr_cons (ew_intR (ei_add (ei_draw rfl (by decide) (by decide)))) ewr_nil)) len) D1.well fun v u H2 D2 a r => k v u H2 (D1.trans D2) a ?_
    obtain ⟨us, rfl, _, r, rfl, ⟨i, rfl, i1, i2⟩, _, _, rfl, ⟨j, rfl, j1, j2⟩, rfl⟩ := r
    exact ⟨i, j, rfl, by omega, by omega, by omega, by omega⟩
theorem scStH : FnScope ["hat", "kind"] ["hat"] (defScope lStamp) := ⟨rfl, rfl, rfl, by decide +kernel, rfl, by decide +kernel, by decide +kernel⟩
theorem ok_stampH {f : Addr} {fd : FuncData} (F : Fun K "_law_stamp" "_law_stamp" lStamp f fd) (D : Dd P wd K mg base fD dD) : FnOk P wd K mg base CX0 2 f fd ["hat"] (spMk C StU) := by
  refine F.ok scStH lenMk (fun cdv A outer s H vs Q E hr h => ?_)
  obtain ⟨wl, rfl, W, k⟩ := h
  refine ⟨_, pss_cons (ps_set (i := 1) scStH.nd rfl (.inl rfl) (pe_draw D hr (by decide) (by rfl) (pv 0) pe_int))
    (pss_cons (ps_if (pt_cmpR op_eq (pv 1) pe_int (nomark _)) (pss_one (ps_ret (pe_tupF (pa_cons pe_int (pa_cons pe_int pa_nil))))) pss_nil)
    (pss_cons (ps_if (pt_cmpR op_eq (pv 1) pe_int (nomark _)) (pss_one (ps_ret (pe_tupF (pa_cons (pe_op op_add pe_int (pe_draw D hr (by decide) (by rfl) (pv 0) (pe_op op_pow pe_int pe_int))) (pa_cons (pe_op op_add pe_int (pe_draw D hr (by decide) (by rfl) (pv 0) pe_int)) pa_nil))))) pss_nil)
    (pss_one (ps_ret (pe_tupF (pa_cons (pe_op op_add pe_int (pe_draw D hr (by decide) (by rfl) (pv 0) pe_int)) (pa_cons (pe_op op_add pe_int (pe_draw D hr (by decide) (by rfl) (pv 0) pe_int)) pa_nil))))))), ?_⟩
  have len : ∀ {A B : U → Prop} us, (∃ u r, us = u :: r ∧ A u ∧ ∃ u' r', r = u' :: r' ∧ B u' ∧ r' = []) → us.length ≤ 100000 := fun us h => by
    obtain ⟨u, r, rfl, _, u', r', rfl, _, rfl⟩ := h
    show (2 : Nat) ≤ 100000
    decide
  refine q_asgI (i := 1) (ei_draw rfl (by decide) (by decide)) W fun m H1 D1 m0 m1 => ?_
  show tSeq _ _ _ [some (V.ref wl.w), some (V.int m)] H1
  refine q_ifI (wl := wl) (lo := m) (hi := m + 1) (fun i H Q q => ⟨rfl, q _⟩) (ei_var rfl (by omega) (by omega)) D1.well (fun H2 D2 => ?_) (fun H2 D2 => ?_)
  · refine s_retW (ewr_tup (wl := wl) (ewr_cons (ew_intR (ei_of (lo := 0) (hi := 1) (fun G => ev_c) (by decide) (by decide))) (ewr_cons (ew_intR (ei_of (lo := 0) (hi := 1) (fun G => ev_c) (by decide) (by decide))) ewr_nil)) len) D2.well fun v u H3 D3 a r => k v u H3 ((D1.trans D2).trans D3) a ?_
    obtain ⟨us, rfl, _, r, rfl, ⟨i, rfl, i1, i2⟩, _, _, rfl, ⟨j, rfl, j1, j2⟩, rfl⟩ := r
    exact ⟨i, j, rfl, .inl ⟨by omega, by omega⟩⟩
  refine q_ifI (wl := wl) (lo := m) (hi := m + 1) (fun i H Q q => ⟨rfl, q _⟩) (ei_var rfl (by omega) (by omega)) D2.well (fun H3 D3 => ?_) (fun H3 D3 => ?_)
  · have DD := (D1.trans D2).trans D3
    refine s_retW (ewr_tup (ewr_cons (ew_intR (ei_add (ei_drawI (ei_of (lo := 10 ^ 11) (hi := 10 ^ 11 + 1) (ec_pow ⟨by decide, by decide, by decide⟩) (by decide) (by decide)) rfl (by decide) (by decide)))) (ewr_cons (ew_intR (ei_add (ei_draw rfl (by decide) (by decide)))) ewr_nil)) len) D3.well fun v u H4 D4 a r => k v u H4 (DD.trans D4) a ?_
    obtain ⟨us, rfl, _, r, rfl, ⟨i, rfl, i1, i2⟩, _, _, rfl, ⟨j, rfl, j1, j2⟩, rfl⟩ := r
    exact ⟨i, j, rfl, .inr ⟨by omega, by omega, by omega, by omega⟩⟩
  · have DD := (D1.trans D2).trans D3
    refine s_retW (ewr_tup (ewr_cons (ew_intR (ei_add (ei_draw rfl (by decide) (by decide)))) (ewr_cons (ew_intR (ei_add (ei_draw rfl (by decide) (by decide)))) ewr_nil)) len) D3.well fun v u H4 D4 a r => k v u H4 (DD.trans D4) a ?_
    obtain ⟨us, rfl, _, r, rfl, ⟨i, rfl, i1, i2⟩, _, _, rfl, ⟨j, rfl, j1, j2⟩, rfl⟩ := r
    exact ⟨i, j, rfl, .inr ⟨by omega, by omega, by omega, by omega⟩⟩
def sgA : Str := " !\"#$&'()*+,-./0123456789:;<=>?@ABCDEFGHIJKLMNOPQRSTUVWXYZ[\\]^_`"
def sgB : Str := "abcdefghijklmnopqrstuvwxyz{|}~"
theorem sg_len : (TL.tl (sgA ++ sgB)).length = 94 := by decide +kernel
theorem sg_lens : sgA.length + sgB.length ≤ 1000 := by decide +kernel
theorem sg_len' : (sgA ++ sgB).length ≤ 1000 := by decide +kernel
theorem sg_ok : (TL.tl (sgA ++ sgB)).all okS = true := by decide +kernel
theorem piece_join {zs : List Str} {k : Int} (hl : zs.length = k.toNat) (k1 : 1 ≤ k) (k8 : k ≤ 8) (hc : ∀ z ∈ zs, SgR okS z) : gPiece (.str (Txt.join ("" : Str) zs)) = true ∧ (TL.tl (Txt.join ("" : Str) zs)).all okS = true := by
  obtain ⟨s1, s2, s3⟩ := join_sg zs hc
  have e1 : (Txt.join ("" : Str) zs).length = k.toNat := by
    rw [TL.len_tl, join_tl, s2, hl]
  have e2 : (TL.tl (Txt.join ("" : Str) zs)).all okS = true := by
    rw [join_tl]
    exact List.all_eq_true.mpr s3
  have e3 : (TL.tl (Txt.join ("" : Str) zs)).all okc = true := List.all_eq_true.mpr fun c hc => (and2 (List.all_eq_true.mp e2 c hc)).1
  refine ⟨?_, e2⟩
  show ((TL.tl (Txt.join ("" : Str) zs)).all okc && (decide (1 ≤ (Txt.join ("" : Str) zs).length) && decide ((Txt.join ("" : Str) zs).length ≤ 8))) = true
  rw [e1, e3, decide_eq_true (by omega), decide_eq_true (by omega)]
  rfl
theorem scPcH : FnScope ["hat", "signs", "size", "k"] ["hat"] (defScope lPieceL) := ⟨rfl, rfl, rfl, by decide +kernel, rfl, by decide +kernel, by decide +kernel⟩
theorem ok_pieceH {f : Addr} {fd : FuncData} (F : Fun K "_law_piece" "_law_piece" lPieceL f fd) (B : Bt mg) (D : Dd P wd K mg base fD dD) : FnOk P wd K mg base CX0 2 f fd ["hat"] (spMk C PcU) := by
  refine F.ok scPcH lenMk (fun cdv A outer s H vs Q E hr h => ?_)
  obtain ⟨wl, rfl, W, k⟩ := h
  refine ⟨_, pss_cons (ps_set (i := 1) scPcH.nd rfl (.inr rfl) pe_str)
    (pss_cons (ps_set (i := 1) scPcH.nd rfl (.inr rfl) (pe_op op_add_str (pv 1) pe_str))
    (pss_cons (ps_set (i := 2) scPcH.nd rfl (.inl rfl) (pe_ix (show IxR _ (rIxL K) from ix_list) (pe_lst (pa_cons pe_int (pa_cons pe_int (pa_cons pe_int (pa_cons pe_int (pa_cons pe_int (pa_cons pe_int pa_nil))))))) (pe_draw D hr (by decide) (by rfl) (pv 0) pe_int) (fun _ _ => rfl)))
    (pss_one (ps_ret (pe_join pe_str (pe_lc (own := [("k", 3)]) (g := gName 3) (tt := tYes) rfl scPcH.nd (pi_range1 (by rfl) B.range (pa_cons (pv 2) pa_nil)) (blkOk_by (N := ["hat", "signs", "size", "k"]) (sc := defScope lPieceL) (by decide +kernel))
        (fun _ _ _ _ _ => pg_name (i := 3) scPcH.nd rfl (Or.inl rfl)) (fun _ _ _ _ _ => pts_nil) (fun _ _ _ _ _ => pe_ix ix_str (pv 1) (pe_draw D hr (by decide) (by rfl) (pv 0) pe_int) (fun _ _ => rfl)))))))), ?_⟩
  refine q_asg (v := .str sgA) ev_c fun H1 e1 => q_asg (v := .str (sgA ++ sgB)) (ev_op (ev_var rfl) ev_c fun G1 e Q q => ⟨sgA, sgB, rfl, rfl, Nat.le_trans sg_lens (by decide), q G1 (Ex.refl G1)⟩) fun H2 e2 => ?_
  have D2 := ((Drawn.refl W).same e1).same e2
  refine q_asgI (wl := wl) (ei_pick (xs := [1, 1, 1, 2, 3, 8]) (lo := 1) (hi := 9) (fun G => ea_cons ev_c (ea_cons ev_c (ea_cons ev_c (ea_cons ev_c (ea_cons ev_c (ea_cons ev_c ea_nil)))))) rfl rfl (by decide) (by decide) (by decide)) D2.well fun k1 H3 D3 b1 b2 => ?_
  have D23 := D2.trans D3
  refine ⟨⟨_, rfl⟩, lc_sg (wl := wl) (p := okS) (ev_var rfl) (by omega) (by omega) D23.well (fun _ => rfl) (fun x G => eg_ix (Z := sgA ++ sgB) (fun G => ev_var rfl) rfl (by rw [sg_len]; rfl) sg_len' (by decide) sg_ok) _ fun D' zs H4 D4 hz hl hc => ?_⟩
  exact ⟨_, D', zs, rfl, rfl, .inl (SqL.of hz), join_roomP hc (by omega), k _ _ H4 (D23.trans D4) (.str _) ⟨_, rfl, piece_join hl (by omega) (by omega) hc⟩⟩
theorem scMemH : FnScope ["hat", "mask", "k"] ["hat"] (defScope lMembers) := ⟨rfl, rfl, rfl, by decide +kernel, rfl, by decide +kernel, by decide +kernel⟩
theorem ok_memH {f : Addr} {fd : FuncData} (F : Fun K "_law_members" "_law_members" lMembers f fd) (B : Bt mg) (D : Dd P wd K mg base fD dD) : FnOk P wd K mg base CX0 2 f fd ["hat"] (spMk C MmU) := by
  refine F.ok scMemH lenMk (fun cdv A outer s H vs Q E hr h => ?_)
  obtain ⟨wl, rfl, W, k⟩ := h
  refine ⟨_, pss_cons (ps_set (i := 1) scMemH.nd rfl (.inr rfl) (pe_op op_add pe_int (pe_draw D hr (by decide) (by rfl) (pv 0) pe_int)))
    (pss_one (ps_ret (pe_callTy call_tuple_of (by rfl) B.tup boot_tuple' (pa_cons (pe_lc (own := [("k", 2)]) (g := gName 2) rfl scMemH.nd (pi_range1 (by rfl) B.range (pa_cons pe_int pa_nil)) (blkOk_by (N := ["hat", "mask", "k"]) (sc := defScope lMembers) (by decide +kernel))
      (fun _ _ _ _ _ => pg_name (i := 2) scMemH.nd rfl (Or.inl rfl)) (fun _ _ _ _ _ => pts_one (pt_cmpR op_eq (pe_op op_modN (pe_op op_shr (pv 1) (pv 2)) pe_int) pe_int (nomark _)))
      (fun _ _ _ _ _ => pv 2)) pa_nil)))), ?_⟩
  refine q_asgI (lo := 1 + 0) (hi := 1 + 511) (ei_add (ei_draw rfl (by decide) (by decide))) W fun m H1 D1 m0 m1 => ?_
  obtain ⟨d, rfl, d0, d1⟩ : ∃ d, m = 1 + d ∧ 0 ≤ d ∧ d < 511 := ⟨m - 1, by omega, by omega, by omega⟩
  have L := el_lcR1 (σ := [some (V.ref wl.w), some (.int (1 + d)), none]) (H := H1) (j := 2) (vs := [2]) (n := 9) (t := tTest (tOp rEq (tOp (rI (fun _ j => j ≠ 0) fun i j => .int (i.fmod j)) (tOp (rI (fun _ j => 0 ≤ j) fun i j => .int (i / 2 ^ j.toNat)) (tVar 1) (tVar 2)) (tC (.int 2))) (tC (.int 1)))) (te := tVar 2)
    (fun i => decide (V.int (((1 + d) / (2 ^ i : Int)).fmod 2) = V.int 1)) (fun i => .int (i : Int)) (ea_cons ev_c ea_nil) (by decide) (fun _ => rfl) (fun i H2 e2 hi => ?_) (fun i H2 e2 hi _ => ev_var rfl)
  · dsimp only [gName]
    exact s_retTL (K := K) L fun p H2 hp e2 h2 => by
      have D2 := D1.same e2
      exact k _ (memU _) _ D2 (mem_at (bits_some d d0 d1) D2.well h2) ⟨memU_ok (bits_some d d0 d1), memU_bd _⟩
  · exact et_test (ev_op (ev_op (ev_op (ev_var rfl) (ev_var rfl) (rv_I (by omega))) ev_c (rv_I (show (2 : Int) ≠ 0 by decide))) ev_c (rv_eq rfl))
end
end Hs
namespace Hs
open PySem PySem.Spec PyProof.Rows L2 Hu Evl
/-- a maker of one drawn value out of given ones -/
def spMkA (C : Addr) (Pre : List U → Prop) (R : List U → U → Prop) : Sp := fun vs H Q _ => ∃ (wl : WA) (xs : List V) (us : List U), vs = .ref wl.w :: xs ∧ Well H wl ∧ AtL wl.w C H xs us ∧ Pre us ∧ ∀ (v : V) (u : U) (H' : Hp), Drawn wl H H' → At wl.w C H' v u → R us u → Q v H'
theorem lenMkA {C : Addr} {Pre : List U → Prop} {R : List U → U → Prop} {ns : List Str} {n : Nat} (hp : ∀ us, Pre us → us.length = n) (hn : ns.length = n + 1) : ∀ vs H Q E, spMkA C Pre R vs H Q E → vs.length = ns.length := fun vs H Q E h => by
  obtain ⟨wl, xs, us, rfl, _, l, p, _⟩ := h
  rw [List.length_cons, AtL.length l, hp _ p, hn]
theorem at_lst {w C : Addr} {H : Hp} {v : V} {us : List U} (h : At w C H v (.lst us)) : ∃ a xs, v = .ref a ∧ H a = some (.lst xs) ∧ a ≠ w ∧ AtL w C H xs us := by
  cases h with
  | lst h1 h2 h3 => exact ⟨_, _, rfl, h1, h2, h3⟩
section
variable {wl : WA} {C : Addr} {σ : L2.St} {H : Hp} {te t2 tl tx tz tn : TE} {ta tr : TA} {R R' : U → Prop} {RL : List U → Prop} {n m1 m2 d : Nat} {K : PySem.W.Frag} {E : XK} {D : Ends} {ts : TS} {i j : Nat} {lo hi lo2 hi2 m : Int} {v : V} {u : U} {us : List U} {vs : List Nat}
theorem ei_len (h : σ[i]? = some (some v)) (a : At wl.w C H v (.lst us)) : EvI wl (tCB (rLenQ K) (tCons (tVar i) tNil)) σ H us.length (us.length + 1) := fun H1 D1 Q q => by
  obtain ⟨p, xs, rfl, hp, np, l⟩ := at_lst (At.drawn D1 a)
  exact ⟨_, h, p, xs, rfl, .inl (SqL.of hp), by rw [AtL.length l]; exact q _ H1 (.refl D1.well) (by omega) (by omega)⟩
theorem ew_ixL (h : σ[i]? = some (some v)) (a : At wl.w C H v (.lst us)) (he : EvI wl te σ H 0 us.length) (hr : ∀ u ∈ us, R u) : EvW wl C (tOp (rIxL K) (tVar i) te) σ H R := fun H1 D1 Q q => by
  refine ⟨_, h, he H1 D1 _ fun e H2 D2 e0 e1 => ?_⟩
  obtain ⟨p, xs, rfl, hp, np, l⟩ := at_lst (At.drawn (D1.trans D2) a)
  have he : e.toNat < us.length := by omega
  have ee : ((e.toNat : Nat) : Int) = e := by omega
  obtain ⟨x, hx, ax⟩ := AtL.get l (List.getElem?_eq_getElem he)
  have aa := atI_nat hx
  rw [ee] at aa
  exact ⟨p, xs, e, x, rfl, rfl, SqL.of hp, aa, q x _ H2 D2 ax (hr _ (List.getElem_mem he))⟩
theorem EvI.mono {lo' hi' : Int} (h : EvI wl te σ H lo hi) (h1 : lo' ≤ lo) (h2 : hi ≤ hi') : EvI wl te σ H lo' hi' := fun H1 D1 Q q => h H1 D1 Q fun i H2 D2 b1 b2 => q i H2 D2 (by omega) (by omega)
theorem ei_drawLen (h : σ[i]? = some (some v)) (a : At wl.w C H v (.lst us)) (h0 : σ[0]? = some (some (.ref wl.w))) (l1 : 1 ≤ us.length) (l2 : us.length ≤ 1000) : EvI wl (tCall spDraw [] E (tCons (tVar 0) (tCons (tCB (rLenQ K) (tCons (tVar i) tNil)) tNil))) σ H 0 us.length := (ei_drawI (ei_len h a) h0 (by omega) (by omega)).mono (by omega) (by omega)
/-- a drawn one of a list -/
theorem ew_any (h : σ[i]? = some (some v)) (a : At wl.w C H v (.lst us)) (h0 : σ[0]? = some (some (.ref wl.w))) (l1 : 1 ≤ us.length) (l2 : us.length ≤ 1000) (hr : ∀ u ∈ us, R u) : EvW wl C (tOp (rIxL K) (tVar i) (tCall spDraw [] E (tCons (tVar 0) (tCons (tCB (rLenQ K) (tCons (tVar i) tNil)) tNil)))) σ H R := ew_ixL h a (ei_drawLen h a h0 l1 l2) hr
/-- [drawn for k in range(n)] -/
theorem lc_mkR (hn : EvI wl tn σ H lo hi) (k0 : 0 ≤ lo) (k1 : hi ≤ 1001) (hpl : ∀ u, R u → pln u) (W : Well H wl) (hw : ∀ x, wipe ((wipe σ vs).set j (some x)) vs = wipe σ vs) (he : ∀ x G, Drawn wl H G → EvW wl C te ((wipe σ vs).set j (some x)) G R) (Q : VK)
    (q : ∀ D' (xs : List V) us H', Drawn wl H H' → H' D' = some (.lst xs) → D' ≠ wl.w → AtL wl.w C H' xs us → lo ≤ us.length → (us.length : Int) < hi → (∀ u ∈ us, R u) → Q (.ref D') H') : tLc (iRng1 (tCons tn tNil)) (gName j) tYes te vs σ H Q := by
  refine hn H (.refl W) _ fun k H1 D1 b1 b2 => ⟨k, rfl, by omega, by omega, fun D' hD => ?_⟩
  have nD := (D1.well.ne hD).1
  refine lc_range (lo := 0) (n := k.toNat) (fun i H' => Drawn wl H1 H' ∧ ∃ (xs : List V) (us : List U), H' D' = some (.lst xs) ∧ AtL wl.w C H' xs us ∧ us.length = i ∧ ∀ u ∈ us, R u) ⟨(Drawn.refl D1.well).new hD, [], [], upd_same, .nil, rfl, fun z hz => by cases hz⟩ ?_ ?_
  · rintro i H2 hi ⟨D2, xs, us, hz, l, hl, hc⟩
    refine ⟨hw _, ?_⟩
    refine et_yes _ (Ex.refl _) _ fun H3 e3 => ?_
    rw [if_pos rfl]
    have D3 := D2.same e3
    refine he _ H3 (D1.trans D3) H3 (.refl D3.well) _ fun v u H4 D4 a r => ?_
    have D14 := D3.trans D4
    have hz4 : H4 D' = some (.lst xs) := D4.keep D' _ nD (e3 _ _ hz)
    have l4 : AtL wl.w C H4 xs us := AtL.drawn D4 (AtL.keep (fun b o _ q => e3 b o q) l)
    refine ⟨xs, hz4, ?_, D14.put D1.well hD, xs ++ [v], us ++ [u], upd_same, ?_, ?_, ?_⟩
    · rw [AtL.length l]
      exact sz_lt (by omega)
    · exact atl_put hz4 (fun y hy => hpl _ (by
        rcases List.mem_append.mp hy with hy | hy
        · exact hc y hy
        · rw [List.mem_singleton.mp hy]
          exact r)) (AtL.snoc l4 a)
    · rw [List.length_append, hl]
      rfl
    · intro y hy
      rcases List.mem_append.mp hy with hy | hy
      · exact hc y hy
      · rw [List.mem_singleton.mp hy]
        exact r
  · rintro H2 ⟨D2, xs, us, hz, l, hl, hc⟩
    exact q D' xs us H2 (D1.trans D2) hz nD l (by omega) (by omega) hc
/-- a list of drawn values, made a tuple -/
def EvQ (wl : WA) (C : Addr) (tq : TE) (σ : L2.St) (H : Hp) (R : U → Prop) (lo hi : Int) : Prop := ∀ H1, Drawn wl H H1 → ∀ Q : VK, (∀ D' (xs : List V) us H', Drawn wl H1 H' → H' D' = some (.lst xs) → D' ≠ wl.w → AtL wl.w C H' xs us → lo ≤ us.length → (us.length : Int) < hi → (∀ u ∈ us, R u) → Q (.ref D') H') → tq σ H1 Q
theorem eq_lc (hn : EvI wl tn σ H lo hi) (k0 : 0 ≤ lo) (k1 : hi ≤ 1001) (hpl : ∀ u, R u → pln u) (hw : ∀ x, wipe ((wipe σ vs).set j (some x)) vs = wipe σ vs) (he : ∀ x G, Drawn wl H G → EvW wl C te ((wipe σ vs).set j (some x)) G R) :
    EvQ wl C (tLc (iRng1 (tCons tn tNil)) (gName j) tYes te vs) σ H R lo hi := fun H1 D1 Q q => lc_mkR (fun H2 D2 => hn H2 (D1.trans D2)) k0 k1 hpl D1.well hw (fun x G DG => he x G (D1.trans DG)) Q q
theorem ew_tupQ {tq : TE} (h : EvQ wl C tq σ H R lo hi) : EvW wl C (tCB (rTupF K) (tCons tq tNil)) σ H (fun u => ∃ us, u = .tup us ∧ lo ≤ us.length ∧ (us.length : Int) < hi ∧ ∀ u ∈ us, R u) := fun H1 D1 Q q =>
  h H1 D1 _ fun D' xs us H2 D2 h2 n2 l b1 b2 hr => ⟨D', xs, rfl, .inl ⟨SqL.of h2, newT_data D2.well.at l fun v H3 e3 a => q v (.tup us) H3 (D2.same e3) a ⟨us, rfl, b1, b2, hr⟩⟩⟩
theorem ew_lstQ {tq : TE} (h : EvQ wl C tq σ H R lo hi) : EvW wl C tq σ H (fun u => ∃ us, u = .lst us ∧ lo ≤ us.length ∧ (us.length : Int) < hi ∧ ∀ u ∈ us, R u) := fun H1 D1 Q q =>
  h H1 D1 _ fun D' xs us H2 D2 h2 n2 l b1 b2 hr => q (.ref D') (.lst us) H2 D2 (.lst h2 n2 l) ⟨us, rfl, b1, b2, hr⟩
end
def PoolU (ps : List U) : Prop := (1 ≤ ps.length ∧ ps.length ≤ 7) ∧ ∀ u ∈ ps, IdU u
def RowU (u : U) : Prop := gRow u = true ∧ Bd u 2200 2 0
def PreP (us : List U) : Prop := ∃ ps, us = [.lst ps] ∧ PoolU ps
theorem preP_len : ∀ us, PreP us → us.length = 1 := fun us ⟨ps, e, _⟩ => by rw [e]; rfl
theorem idU_ok {u : U} (h : IdU u) : gId u = true ∧ Bd u 170 1 0 ∧ pln u := by
  obtain ⟨i, j, rfl, h1, h2, h3, h4⟩ := h
  refine ⟨idOk ⟨h1, h2, h3⟩, ⟨by simp [wt, wtL], by simp [dep, depL], ?_⟩, by simp [pln, plnL]⟩
  simp only [tidy, tidyL]
  exact ⟨tidy_int (by omega), tidy_int (by omega), trivial⟩
theorem bdL_all {us : List U} {m d : Nat} (h : ∀ u ∈ us, Bd u m d 0) : BdL us (us.length * (m + 2)) d 0 := by
  induction us with
  | nil => exact BdL.nil.mono (Nat.zero_le _) (Nat.zero_le _) (Nat.le_refl _)
  | cons u us ih => exact (BdL.append (BdL.one (h u List.mem_cons_self)) (ih fun x hx => h x (List.mem_cons_of_mem _ hx))).mono (by rw [List.length_cons, Nat.add_mul]; omega) (Nat.le_refl _) (Nat.le_refl _)
section
variable {P : Program} {wd : World} {K : PySem.W.Frag} {mg : Str → Option Value} {base : Heap} {C : Addr} {fD : Addr} {dD : FuncData}
theorem scRowH : FnScope ["hat", "pool", "size", "k"] ["hat", "pool"] (defScope lRow) := ⟨rfl, rfl, rfl, by decide +kernel, rfl, by decide +kernel, by decide +kernel⟩
theorem ok_rowH {f : Addr} {fd : FuncData} (F : Fun K "_law_row" "_law_row" lRow f fd) (B : Bt mg) (D : Dd P wd K mg base fD dD) : FnOk P wd K mg base CX0 2 f fd ["hat", "pool"] (spMkA C PreP fun _ => RowU) := by
  refine F.ok scRowH (lenMkA preP_len rfl) (fun cdv A outer s H vs Q E hr h => ?_)
  obtain ⟨wl, xs, us, rfl, W, l, ⟨ps, rfl, hl, hps⟩, k⟩ := h
  refine ⟨_, pss_cons (ps_set (i := 2) scRowH.nd rfl (.inl rfl) (pe_ix (show IxR _ (rIxL K) from ix_list) (pe_lst (pa_cons (pe_un un_neg pe_int) (pa_cons pe_int (pa_cons pe_int (pa_cons pe_int (pa_cons pe_int (pa_cons pe_int (pa_cons pe_int (pa_cons pe_int pa_nil))))))))) (pe_draw D hr (by decide) (by rfl) (pv 0) pe_int) (fun _ _ => rfl)))
    (pss_cons (ps_if (pt_cmpR op_lt (pv 2) pe_int (nomark _)) (pss_one (ps_ret pe_non)) pss_nil)
    (pss_one (ps_ret (pe_callTy call_tupF (by rfl) B.tup boot_tuple' (pa_cons (pe_lc (own := [("k", 3)]) (g := gName 3) (tt := tYes) rfl scRowH.nd (pi_range1 (by rfl) B.range (pa_cons (pv 2) pa_nil)) (blkOk_by (N := ["hat", "pool", "size", "k"]) (sc := defScope lRow) (by decide +kernel))
        (fun _ _ _ _ _ => pg_name (i := 3) scRowH.nd rfl (Or.inl rfl)) (fun _ _ _ _ _ => pts_nil) (fun _ _ _ _ _ => pe_ix (show IxR _ (rIxL K) from ix_list) (pv 1) (pe_draw D hr (by decide) (by rfl) (pv 0) (pe_callB (show CallR _ _ (rLenQ K) from call_len_seq) (by rfl) B.len PySem.boot_len (pa_cons (pv 1) pa_nil))) (fun _ _ => rfl))) pa_nil))))), ?_⟩
  obtain ⟨x, rfl, ax⟩ : ∃ x, xs = [x] ∧ At wl.w C H x (.lst ps) := by
    cases l with
    | cons h1 h2 => cases h2; exact ⟨_, rfl, h1⟩
  refine q_asgI (wl := wl) (i := 2) (ei_pickE (xs := [-1, 0, 1, 1, 2, 3, 5, 12]) (lo := -1) (hi := 13) (fun G => ea_cons (fun H1 e Q q => ⟨1, rfl, q H1 (Ex.refl H1)⟩) (ea_cons ev_c (ea_cons ev_c (ea_cons ev_c (ea_cons ev_c (ea_cons ev_c (ea_cons ev_c (ea_cons ev_c ea_nil)))))))) (ei_draw rfl (by decide) (by decide)) (by decide) (by decide)) W fun z H1 D1 b1 b2 => ?_
  show tSeq _ _ _ [some (V.ref wl.w), some x, some (.int z), none] H1
  refine q_when (b := decide (z < 0)) (et_test (ev_op (ev_var rfl) ev_c rv_I0)) (fun q H2 e2 => ?_) (fun q H2 e2 => ?_)
  · exact s_retW (ew_c (u := .non) (R := RowU) (fun _ => .non) ⟨rfl, by simp [wt], by simp [dep], by simp [tidy]⟩) (D1.same e2).well fun v u H3 D3 a r => k v u H3 ((D1.same e2).trans D3) a r
  · have z0 := of_decide_eq_false q
    have D2 := D1.same e2
    have ax2 : At wl.w C H2 x (.lst ps) := At.drawn D2 ax
    refine s_retW (ew_tupQ (K := K) (eq_lc (lo := z) (hi := z + 1) (R := IdU) (ei_var rfl (by omega) (by omega)) (by omega) (by omega) (fun u h => (idU_ok h).2.2) (fun _ => rfl) fun y G DG => ew_any (v := x) rfl (At.drawn DG ax2) rfl (by omega) (by omega) hps)) D2.well fun v u H3 D3 a r => k v u H3 (D2.trans D3) a ?_
    obtain ⟨us, rfl, c1, c2, hr⟩ := r
    refine ⟨?_, ?_⟩
    · show (decide (us.length ≤ 12) && us.all gId) = true
      rw [decide_eq_true (by omega), List.all_eq_true.mpr fun u hu => (idU_ok (hr u hu)).1]
      rfl
    · exact (Bd.tup (bdL_all fun u hu => (idU_ok (hr u hu)).2.1)).mono (by
        have : us.length ≤ 12 := by omega
        omega) (by decide) (Nat.le_refl _)
end
end Hs
namespace Hs
open PySem PySem.Spec PyProof.Rows L2 Hu Evl
def NmU (u : U) : Prop := ∃ z, u = .str z ∧ gNam (.str z) = true
def NmsU (ns : List U) : Prop := 1 ≤ ns.length ∧ ns.length ≤ 44 ∧ ∀ u ∈ ns, NmU u
def zOf (us : List U) : Str := match us with | .str z :: _ => z | _ => ""
theorem nmU_ok {u : U} (h : NmU u) : Bd u 20 0 0 ∧ pln u := by
  obtain ⟨z, rfl, h⟩ := h
  exact ⟨nam_bd h, trivial⟩
section
variable {P : Program} {wd : World} {K : PySem.W.Frag} {mg : Str → Option Value} {base : Heap} {C : Addr} {fD : Addr} {dD : FuncData}
theorem atl1 {w : Addr} {H : Hp} {xs : List V} {a : U} (l : AtL w C H xs [a]) : ∃ x, xs = [x] ∧ At w C H x a := by
  cases l with
  | cons h1 h2 => cases h2; exact ⟨_, rfl, h1⟩
theorem atl2 {w : Addr} {H : Hp} {xs : List V} {a b : U} (l : AtL w C H xs [a, b]) : ∃ x y, xs = [x, y] ∧ At w C H x a ∧ At w C H y b := by
  cases l with
  | cons h1 h2 => obtain ⟨y, rfl, h⟩ := atl1 h2; exact ⟨_, _, rfl, h1, h⟩
theorem atl3 {w : Addr} {H : Hp} {xs : List V} {a b c : U} (l : AtL w C H xs [a, b, c]) : ∃ x y z, xs = [x, y, z] ∧ At w C H x a ∧ At w C H y b ∧ At w C H z c := by
  cases l with
  | cons h1 h2 => obtain ⟨y, z, rfl, h, h'⟩ := atl2 h2; exact ⟨_, _, _, rfl, h1, h, h'⟩
theorem len1_le {A : U → Prop} : ∀ us : List U, (∃ u r, us = u :: r ∧ A u ∧ r = []) → us.length ≤ 100000 := fun us ⟨u, r, e, _, e2⟩ => by
  rw [e, e2]
  show (1 : Nat) ≤ 100000
  decide
end
end Hs
namespace Hs
open PySem PySem.Spec PyProof.Rows L2 Hu Evl
open Hk (SI ltSI)
/-- the built-ins that k03 has more than k01 -/
structure Bz (mg : Str → Option Value) : Prop where
  sort : mg "sorted" = none
  zip : mg "zip" = none
theorem boot_sorted' : bootBuiltins "sorted" = some (.builtin "sorted") := by decide +kernel
theorem boot_max' : bootBuiltins "max" = some (.builtin "max") := by decide +kernel
section
variable {K : PySem.W.Frag} {w C : Addr} {σ : L2.St} {H : Hp} {tl te : TE}
/-- [f(x) for x in a list], each known by its data -/
theorem lc_DL {Rx : List V → Hp → Prop} {fs : List U} {j : Nat} {vs : List Nat} (hT : ∀ H0, Ex H H0 → ∀ Q : VK, (∀ p xs H1, Ex H0 H1 → H1 p = some (.lst xs) → Rx xs H1 → Q (.ref p) H1) → tl σ H0 Q) (hz : fs.length ≤ 40000) (hp : ∀ u ∈ fs, pln u) (hw : ∀ x, wipe ((wipe σ vs).set j (some x)) vs = wipe σ vs)
    (he : ∀ xs G0, Ex H G0 → Rx xs G0 → fs.length = xs.length ∧ ∀ (i : Nat) (x : V) (u : U) (G : Hp), xs[i]? = some x → fs[i]? = some u → Ex G0 G → EvD w C te ((wipe σ vs).set j (some x)) G u) :
    EvLD w C (tLc (iList K tl) (gName j) tYes te vs) σ H fs := fun H0 e Q q => hT H0 e _ fun a xs H1 e1 ha hR => ⟨a, rfl, ⟨xs, sq_of ha⟩, fun Dd hD => by
    obtain ⟨hlen, he'⟩ := he xs H1 (e.trans e1) hR
    exact lc_list (xs := xs) (fun i H' => Ex H1 H' ∧ ∃ ys, H' Dd = some (.lst ys) ∧ ys.length ≤ i ∧ AtL w C H' ys (fs.take i)) ⟨Ex.new hD, [], upd_same, Nat.le_refl _, .nil⟩ (fun i H' _ p => sq_of (p.1 _ _ ha)) (fun i x H2 hi p => by
      obtain ⟨p1, ys, p2, p3, p4⟩ := p
      have hu : i < fs.length := by
        have := (List.getElem?_eq_some_iff.mp hi).1
        omega
      refine ⟨hw x, et_yes H2 (Ex.refl H2) _ fun H3 e3 => ?_⟩
      rw [if_pos rfl]
      refine he' i x fs[i] H3 hi (List.getElem?_eq_getElem hu) (p1.trans e3) H3 (Ex.refl H3) _ fun v H4 e4 a4 => ⟨ys, e4 _ _ (e3 _ _ p2), ?_, fun q o hq => ?_, ys ++ [v], upd_same, ?_, ?_⟩
      · have := bit_line
        unfold bit at this
        omega
      · rw [upd_ne (ne_of_none hq hD)]
        exact e4 _ _ (e3 _ _ (p1 _ _ hq))
      · rw [List.length_append]
        show ys.length + 1 ≤ i + 1
        omega
      · have nt := tq_upd (w := w) (x := .lst (ys ++ [v])) (e4 _ _ (e3 _ _ p2))
        rw [List.take_add_one, List.getElem?_eq_getElem hu]
        exact AtL.append (atl_tups nt (plnL_all.mpr fun y hy => hp y (List.mem_of_mem_take hy)) (ex_atl (e3.trans e4) p4)) (.cons (at_tups nt (hp _ (List.getElem_mem hu)) a4) .nil)) (fun H' p => by
      obtain ⟨p1, ys, p2, p3, p4⟩ := p
      rw [← hlen, List.take_length] at p4
      exact q Dd ys H' (fresh_back e1 hD) (e1.trans p1) p2 p4)⟩
end
section
variable {P : Program} {wd : World} {K : PySem.W.Frag} {mg : Str → Option Value} {base : Heap} {C : Addr}
theorem byKeys_len (L : List Ls) (zs : List SI) : (byKeys L zs).length = zs.length := by
  unfold byKeys
  rw [List.length_map]
end
end Hs
namespace Hs
open PySem PySem.Spec PyProof.Rows L2 Hu Evl
open Hk (rSortDZ cr_sortDZ)
def HdU (u : U) : Prop := ∃ z s r, u = .tup [.str z, s, r] ∧ gNam (.str z) = true ∧ StU s ∧ RowU r
def HdsU (u : U) : Prop := ∃ L, u = .tup L ∧ (∀ x ∈ L, HdU x) ∧ srtN L ∧ L.length ≤ 44
def PreNP (us : List U) : Prop := ∃ ns ps, us = [.lst ns, .lst ps] ∧ NmsU ns ∧ PoolU ps
theorem preNP_len : ∀ us, PreNP us → us.length = 2 := fun us ⟨ns, ps, e, _⟩ => by rw [e]; rfl
theorem stU_ok {u : U} (h : StU u) : gStamp u = true ∧ Bd u 170 1 0 ∧ pln u := by
  obtain ⟨i, j, rfl, h⟩ := h
  refine ⟨stampOk (by omega), ⟨by simp [wt, wtL], by simp [dep, depL], ?_⟩, by simp [pln, plnL]⟩
  simp only [tidy, tidyL]
  exact ⟨tidy_int (by omega), tidy_int (by omega), trivial⟩
theorem hdU_ok {u : U} (h : HdU u) : gNamed u = true ∧ Bd u 2400 3 0 := by
  obtain ⟨z, s, r, rfl, h1, h2, h3⟩ := h
  refine ⟨?_, ?_⟩
  · show (decide (3 = 3) && (gNam (.str z) && (gStamp s && gRow r))) = true
    rw [h1, (stU_ok h2).1, h3.1]
    rfl
  · exact (Bd.tup (BdL.append (BdL.one (m := 20) (d := 2) ((nam_bd h1).mono (by decide) (by decide) (Nat.le_refl _))) (BdL.append (BdL.one (m := 170) (d := 2) ((stU_ok h2).2.1.mono (by decide) (by decide) (Nat.le_refl _))) (BdL.one h3.2)))).mono (by decide) (by decide) (Nat.le_refl _)
section
variable {P : Program} {wd : World} {K : PySem.W.Frag} {mg : Str → Option Value} {base : Heap} {C : Addr} {fD : Addr} {dD : FuncData}
theorem NV.drawn {wl : WA} {H H' : Hp} {kvs : List (L2.Key × V)} {us : List U} (D : Drawn wl H H') (h : NV wl.w C H kvs us) : NV wl.w C H' kvs us := by
  induction h with
  | nil => exact .nil
  | cons h _ ih => exact .cons (At.drawn D h) ih
theorem hds_all {us : List U} (h : ∀ x ∈ us, HdU x) : us.all gNamed = true := List.all_eq_true.mpr fun x hx => (hdU_ok (h x hx)).1
/-- tuple([(name,) + found[name] for name in sorted(found)]) -/
theorem ed_heads {w : Addr} {σ : L2.St} {H : Hp} {dv j : Nat} {a : Addr} {kvs : List (L2.Key × V)} {us L : List U} (h0 : σ[dv]? = some (some (.ref a))) (h1 : ∀ x, ((wipe σ [j]).set j (some x))[dv]? = some (some (.ref a))) (h2 : ∀ x, ((wipe σ [j]).set j (some x))[j]? = some (some x))
    (h3 : ∀ x, wipe ((wipe σ [j]).set j (some x)) [j] = wipe σ [j]) (hd : H a = some (.dK kvs)) (nv : NV w C H kvs us) (nd : (us.map nmU).Nodup) (hall : ∀ x ∈ us, HdU x) (hp : L.Perm us) (st : srtN L) (hz : us.length ≤ 40000) (hw : ∃ o, H w = some o) :
    EvD w C (tCB (rTupO K) (tCons (tLc (iList K (tCB rSortDZ (tCons (tVar dv) tNil))) (gName j) tYes (tOp (rCatF K) (tTupF (tCons (tVar j) tNil)) (tDGet (tVar dv) (tVar j))) [j]) tNil)) σ H (.tup L) := by
  have gm : ∀ u ∈ L, gNamed u = true := fun u hu => (hdU_ok (hall u (hp.mem_iff.mp hu))).1
  refine ed_tupL hw (lc_DL (K := K) (Rx := fun xs G => xs = (L.map nmU).map V.str) (fun H0 e Q q => ?_) (by rw [hp.length_eq]; exact hz) (fun u hu => gNamed_pln (gm u hu)) h3 fun xs G0 e0 hR => ?_)
  · refine ⟨_, h0, a, kvs, us.map nmU, rfl, e _ _ hd, nv.keys, fun zs p pz sz hp0 => ?_⟩
    exact q p _ _ (Ex.new hp0) upd_same (by rw [names_tell nd hp (srtN_H st) pz sz])
  · subst hR
    refine ⟨by rw [List.length_map, List.length_map], fun i x u G hx hu eg => ?_⟩
    rw [List.getElem?_map, List.getElem?_map, hu] at hx
    cases hx
    have hmem := hp.mem_iff.mp (List.mem_of_getElem? hu)
    obtain ⟨z, s, r, v, rfl, hv, hat⟩ := nv.get nd hmem
    have E1 := e0.trans eg
    intro G1 g1 Q q
    refine (ed_tup (w := w) (C := C) (us := [.str z]) (hw.imp fun o q => E1 _ _ q) (eds_cons (ed_ev (te := tVar j) (v := .str z) (ev_var (h2 _)) (.str z)) eds_nil) (by show (1 : Nat) ≤ 100000; decide)) G1 g1 _ fun v1 G2 g2 a1 => ?_
    refine ⟨_, h1 _, _, h2 _, a, v, rfl, by
        have := DGet.k (k := .inr z) ((E1.trans (g1.trans g2)) _ _ hd)
        rw [hv] at this
        exact this, ?_⟩
    obtain ⟨b1, y1, rfl, t1, _, l1⟩ := at_tup a1
    obtain ⟨b2, y2, rfl, t2, _, l2⟩ := at_tup (ex_at (E1.trans (g1.trans g2)) hat)
    have n1 : y1.length = 1 := AtL.length l1
    have n2 : y2.length = 2 := AtL.length l2
    refine ⟨b1, b2, y1, y2, rfl, rfl, Tu.st t1, Tu.st t2, sz_of (by omega), fun h => (by rw [h] at n1; cases n1), fun _ h => (by rw [h] at n2; cases n2), fun _ _ => newT_data (w := w) (C := C) (us := [U.str z, s, r]) (hw.imp fun o z => (E1.trans (g1.trans g2)) _ _ z) (AtL.append l1 l2) fun v G3 e3 a3 => q v G3 (g2.trans e3) a3⟩
theorem scHdH : FnScope ["hat", "names", "pool", "found", "name"] ["hat", "names", "pool"] (defScope lHeads) := ⟨rfl, rfl, rfl, by decide +kernel, rfl, by decide +kernel, by decide +kernel⟩
set_option maxHeartbeats 1000000 in
theorem ok_headsH {f f1 f2 : Addr} {fd d1 d2 : FuncData} (F : Fun K "_law_heads" "_law_heads" lHeads f fd) (B : Bt mg) (Z : Bz mg) (D : Dd P wd K mg base fD dD) (D1 : Df K mg "_law_stamp" lStamp ["hat"] f1 d1) (G1 : FnOk P wd K mg base CX0 2 f1 d1 ["hat"] (spMk C StU))
    (D2 : Df K mg "_law_row" lRow ["hat", "pool"] f2 d2) (G2 : FnOk P wd K mg base CX0 2 f2 d2 ["hat", "pool"] (spMkA C PreP fun _ => RowU)) : FnOk P wd K mg base CX0 3 f fd ["hat", "names", "pool"] (spMkA C PreNP fun _ => HdsU) := by
  refine F.ok scHdH (lenMkA preNP_len rfl) (fun cdv A outer s H vs Q E hr h => ?_)
  obtain ⟨wl, xs, us, rfl, W, l, ⟨ns, ps, rfl, ⟨n1, n2, hns⟩, hps⟩, k⟩ := h
  refine ⟨_, pss_cons (ps_set (i := 3) scHdH.nd rfl (.inr rfl) pe_dnewK)
    (pss_cons (ps_for PassesOwn.never rfl (pi_list (pv 1)) (pg_name (i := 4) scHdH.nd rfl (Or.inl rfl))
      (pss_one (ps_if (pt_cmpR op_gt (pe_draw D hr (by decide) (by rfl) (pv 0) pe_int) pe_int (nomark _))
        (pss_one (ps_asg (pe_tupF (pa_cons (pe_call G1 hr (by rfl) D1.g D1.F.kp D1.b .nil pass0 (pa_cons (pv 0) pa_nil)) (pa_cons (pe_call G2 hr (by rfl) D2.g D2.F.kp D2.b .nil pass0 (pa_cons (pv 0) (pa_cons (pv 2) pa_nil))) pa_nil)))
          (pg_sub (pv 3) (pv 4) (set_dict (room_h1 hr))))) pss_nil)))
    (pss_one (ps_ret (pe_callTy call_tupF (by rfl) B.tup boot_tuple' (pa_cons (pe_lc (own := [("name", 4)]) (g := gName 4) (tt := tYes) rfl scHdH.nd (pi_list (pe_callB (show CallR _ _ rSortDZ from cr_sortDZ rfl) (by rfl) Z.sort boot_sorted' (pa_cons (pv 3) pa_nil)))
      (blkOk_by (N := ["hat", "names", "pool", "found", "name"]) (sc := defScope lHeads) (by decide +kernel)) (fun _ _ _ _ _ => pg_name (i := 4) scHdH.nd rfl (Or.inl rfl)) (fun _ _ _ _ _ => pts_nil)
      (fun _ _ _ _ _ => pe_op (show OpR _ _ (rCatF K) from op_catF) (pe_tupF (pa_cons (pv 4) pa_nil)) (pe_dget (room_h1 hr) (pv 3) (pv 4) (fun _ _ => rfl)))) pa_nil))))), ?_⟩
  obtain ⟨x, y, rfl, ax, ay⟩ := atl2 l
  obtain ⟨N, xs, rfl, hN, nN, lN⟩ := at_lst ax
  refine fun dd hD => ?_
  have nD := (W.ne hD).1
  dsimp only [gName]
  show tSeq _ _ _ [some (V.ref wl.w), some (.ref N), some y, some (.ref dd), none] _
  have W1 := W.same (same_upd (o := .dK []) hD)
  have hlen := AtL.length lN
  refine q_forL (K := K) (xs := xs) (ev_var rfl) (SqL.of (by rw [upd_ne (ne_of_none hN hD)]; exact hN)) (fun i σ' H' => ∃ (x4 : Option V) (kvs : List (L2.Key × V)) (us : List U), σ' = [some (.ref wl.w), some (.ref N), some y, some (.ref dd), x4] ∧ Drawn wl H H' ∧ H' dd = some (.dK kvs) ∧ NV wl.w C H' kvs us ∧ (us.map nmU).Nodup ∧ (∀ x ∈ us, HdU x) ∧ us.length ≤ i)
    (fun H2 e2 => ⟨_, [], [], rfl, ((Drawn.refl W).new hD).same e2, e2 _ _ upd_same, .nil, .nil, fun u hu => (by cases hu), Nat.le_refl _⟩) (fun i σ' H' _ ⟨x4, kvs, us, _, D1, _⟩ => SqL.of (D1.keep _ _ nN hN)) ?_ ?_
  · rintro i x σ' H1 hi ⟨x4, kvs, us, rfl, D1, h1, nv, nd, ok, ln⟩
    have hi' : i < ns.length := by
      have := (List.getElem?_eq_some_iff.mp hi).1
      omega
    obtain ⟨x', hx', axn⟩ := AtL.get lN (List.getElem?_eq_getElem hi')
    rw [hi] at hx'
    cases hx'
    obtain ⟨z, ez, gz⟩ := hns ns[i] (List.getElem_mem hi')
    rw [ez] at axn
    cases at_str axn
    show tIfS _ _ tNext _ [some (V.ref wl.w), some (.ref N), some y, some (.ref dd), some (.str z)] H1
    refine ⟨_, rfl, wl, 3, rfl, D1.well, by decide, by decide, fun d H2 d0 d1 D2 => ⟨_, _, rfl, rfl, _, rfl, ite2 (fun q => ?_) (fun q => ?_)⟩⟩
    · have D12 := D1.trans D2
      have len : ∀ us, (∃ u r, us = u :: r ∧ StU u ∧ ∃ u' r', r = u' :: r' ∧ RowU u' ∧ r' = []) → us.length ≤ 100000 := fun us h => by
        obtain ⟨u, r, rfl, _, u', r', rfl, _, rfl⟩ := h
        show (2 : Nat) ≤ 100000
        decide
      have call2 : EvW wl C (tCall (spMkA C PreP fun _ => RowU) [] E0 (tCons (tVar 0) (tCons (tVar 2) tNil))) [some (V.ref wl.w), some (.ref N), some y, some (.ref dd), some (.str z)] H2 RowU := fun G1 g1 Q q => ⟨_, rfl, _, rfl, wl, [y], [.lst ps], rfl, g1.well, .cons (At.drawn (D12.trans g1) ay) .nil, ⟨ps, rfl, hps⟩, fun v u H' d a r => q v u H' d a r⟩
      refine (ewr_tup (ewr_cons (ew_mk rfl) (ewr_cons call2 ewr_nil)) len) H2 (.refl D2.well) _ fun v u H3 D3 a r => ?_
      obtain ⟨us', rfl, s, r', rfl, hs, rw', r'', rfl, hr', rfl⟩ := r
      have D13 := D12.trans D3
      have h13 : H3 dd = some (.dK kvs) := D3.keep _ _ nD (D2.keep _ _ nD h1)
      have nv3 := (nv.drawn D2).drawn D3
      have lenk : kvs.length < sizeLine := sz_lt (by rw [nv3.len]; omega)
      have good : ∀ x ∈ putH us (.tup [.str z, s, rw']), HdU x := fun x hx => by
        rcases mem_putH.mp hx with rfl | ⟨hx, _⟩
        · exact ⟨z, s, rw', rfl, gz, hs, hr'⟩
        · exact ok x hx
      have len' : (putH us (.tup [.str z, s, rw'])).length ≤ us.length + 1 := by
        unfold putH
        split
        · rw [List.length_map]; omega
        · rw [List.length_append]; exact Nat.le_refl _
      refine ⟨_, rfl, _, rfl, dd, _, rfl, DPut.k (k := .inr z) h13 lenk, _, _, _, rfl, D13.put W hD, upd_same, ?_, putH_keys nd, good, by omega⟩
      exact (nv3.put a).tups (fun b o nb tq hb => by
        rw [upd_ne (fun e => by
          rw [e, h13] at hb
          cases hb
          obtain ⟨zs, q | ⟨b, q⟩⟩ := tq <;> cases q)]
        exact hb) (hds_all good)
    · exact ⟨_, _, _, rfl, D1.trans D2, D2.keep _ _ nD h1, nv.drawn D2, nd, ok, by omega⟩
  · rintro σ' H1 ⟨x4, kvs, us, rfl, D1, h1, nv, nd, ok, ln⟩
    obtain ⟨L, hp, st⟩ := in_order nd
    refine (ed_heads (K := K) (C := C) (w := wl.w) (dv := 3) (j := 4) rfl (fun _ => rfl) (fun _ => rfl) (fun _ => rfl) h1 nv nd ok hp st (by omega) D1.well.at) H1 (Ex.refl H1) _ fun v H2 e2 a2 => ?_
    exact k v (.tup L) H2 (D1.same e2) a2 ⟨L, rfl, fun x hx => ok x (hp.mem_iff.mp hx), st, by rw [hp.length_eq]; omega⟩
end
end Hs
namespace Hk
open PySem PySem.Spec PyProof.Rows L2
abbrev PZ : Type := (Int × Int) × Str
def ltPZ (x y : PZ) : Bool := decide (x.1.1 < y.1.1) || (decide (x.1.1 = y.1.1) && decide (x.1.2 < y.1.2))
theorem ltPZ_iff {x y : PZ} : ltPZ x y = true ↔ x.1.1 < y.1.1 ∨ (x.1.1 = y.1.1 ∧ x.1.2 < y.1.2) := by
  unfold ltPZ
  rw [Bool.or_eq_true, Bool.and_eq_true, decide_eq_true_eq, decide_eq_true_eq, decide_eq_true_eq]
theorem ltPZ_no {x y : PZ} : ltPZ x y = false ↔ ¬ (x.1.1 < y.1.1 ∨ (x.1.1 = y.1.1 ∧ x.1.2 < y.1.2)) := by
  rw [← ltPZ_iff]
  cases ltPZ x y <;> simp
/-- a pair: a tuple of two integers, a text -/
def IsPZ (h : Heap) (v : Value) (x : PZ) : Prop := ∃ (a k : Addr) (o ok : Obj) (t u c : Tok) (n m : Nat), v = .ref a ∧ h.get? a = some o ∧ o.cls = .type "tuple" ∧ o.data = .seq #[.ref k, .str x.2 c] n ∧ h.get? k = some ok ∧ ok.cls = .type "tuple" ∧ ok.data = .seq #[.int x.1.1 t, .int x.1.2 u] m
theorem IsPZ.keeps {h h' : Heap} {v : Value} {x : PZ} (y : IsPZ h v x) (k : ∀ b o, h.get? b = some o → o.cls = .type "tuple" → h'.get? b = some o) : IsPZ h' v x := by
  obtain ⟨a, q, o, ok, t, u, c, n, m, e, h1, h2, h3, h4, h5, h6⟩ := y
  exact ⟨a, q, o, ok, t, u, c, n, m, e, k _ _ h1 h2, h2, h3, k _ _ h4 h5, h5, h6⟩
def two0 (h : Heap) (k : Addr) : Int × Int := match h.get? k with
  | some o => match o.data with
    | .seq xs _ => match xs.toList with
      | [.int i _, .int j _] => (i, j)
      | _ => default
    | _ => default
  | none => default
def pzOf (h : Heap) (v : Value) : PZ := match v with
  | .ref a => match h.get? a with
    | some o => match o.data with
      | .seq xs _ => match xs.toList with
        | [.ref k, .str z _] => (two0 h k, z)
        | _ => default
      | _ => default
    | none => default
  | _ => default
theorem IsPZ.of {h : Heap} {v : Value} {x : PZ} (y : IsPZ h v x) : pzOf h v = x := by
  obtain ⟨a, q, o, ok, t, u, c, n, m, rfl, h1, h2, h3, h4, h5, h6⟩ := y
  simp only [pzOf, two0, h1, h3, h4, h6]
end Hk
namespace Hk
open PySem PySem.Spec PyProof.Rows L2
open L2.DX (itemsO)
abbrev keyII (p : Int × Int) : List L2.Key := [Sum.inl p.1, Sum.inl p.2]
abbrev entZ (x : PZ) : List L2.Key × V := (keyII x.1, V.str x.2)
end Hk
namespace Hs
open PySem PySem.Spec PyProof.Rows L2 Hu Evl
open Hk (PZ ltPZ ltPZ_iff ltPZ_no entZ)
def bzU (x : PZ) : U := .tup [.tup [.int x.1.1, .int x.1.2], .str x.2]
theorem bzU_pln (x : PZ) : pln (bzU x) := by simp [bzU, pln, plnL]
/-- a row put among rows in order -/
def insZ (x : PZ) : List PZ → List PZ
  | [] => [x]
  | y :: r => if x.1 = y.1 then x :: r else if ltPZ x y = true then x :: y :: r else y :: insZ x r
def putZ (ps : List PZ) (x : PZ) : List PZ := if (ps.any fun y => decide (y.1 = x.1)) = true then ps.map fun y => if y.1 = x.1 then x else y else ps ++ [x]
abbrev srtZ (ps : List PZ) : Prop := ps.Pairwise fun x y => ltPZ x y = true
theorem lt_ne {x y : PZ} (h : ltPZ x y = true) : x.1 ≠ y.1 := fun e => by
  rw [ltPZ_iff, e] at h
  omega
theorem lt_trans' {x y z : PZ} (h1 : ltPZ x y = true) (h2 : ltPZ y z = true) : ltPZ x z = true := by
  rw [ltPZ_iff] at *
  omega
theorem ltPZ_key {x y z : PZ} (e : x.1 = y.1) (h : ltPZ y z = true) : ltPZ x z = true := by
  rw [ltPZ_iff] at *
  rw [e]
  exact h
theorem lt_tri {x y : PZ} (h : x.1 ≠ y.1) (h2 : ¬ ltPZ x y = true) : ltPZ y x = true := by
  rw [ltPZ_iff] at *
  have : ¬ (x.1.1 = y.1.1 ∧ x.1.2 = y.1.2) := fun q => h (Prod.ext q.1 q.2)
  omega
theorem insZ_all {x : PZ} {p : PZ → Prop} (hx : p x) : ∀ {ps : List PZ}, (∀ y ∈ ps, p y) → ∀ y ∈ insZ x ps, p y
  | [], _, y, h => by
    rw [show insZ x [] = [x] from rfl, List.mem_singleton] at h
    rw [h]; exact hx
  | a :: r, hp, y, h => by
    unfold insZ at h
    split at h
    · rcases List.mem_cons.mp h with h | h
      · rw [h]; exact hx
      · exact hp y (List.mem_cons_of_mem _ h)
    · split at h
      · rcases List.mem_cons.mp h with h | h
        · rw [h]; exact hx
        · exact hp y h
      · rcases List.mem_cons.mp h with h | h
        · rw [h]; exact hp a (by simp)
        · exact insZ_all hx (fun z hz => hp z (List.mem_cons_of_mem _ hz)) y h
theorem srt_insZ {x : PZ} : ∀ {ps : List PZ}, srtZ ps → srtZ (insZ x ps)
  | [], _ => List.pairwise_singleton _ _
  | a :: r, h => by
    have h' := List.pairwise_cons.mp h
    unfold insZ
    split
    · rename_i e
      exact List.pairwise_cons.mpr ⟨fun y hy => ltPZ_key e (h'.1 y hy), h'.2⟩
    · split
      · rename_i e l
        refine List.pairwise_cons.mpr ⟨fun y hy => ?_, h⟩
        rcases List.mem_cons.mp hy with rfl | hy
        · exact l
        · exact lt_trans' l (h'.1 y hy)
      · rename_i e l
        exact List.pairwise_cons.mpr ⟨insZ_all (lt_tri e l) h'.1, srt_insZ h'.2⟩
theorem srtZ_keys {ps : List PZ} (h : srtZ ps) : (ps.map (·.1)).Nodup := List.Pairwise.map _ (fun _ _ h => lt_ne h) h
theorem nd_keys {ps : List PZ} (h : (ps.map (·.1)).Nodup) : ps.Nodup := by
  unfold List.Nodup at h ⊢
  rw [List.pairwise_map] at h
  exact h.imp fun {a b} q e => q (by rw [e])
theorem mem_insZ {x y : PZ} : ∀ {ps : List PZ}, srtZ ps → (y ∈ insZ x ps ↔ y = x ∨ (y ∈ ps ∧ y.1 ≠ x.1))
  | [], _ => by simp [insZ]
  | a :: r, h => by
    have h' := List.pairwise_cons.mp h
    unfold insZ
    split
    · rename_i e
      rw [List.mem_cons, List.mem_cons]
      constructor
      · rintro (q | q)
        · exact .inl q
        · exact .inr ⟨.inr q, fun z => lt_ne (h'.1 y q) (by rw [z, e])⟩
      · rintro (q | ⟨q | q, n⟩)
        · exact .inl q
        · exact absurd (by rw [q, e]) n
        · exact .inr q
    · rename_i e
      split
      · rename_i l
        rw [List.mem_cons]
        constructor
        · rintro (q | q)
          · exact .inl q
          · refine .inr ⟨q, fun z => ?_⟩
            rcases List.mem_cons.mp q with rfl | q
            · exact e z.symm
            · exact lt_ne (lt_trans' l (h'.1 y q)) z.symm
        · rintro (q | ⟨q, _⟩)
          · exact .inl q
          · exact .inr q
      · rw [List.mem_cons, mem_insZ h'.2, List.mem_cons]
        constructor
        · rintro (q | q | ⟨q, n⟩)
          · exact .inr ⟨.inl q, fun z => e (by rw [← z, q])⟩
          · exact .inl q
          · exact .inr ⟨.inr q, n⟩
        · rintro (q | ⟨q | q, n⟩)
          · exact .inr (.inl q)
          · exact .inl q
          · exact .inr (.inr ⟨q, n⟩)
theorem mem_putZ {x y : PZ} {ps : List PZ} : y ∈ putZ ps x ↔ y = x ∨ (y ∈ ps ∧ y.1 ≠ x.1) := by
  unfold putZ
  split
  · rename_i h
    obtain ⟨a, ha, e⟩ := List.any_eq_true.mp h
    have e := of_decide_eq_true e
    rw [List.mem_map]
    constructor
    · rintro ⟨b, hb, q⟩
      split at q
      · exact .inl q.symm
      · rename_i n
        rw [← q]
        exact .inr ⟨hb, n⟩
    · rintro (q | ⟨q, n⟩)
      · exact ⟨a, ha, by rw [if_pos e, q]⟩
      · exact ⟨y, q, if_neg n⟩
  · rename_i h
    have no : ∀ a ∈ ps, a.1 ≠ x.1 := fun a ha e => h (List.any_eq_true.mpr ⟨a, ha, decide_eq_true e⟩)
    rw [List.mem_append, List.mem_singleton]
    constructor
    · rintro (q | q)
      · exact .inr ⟨q, no y q⟩
      · exact .inl q
    · rintro (q | ⟨q, _⟩)
      · exact .inr q
      · exact .inl q
theorem putZ_keys {x : PZ} {ps : List PZ} (h : (ps.map (·.1)).Nodup) : ((putZ ps x).map (·.1)).Nodup := by
  unfold putZ
  split
  · rw [List.map_map]
    have : ((fun y : PZ => y.1) ∘ fun y => if y.1 = x.1 then x else y) = fun y => y.1 := by
      funext y
      show (if y.1 = x.1 then x else y).1 = y.1
      split
      · rename_i e; exact e.symm
      · rfl
    rw [this]
    exact h
  · rename_i n
    rw [List.map_append, List.nodup_append]
    refine ⟨h, by simp, fun a ha b hb e => ?_⟩
    obtain ⟨y, hy, rfl⟩ := List.mem_map.mp ha
    have hb' : b = x.1 := by simpa using hb
    exact n (List.any_eq_true.mpr ⟨y, hy, decide_eq_true (e.trans hb')⟩)
theorem put_ent {x : PZ} {ps : List PZ} : putK (ps.map entZ) (kP x.1) (.str x.2) = (putZ ps x).map entZ := by
  have ke : ∀ y : PZ, (decide ((entZ y).1 = kP x.1) : Bool) = decide (y.1 = x.1) := fun y => decide_eq_decide.mpr ⟨fun h => kP_inj h, fun h => congrArg kP h⟩
  unfold putK putZ
  have e1 : ((ps.map entZ).any fun kv => decide (kv.1 = kP x.1)) = ps.any fun y => decide (y.1 = x.1) := by
    rw [List.any_map]
    congr 1
    funext y
    exact ke y
  rw [e1]
  split
  · rw [List.map_map, List.map_map]
    refine List.map_congr_left fun y _ => ?_
    show (if (entZ y).1 = kP x.1 then _ else _) = entZ (if y.1 = x.1 then x else y)
    by_cases q : y.1 = x.1
    · rw [if_pos q, if_pos (show (entZ y).1 = kP x.1 from congrArg kP q), show (entZ y).1 = kP x.1 from congrArg kP q]
      rfl
    · rw [if_neg q, if_neg (show ¬ (entZ y).1 = kP x.1 from fun h => q (kP_inj h))]
  · rw [List.map_append]
    rfl
theorem chain_pw {α : Type} {R : α → α → Prop} {xs : List α} (d : α) (tr : ∀ a b c, R a b → R b c → R a c) (h : ∀ k, k + 1 < xs.length → R (xs.getD k d) (xs.getD (k + 1) d)) : xs.Pairwise R := by
  have far : ∀ (m k : Nat), k + m + 1 < xs.length → R (xs.getD k d) (xs.getD (k + m + 1) d) := by
    intro m
    induction m with
    | zero => exact fun k hk => h k hk
    | succ m ih => exact fun k hk => tr _ _ _ (ih k (by omega)) (h (k + m + 1) hk)
  refine List.pairwise_iff_getElem.mpr fun i j hi hj lt => ?_
  have := far (j - i - 1) i (by omega)
  rw [show i + (j - i - 1) + 1 = j by omega, getD_some (List.getElem?_eq_getElem hi), getD_some (List.getElem?_eq_getElem hj)] at this
  exact this
theorem ascZ_srt {hs : List U} (h : ascZ (hs.map fun u => strU (nth u 0)) = true) : srtN hs := by
  have p : (hs.map fun u => strU (nth u 0)).Pairwise fun a b : Str => a.cps.toList < b.cps.toList := chain_pw e0z (fun a b c => List.lt_trans) fun k hk => of_decide_eq_true (ascN_get h k hk)
  rw [List.pairwise_map] at p
  exact p.imp fun {a b} q => decide_eq_true q
theorem srt_ascZ {hs : List U} (h : srtN hs) : ascZ (hs.map fun u => strU (nth u 0)) = true := by
  refine ascZ_pw ?_
  rw [List.pairwise_map]
  exact h.imp fun {a b} q => of_decide_eq_true q
theorem gHeads_iff {hs : List U} : gHeads (.tup hs) = true ↔ hs.all gNamed = true ∧ srtN hs := by
  show (hs.all gNamed && ascZ (hs.map fun u => strU (nth u 0))) = true ↔ _
  rw [Bool.and_eq_true]
  exact ⟨fun h => ⟨h.1, ascZ_srt h.2⟩, fun h => ⟨h.1, srt_ascZ h.2⟩⟩
/-- a right row of a block -/
def okZ (x : PZ) : Prop := gPiece (.str x.2) = true ∧ gId (.tup [.int x.1.1, .int x.1.2]) = true
theorem gBlk_bz {x : PZ} : gBlk (bzU x) = true ↔ okZ x := by
  show (gPair (bzU x) && (gId (nth (bzU x) 0) && gPiece (nth (bzU x) 1))) = true ↔ _
  have e : gPair (bzU x) = true := rfl
  rw [e, Bool.true_and, Bool.and_eq_true]
  exact ⟨fun h => ⟨h.2, h.1⟩, fun h => ⟨h.2, h.1⟩⟩
theorem bz_keys {ps : List PZ} : ((ps.map bzU).map fun u => keysU (nth u 0)) = ps.map fun x => kP x.1 := by
  rw [List.map_map]
  rfl
theorem ltPZ_K {x y : PZ} : ltPZ x y = true ↔ Hk.ltK (kP x.1) (kP y.1) = true := by
  rw [ltPZ_iff]
  exact ⟨fun h => ltK_i2 h, fun h => i2_ltK h⟩
theorem gBlocks_iff {ps : List PZ} : gBlocks (.tup (ps.map bzU)) = true ↔ (∀ x ∈ ps, okZ x) ∧ srtZ ps := by
  show ((ps.map bzU).all gBlk && ascK ((ps.map bzU).map fun u => keysU (nth u 0))) = true ↔ _
  rw [Bool.and_eq_true, bz_keys, List.all_map, List.all_eq_true]
  constructor
  · rintro ⟨h1, h2⟩
    refine ⟨fun x hx => gBlk_bz.mp (h1 x hx), ?_⟩
    have p : (ps.map fun x => x.1).Pairwise ltI2 := by
      refine chain_pw (0, 0) (fun a b c q1 q2 => ?_) fun k hk => ?_
      · unfold ltI2 at *
        omega
      · have := ascN_get h2 k (by rw [List.length_map] at hk ⊢; exact hk)
        have e : ps.map (fun x => kP x.1) = (ps.map fun x => x.1).map kP := by rw [List.map_map]; rfl
        rw [e] at this
        generalize ps.map (fun x => x.1) = qs at hk this
        have h1 : k < qs.length := by omega
        rw [getD_some (k := k) (by rw [List.getElem?_map, List.getElem?_eq_getElem h1]; rfl), getD_some (k := k + 1) (by rw [List.getElem?_map, List.getElem?_eq_getElem hk]; rfl)] at this
        rw [getD_some (List.getElem?_eq_getElem h1), getD_some (List.getElem?_eq_getElem hk)]
        exact i2_ltK this
    rw [List.pairwise_map] at p
    exact p.imp fun {a b} q => ltPZ_iff.mpr q
  · rintro ⟨h1, h2⟩
    refine ⟨fun x hx => gBlk_bz.mpr (h1 x hx), ascK_pw ?_⟩
    rw [List.pairwise_map]
    exact h2.imp fun {a b} q => ltPZ_K.mp q
theorem in_orderZ : ∀ {us : List PZ}, (us.map (·.1)).Nodup → ∃ L, L.Perm us ∧ srtZ L
  | [], _ => ⟨[], .nil, .nil⟩
  | x :: r, h => by
    rw [List.map_cons, List.nodup_cons] at h
    obtain ⟨L, p, s⟩ := in_orderZ h.2
    refine ⟨insZ x L, ?_, srt_insZ s⟩
    refine (List.perm_ext_iff_of_nodup (nd_keys (srtZ_keys (srt_insZ s))) (List.nodup_cons.mpr ⟨fun q => h.1 (List.mem_map.mpr ⟨x, q, rfl⟩), nd_keys h.2⟩)).mpr fun y => ?_
    rw [mem_insZ s, List.mem_cons, p.mem_iff]
    constructor
    · rintro (q | ⟨q, _⟩)
      · exact .inl q
      · exact .inr q
    · rintro (q | q)
      · exact .inl q
      · exact .inr ⟨q, fun e => h.1 (by rw [← e]; exact List.mem_map.mpr ⟨y, q, rfl⟩)⟩
end Hs
namespace Hk
open PySem PySem.Spec PyProof.Rows L2
abbrev II : Type := Int × Int
def ltII (p q : II) : Bool := if p.1 = q.1 then decide (p.2 < q.2) else decide (p.1 < q.1)
theorem ltII_iff {p q : II} : ltII p q = true ↔ p.1 < q.1 ∨ (p.1 = q.1 ∧ p.2 < q.2) := by
  unfold ltII
  by_cases e : p.1 = q.1
  · rw [if_pos e, decide_eq_true_eq]
    omega
  · rw [if_neg e, decide_eq_true_eq]
    omega
theorem ltII_no {p q : II} : ltII p q = false ↔ ¬ (p.1 < q.1 ∨ (p.1 = q.1 ∧ p.2 < q.2)) := by
  rw [← ltII_iff]
  cases ltII p q <;> simp
theorem swo_ii {α : Type} (k : α → II) : SrtO.Swo fun v u => ltII (k v) (k u) := by
  refine ⟨fun x y h => ?_, fun x y z h1 h2 => ?_⟩
  · rw [ltII_iff] at h
    rw [ltII_no]
    omega
  · rw [ltII_no] at *
    omega
abbrev keyNN (p : II) : List L2.Key := [Sum.inl p.1, Sum.inl p.2]
/-- a tuple of a text and an integer -/
def IsII (h : Heap) (v : Value) (p : II) : Prop := ∃ (a : Addr) (o : Obj) (t u : Tok) (n : Nat), v = .ref a ∧ h.get? a = some o ∧ o.cls = .type "tuple" ∧ o.data = .seq #[.int p.1 t, .int p.2 u] n
theorem IsII.keeps {h h' : Heap} {v : Value} {p : II} (x : IsII h v p) (k : ∀ b o, h.get? b = some o → o.cls = .type "tuple" → h'.get? b = some o) : IsII h' v p := by
  obtain ⟨a, o, t, u, n, e, ho, hc, hd⟩ := x
  exact ⟨a, o, t, u, n, e, k a o ho hc, hc, hd⟩
/-- what pair stands there -/
def iiOf (h : Heap) (v : Value) : II := match v with
  | .ref a => match h.get? a with
    | some o => match o.data with
      | .seq xs _ => match xs.toList with
        | [.int z _, .int i _] => (z, i)
        | _ => default
      | _ => default
    | none => default
  | _ => default
theorem IsII.of {h : Heap} {v : Value} {p : II} (x : IsII h v p) : iiOf h v = p := by
  obtain ⟨a, o, t, u, n, rfl, ho, hc, hd⟩ := x
  simp only [iiOf, ho, hd]
section
variable {prog : Program} {w : World} {A : Around} {s : Shared}
theorem ii_cmp {vs : List Value} {k : Value → II} (hp : ∀ v ∈ vs, IsII s.heap v (k v)) : SrtO.Cmp prog w A s (tuples' true) (fun p => p.1 ∈ vs) (SrtO.lt2 fun v u => ltII (k v) (k u)) := by
  intro p q hm hm'
  have h1 := hp _ hm
  have h2 := hp _ hm'
  show wpAny (model prog w) A (keyLt' (tuples' true) p.1 q.1) (fun r s' => s' = s ∧ r = ltII (k p.1) (k q.1)) (fun _ _ => False) s
  generalize k p.1 = x at h1 ⊢
  generalize k q.1 = y at h2 ⊢
  obtain ⟨a, o, t, u, n, e, ho, hc, hd⟩ := h1
  obtain ⟨a', o', t', u', n', e', ho', hc', hd'⟩ := h2
  rw [e, e']
  refine PySem.W.kat_lt ho hd ho' hd' ?_
  show PySem.W.KatLex prog w A true (decide (2 < 2)) _ [(.int x.1 t, .int y.1 t'), (.int x.2 u, .int y.2 u')] 0 s
  refine PySem.W.kat_cons (SeqAt.EqAt.int_int x.1 t y.1 t' prog w _ _ ?_)
  refine PySem.W.kat_go (fun e1 => ?_) (fun e1 => ?_)
  · have ex : x.1 = y.1 := eq_of_beq e1
    have ef : ltII x y = decide (x.2 < y.2) := by unfold ltII; rw [if_pos ex]
    refine PySem.W.kat_yes (PySem.W.kat_cons (SeqAt.EqAt.int_int x.2 u y.2 u' prog w _ _ ?_))
    refine PySem.W.kat_go (fun e2 => ?_) (fun e2 => ?_)
    · have ey : x.2 = y.2 := eq_of_beq e2
      exact PySem.W.kat_yes (PySem.W.kat_nil ⟨rfl, by rw [ef, ey]; simp⟩)
    · refine PySem.W.kat_no (PySem.W.kat_one _ _ (PyProof.Rows.lt_int ?_))
      exact (show s = s ∧ decide (x.2 < y.2) = ltII x y from ⟨rfl, ef.symm⟩)
  · have ex : ¬ x.1 = y.1 := fun q => by
      rw [q] at e1
      simp at e1
    have ef : ltII x y = decide (x.1 < y.1) := by unfold ltII; rw [if_neg ex]
    exact PySem.W.kat_no (PyProof.Rows.oneLt_int (show s = s ∧ decide (x.1 < y.1) = ltII x y from ⟨rfl, ef.symm⟩))
theorem ii_firsts {h : Heap} {k : Value → II} : ∀ vs : List Value, (∀ v ∈ vs, IsII h v (k v)) → ∃ fs : List Value, PySem.W.KatTups h vs fs ∧ fs.length = vs.length ∧ ∀ f ∈ fs, ∃ (z : Int) (t : Tok), f = Value.int z t
  | [], _ => ⟨[], PySem.W.KatTups.nil, rfl, fun f hf => nomatch hf⟩
  | v :: vs, x => by
    obtain ⟨fs, g, hl, hi⟩ := ii_firsts vs fun u hu => x u (List.mem_cons_of_mem _ hu)
    obtain ⟨a, o, t, u, n, e, ho, hc, hd⟩ := x v (List.mem_cons_self ..)
    refine ⟨.int (k v).1 t :: fs, ⟨⟨a, o, _, n, e, ho, hc, hd, rfl⟩, g⟩, by rw [List.length_cons, List.length_cons, hl], fun f hf => ?_⟩
    rcases List.mem_cons.mp hf with rfl | hf
    · exact ⟨_, _, rfl⟩
    · exact hi f hf
theorem ii_sortable {a : Addr} {vs : List Value} {k : Value → II} (h0 : 0 < vs.length) (hp : ∀ v ∈ vs, IsII s.heap v (k v)) (ha : ∀ o, s.heap.get? a = some o → o.cls ≠ .type "tuple") : SrtO.SortableO prog w A s a vs fun v u => ltII (k v) (k u) := by
  intro h' keep
  have hp' : ∀ v ∈ vs, IsII h' v (k v) := fun v hm => (hp v hm).keeps fun b o e c => keep b o (fun z => by subst z; exact ha o e c) e
  obtain ⟨fs, h1, h2, h3⟩ := ii_firsts vs hp'
  refine ⟨tuples' true, fun Q E hq => ?_, ii_cmp hp'⟩
  refine PySem.W.kat_kind (T := .type "int") h1 (by omega) (fun f hm => ?_) (by rfl) ?_
  · obtain ⟨x, t, rfl⟩ := h3 f hm
    exact PySem.W.Looks.now
  · have e : (Value.type "int" != Value.type "tuple") = true := by first | decide +kernel | rfl | decide
    rw [e]
    exact hq
end
section
variable {X : Cx}
/-- sorted(d): the keys' own tuples, in a new list -/
def rSortDN : List V → Hp → VK → Prop := fun xs H Q => ∃ (a : Addr) (kvs : List (List L2.Key × V)) (ks : List II), xs = [.ref a] ∧ H a = some (.dT kvs) ∧ kvs.map (·.1) = ks.map keyNN ∧
  ∀ (zs : List (Addr × II)) (p : Addr), (zs.map (·.2)).Perm ks → (zs.map (·.2)).Pairwise (fun x y => ltII y x = false) → (∀ z ∈ zs, H z.1 = some (.tup [.int z.2.1, .int z.2.2])) → H p = none → Q (.ref p) (upd H p (.lst (zs.map fun z => V.ref z.1)))
theorem vals_refsN : ∀ zs : List (Addr × II), Vals (zs.map fun z => V.ref z.1) (zs.map fun z => Value.ref z.1)
  | [] => .nil
  | z :: zs => .cons rfl (vals_refsN zs)
theorem cr_sortDN (hc : X.calm = true) : CallR X (.builtin "sorted") rSortDN := by
  intro pins s σ H xs us Q I r h
  obtain ⟨a, kvs, ks, rfl, ha, hks, q⟩ := h
  obtain rfl := Vals.ref1 r
  obtain ⟨z, lo, xs', rel, o, es, ep, ho, hx, hdat, hes, his, hn⟩ := dt_of I.hok ha
  have l1 : kvs.length = xs'.length := Paired.length rel
  have l2 : es.size = xs'.length := size_of_entries hes
  have l3 : kvs.length = ks.length := by
    have e := congrArg List.length hks
    rw [List.length_map, List.length_map] at e
    exact e
  have h16 : es.size ≤ sizeLine := by omega
  refine Calls.call_function_entry PyProof.Rows.kind_sorted PyProof.Rows.plain_sorted PyProof.Rows.entry_sorted (PyProof.Rows.args_sorted1 _) ?_
  unfold Builtin.«sorted»
  refine wpAny_bind (m := checkCount "sorted" 1 1 _) (wpAny_pure ?_)
  refine wpAny_bind (PySem.W.kdu_collect (A := X.A.in1) (kdl_dt lo hx hdat) (I.ok.hd hc) ho h16 fun h' tk acc hk hacc => ?_)
  -- each of them is a pair that is tracked
  have pr : ∀ (j : Nat) (v : Value), acc.toList[j]? = some v → ∃ (p : II) (b : Addr), ks[j]? = some p ∧ v = .ref b ∧ H b = some (.tup [.int p.1, .int p.2]) := by
    intro j v hj
    obtain ⟨en, he, rfl⟩ := hacc.2 j v (by rw [← Array.getElem?_toList]; exact hj)
    rw [entry_at hes j] at he
    cases hxj : xs'[j]? with
    | none =>
      rw [hxj] at he
      exact nomatch (show (none : Option DictEntry) = some en from he)
    | some x =>
      rw [hxj] at he
      have een : entryOfKey (tupleKind (mixKind X.prog X.w)) x = en := Option.some.inj he
      obtain ⟨e0, he0, r1, r2, r3⟩ := L2.DX.pget rel hxj
      have k0 : (kvs.map (·.1))[j]? = some e0.1 := by rw [List.getElem?_map, he0]; rfl
      rw [hks, List.getElem?_map] at k0
      cases hkj : ks[j]? with
      | none =>
        rw [hkj] at k0
        cases k0
      | some p =>
        rw [hkj] at k0
        have k1 : keyNN p = e0.1 := Option.some.inj k0
        refine ⟨p, x.2.1, rfl, by rw [← een]; rfl, ?_⟩
        rw [r2, ← k1]
        rfl
  have hS : ∀ v ∈ acc.toList, ∃ (p : II) (b : Addr), v = .ref b ∧ H b = some (.tup [.int p.1, .int p.2]) ∧ IsII s.heap v p := by
    intro v hv
    obtain ⟨j, hj⟩ := List.mem_iff_getElem?.mp hv
    obtain ⟨p, b, _, rfl, hb⟩ := pr j v hj
    refine ⟨p, b, rfl, hb, ?_⟩
    obtain ⟨_, its, rv, ot, hot, hct, nt, hdt⟩ := (show ObjOk X.prog X.w H s.heap b (.tup [.int p.1, .int p.2]) from I.hok b _ hb)
    obtain ⟨u1, u2, rfl, ⟨t1, rfl⟩, ⟨t2, rfl⟩⟩ := vals2 rv
    exact ⟨b, ot, t1, t2, nt, rfl, hot, hct, hdt⟩
  have hks2 : acc.toList.map (iiOf s.heap) = ks := by
    refine List.ext_getElem? fun j => ?_
    rw [List.getElem?_map]
    cases hj : acc.toList[j]? with
    | none =>
      have e1 : acc.size ≤ j := by rw [← Array.length_toList]; exact List.getElem?_eq_none_iff.mp hj
      rw [hacc.1] at e1
      rw [List.getElem?_eq_none (by omega)]
      rfl
    | some v =>
      obtain ⟨p, b, e1, rfl, hb⟩ := pr j v hj
      obtain ⟨p', b', e2, hb', si⟩ := hS _ (List.mem_of_getElem? hj)
      cases e2
      rw [hb] at hb'
      have e3 : p = p' := by
        have e4 := HO.tup.inj (Option.some.inj hb')
        injection e4 with e5 e6
        injection e6 with e7 e8
        exact Prod.ext (V.int.inj e5) (V.int.inj e7)
      rw [e1, e3]
      exact congrArg some si.of
  have hz : acc.toList.length ≤ sizeLine := by rw [Array.length_toList, hacc.1]; exact h16
  have I1 : Inv X pins σ H { s with heap := h', toks := tk } := I.kept hk
  refine wpAny_bind (wpAny_newList ?_ hz)
  have hoL : (h'.push (seqObj "list" acc.toList.toArray 0)).get? h'.objs.size = some (seqObj "list" acc.toList.toArray 0) := Heap.get?_push_size _ rfl
  have kb : ∀ b ob, s.heap.get? b = some ob → (h'.push (seqObj "list" acc.toList.toArray 0)).get? b = some ob := fun b ob e => Heap.get?_push_of_some _ (hk b ob e)
  show wpAny _ _ _ _ _ { s with heap := h'.push (seqObj "list" acc.toList.toArray 0), toks := tk }
  refine wpAny_bind (wpAny_holding (wpAny_call_entry PyProof.Rows.slot_list_sort ⟨_, hoL, rfl⟩ PyProof.Rows.entry_list_sort
    (SrtO.list_sort_ord (s := { s with heap := h'.push (seqObj "list" acc.toList.toArray 0), toks := tk }) (swo_ii (iiOf s.heap)) hoL hz (fun h2 => ii_sortable (by omega) (fun v hv => ?_) fun ob e c => ?_) fun out hs hb => ⟨_, rfl, ?_⟩)
    (PyProof.Rows.args_list_sort _)))
  · obtain ⟨p, b, e, _, si⟩ := hS v hv
    rw [si.of]
    exact si.keeps fun b ob e _ => kb b ob e
  · have e' : some ob = some (seqObj "list" acc.toList.toArray 0) := e.symm.trans hoL
    cases e'
    exact absurd (Value.type.inj c) (by decide)
  obtain ⟨e', he'⟩ := PyProof.Rows.sortedHeap_at (vs := acc.toList) (out := out.toArray) hoL
  have ho3 : ∀ v ∈ out, ∃ (p : II) (b : Addr), v = .ref b ∧ H b = some (.tup [.int p.1, .int p.2]) ∧ IsII s.heap v p := fun v hv => hS v (hb.perm.mem_iff.mp hv)
  have hout : (out.map fun v => (adOf v, iiOf s.heap v)).map (fun z => Value.ref z.1) = out := by
    rw [List.map_map]
    refine (List.map_congr_left fun v hv => ?_).trans (List.map_id _)
    obtain ⟨p, b, rfl, _⟩ := ho3 v hv
    rfl
  have hlen : ((out.map fun v => (adOf v, iiOf s.heap v)).map fun z => V.ref z.1).length ≤ sizeLine := by
    rw [List.length_map, List.length_map, hb.perm.length_eq]
    exact hz
  refine wpAny_pure ⟨_, rfl, .ref h'.objs.size, upd H h'.objs.size (.lst ((out.map fun v => (adOf v, iiOf s.heap v)).map fun z => V.ref z.1)), I1.laid (t' := tk) (fun b u e => ?_) (Nat.le_refl _)
    (show ObjOk X.prog X.w _ _ _ (.lst _) from ⟨hlen, out, e', ?_, he'⟩), rfl, q _ _ ?_ ?_ ?_ (I1.hok.fresh (Nat.le_refl _))⟩
  · have hb : b < h'.objs.size := Heap.lt_size e
    rw [PyProof.Rows.sortedHeap_old (Nat.ne_of_lt hb) (by rw [size_push']; exact Nat.lt_succ_of_lt hb)]
    exact Heap.get?_push_of_some _ e
  · have := vals_refsN (out.map fun v => (adOf v, iiOf s.heap v))
    rw [hout] at this
    exact this
  · rw [List.map_map, ← hks2]
    exact hb.perm.map _
  · rw [List.map_map, List.pairwise_map]
    exact hs
  · intro z hz'
    obtain ⟨v, hv, rfl⟩ := List.mem_map.mp hz'
    obtain ⟨p, b, rfl, hb2, si⟩ := ho3 v hv
    rw [si.of]
    exact hb2
end
end Hk
namespace Hs
open PySem PySem.Spec PyProof.Rows L2 Hu Evl
open Hk (PZ ltPZ ltPZ_iff ltPZ_no entZ II ltII ltII_iff ltII_no keyNN rSortDN cr_sortDN)
def BzU (x : PZ) : Prop := (okZ x ∧ (TL.tl x.2).all okS = true) ∧ 1 ≤ x.1.1 ∧ x.1.1 ≤ 99 ∧ 1 ≤ x.1.2 ∧ x.1.2 ≤ 10 ^ 11
def BksU (u : U) : Prop := ∃ ps : List PZ, u = .tup (ps.map bzU) ∧ (∀ x ∈ ps, BzU x) ∧ srtZ ps ∧ ps.length ≤ 7
theorem valV_ent {p : PZ} : ∀ {ps : List PZ}, (ps.map (·.1)).Nodup → p ∈ ps → valV (ps.map entZ) (kP p.1) = some (.str p.2)
  | [], _, h => by cases h
  | a :: r, nd, h => by
    rw [List.map_cons, List.nodup_cons] at nd
    rw [List.map_cons]
    rcases List.mem_cons.mp h with rfl | h
    · exact valV_pos rfl
    · rw [valV_neg fun e => nd.1 (List.mem_map.mpr ⟨p, h, (kP_inj e).symm⟩)]
      exact valV_ent nd.2 h
theorem ids_tell {us L : List PZ} {zs : List II} (hp : L.Perm us) (hs : srtZ L) (pz : zs.Perm (us.map (·.1))) (sz : zs.Pairwise fun x y => ltII y x = false) : zs = L.map (·.1) := by
  refine List.Perm.eq_of_pairwise (le := fun x y : II => ltII y x = false) (fun a b _ _ h1 h2 => ?_) sz ?_ (pz.trans (hp.map _).symm)
  · rw [ltII_no] at h1 h2
    exact Prod.ext (by omega) (by omega)
  · rw [List.pairwise_map]
    refine hs.imp fun {a b} h => ?_
    rw [ltPZ_iff] at h
    rw [ltII_no]
    omega
section
variable {P : Program} {wd : World} {K : PySem.W.Frag} {mg : Str → Option Value} {base : Heap} {C : Addr} {fD : Addr} {dD : FuncData}
theorem at_id {w : Addr} {H : Hp} {b : Addr} {i j : Int} (hw : ∃ l, H w = some (.lst l)) (h : H b = some (.tup [.int i, .int j])) : At w C H (.ref b) (.tup [.int i, .int j]) :=
  .tup (Tu.of h (isB_first rfl)) (fun e => by obtain ⟨l, q⟩ := hw; rw [← e, h] at q; cases q) (.cons (.int _) (.cons (.int _) .nil))
/-- tuple([(one, found[one]) for one in sorted(found)]) -/
theorem ed_blocks {w : Addr} {σ : L2.St} {H : Hp} {dv j : Nat} {a : Addr} {ps L : List PZ} (h0 : σ[dv]? = some (some (.ref a))) (h1 : ∀ x, ((wipe σ [j]).set j (some x))[dv]? = some (some (.ref a))) (h2 : ∀ x, ((wipe σ [j]).set j (some x))[j]? = some (some x))
    (h3 : ∀ x, wipe ((wipe σ [j]).set j (some x)) [j] = wipe σ [j]) (hd : H a = some (.dT (ps.map entZ))) (nd : (ps.map (·.1)).Nodup) (hp : L.Perm ps) (st : srtZ L) (hz : ps.length ≤ 40000) (hw : ∃ l, H w = some (.lst l)) :
    EvD w C (tCB (rTupO K) (tCons (tLc (iList K (tCB rSortDN (tCons (tVar dv) tNil))) (gName j) tYes (tTupF (tCons (tVar j) (tCons (tDGet (tVar dv) (tVar j)) tNil))) [j]) tNil)) σ H (.tup (L.map bzU)) := by
  have hw0 : ∃ o, H w = some o := by obtain ⟨l, h⟩ := hw; exact ⟨_, h⟩
  refine ed_tupL hw0 (lc_DL (K := K) (Rx := fun xs G => ∃ zs : List (Addr × II), xs = zs.map (fun z => V.ref z.1) ∧ zs.map (·.2) = L.map (·.1) ∧ ∀ z ∈ zs, G z.1 = some (.tup [.int z.2.1, .int z.2.2])) (fun H0 e Q q => ?_) (by rw [List.length_map, hp.length_eq]; exact hz) (fun u hu => by
    obtain ⟨x, _, rfl⟩ := List.mem_map.mp hu
    exact bzU_pln x) h3 fun xs G0 e0 hR => ?_)
  · refine ⟨_, h0, a, ps.map entZ, ps.map (·.1), rfl, e _ _ hd, by rw [List.map_map, List.map_map]; rfl, fun zs p pz sz ht hp0 => ?_⟩
    refine q p _ _ (Ex.new hp0) upd_same ⟨zs, rfl, ids_tell hp st pz ?_, fun z hz => Ex.new hp0 _ _ (ht z hz)⟩
    exact sz
  · obtain ⟨zs, rfl, hz2, ht⟩ := hR
    have hl : zs.length = L.length := by
      have := congrArg List.length hz2
      rwa [List.length_map, List.length_map] at this
    refine ⟨by rw [List.length_map, List.length_map, hl], fun i x u G hx hu eg => ?_⟩
    rw [List.getElem?_map] at hx hu
    cases e1 : zs[i]? with
    | none => rw [e1] at hx; cases hx
    | some z =>
      rw [e1] at hx
      cases hx
      cases e2 : L[i]? with
      | none => rw [e2] at hu; cases hu
      | some p =>
        rw [e2] at hu
        cases hu
        have e3 : z.2 = p.1 := by
          have := congrArg (fun l : List II => l[i]?) hz2
          simp only [List.getElem?_map, e1, e2] at this
          exact Option.some.inj this
        have hz1 := ht z (List.mem_of_getElem? e1)
        rw [e3] at hz1
        have hmem := hp.mem_iff.mp (List.mem_of_getElem? e2)
        have hv := valV_ent nd hmem
        have E1 := e0.trans eg
        have gd : Ev (tDGet (tVar dv) (tVar j)) ((wipe σ [j]).set j (some (.ref z.1))) G (.str p.2) := fun G1 g1 Q q => ⟨_, h1 _, _, h2 _, a, .str p.2, rfl, by
          have := DGet.t (k := kP p.1) ((E1.trans g1) _ _ hd) ((eg.trans g1) _ _ hz1)
          rw [hv] at this
          exact this, q G1 (Ex.refl G1)⟩
        exact ed_tup (hw0.imp fun o q => E1 _ _ q) (eds_cons (ed_ev (te := tVar j) (ev_var (h2 _)) (at_id (hw.imp fun l q => E1 _ _ q) (eg _ _ hz1))) (eds_cons (ed_ev gd (.str p.2)) eds_nil)) (by show (2 : Nat) ≤ 100000; decide)
theorem scBkH : FnScope ["hat", "pool", "found", "one"] ["hat", "pool"] (defScope lBlocks) := ⟨rfl, rfl, rfl, by decide +kernel, rfl, by decide +kernel, by decide +kernel⟩
set_option maxHeartbeats 1000000 in
theorem ok_blocksH {f f1 : Addr} {fd d1 : FuncData} (F : Fun K "_law_blocks" "_law_blocks" lBlocks f fd) (B : Bt mg) (Z : Bz mg) (D : Dd P wd K mg base fD dD) (D1 : Df K mg "_law_piece" lPieceL ["hat"] f1 d1) (G1 : FnOk P wd K mg base CX0 2 f1 d1 ["hat"] (spMk C PcU)) :
    FnOk P wd K mg base CX0 3 f fd ["hat", "pool"] (spMkA C PreP fun _ => BksU) := by
  refine F.ok scBkH (lenMkA preP_len rfl) (fun cdv A outer s H vs Q E hr h => ?_)
  obtain ⟨wl, xs, us, rfl, W, l, ⟨js, rfl, hjl, hjs⟩, k⟩ := h
  refine ⟨_, pss_cons (ps_set (i := 2) scBkH.nd rfl (.inr rfl) pe_dnewT)
    (pss_cons (ps_for PassesOwn.never rfl (pi_list (pv 1)) (pg_name (i := 3) scBkH.nd rfl (Or.inl rfl))
      (pss_one (ps_if (pt_cmpR op_gt (pe_draw D hr (by decide) (by rfl) (pv 0) pe_int) pe_int (nomark _))
        (pss_one (ps_asg (pe_call G1 hr (by rfl) D1.g D1.F.kp D1.b .nil pass0 (pa_cons (pv 0) pa_nil)) (pg_sub (pv 2) (pv 3) (set_dict (room_h1 hr))))) pss_nil)))
    (pss_one (ps_ret (pe_callTy call_tupF (by rfl) B.tup boot_tuple' (pa_cons (pe_lc (own := [("one", 3)]) (g := gName 3) (tt := tYes) rfl scBkH.nd (pi_list (pe_callB (show CallR _ _ rSortDN from cr_sortDN rfl) (by rfl) Z.sort boot_sorted' (pa_cons (pv 2) pa_nil)))
      (blkOk_by (N := ["hat", "pool", "found", "one"]) (sc := defScope lBlocks) (by decide +kernel)) (fun _ _ _ _ _ => pg_name (i := 3) scBkH.nd rfl (Or.inl rfl)) (fun _ _ _ _ _ => pts_nil)
      (fun _ _ _ _ _ => pe_tupF (pa_cons (pv 3) (pa_cons (pe_dget (room_h1 hr) (pv 2) (pv 3) (fun _ _ => rfl)) pa_nil)))) pa_nil))))), ?_⟩
  obtain ⟨x, rfl, ax⟩ := atl1 l
  obtain ⟨N, xs, rfl, hN, nN, lN⟩ := at_lst ax
  refine fun dd hD => ?_
  have nD := (W.ne hD).1
  dsimp only [gName]
  show tSeq _ _ _ [some (V.ref wl.w), some (.ref N), some (.ref dd), none] _
  have hlen := AtL.length lN
  refine q_forL (K := K) (xs := xs) (ev_var rfl) (SqL.of (by rw [upd_ne (ne_of_none hN hD)]; exact hN)) (fun i σ' H' => ∃ (x4 : Option V) (ps : List PZ), σ' = [some (.ref wl.w), some (.ref N), some (.ref dd), x4] ∧ Drawn wl H H' ∧ H' dd = some (.dT (ps.map entZ)) ∧ (ps.map (·.1)).Nodup ∧ (∀ x ∈ ps, BzU x) ∧ ps.length ≤ i)
    (fun H2 e2 => ⟨_, [], rfl, ((Drawn.refl W).new hD).same e2, e2 _ _ upd_same, .nil, fun u hu => (by cases hu), Nat.le_refl _⟩) (fun i σ' H' _ ⟨x4, ps, _, D1, _⟩ => SqL.of (D1.keep _ _ nN hN)) ?_ ?_
  · rintro i x σ' H1 hi ⟨x4, ps, rfl, D1, h1, nd, ok, ln⟩
    have hi' : i < js.length := by
      have := (List.getElem?_eq_some_iff.mp hi).1
      omega
    obtain ⟨x', hx', axn⟩ := AtL.get lN (List.getElem?_eq_getElem hi')
    rw [hi] at hx'
    cases hx'
    obtain ⟨ji, jj, ez, b1, b2, b3, b4⟩ := hjs js[i] (List.getElem_mem hi')
    rw [ez] at axn
    obtain ⟨b, ys, rfl, hb, nb, lb⟩ := at_tup axn
    obtain rfl : ys = [.int ji, .int jj] := by
      obtain ⟨y1, y2, e, c1, c2⟩ := atl2 lb
      rw [e, at_int c1, at_int c2]
    have hb' := hb.plain rfl
    show tIfS _ _ tNext _ [some (V.ref wl.w), some (.ref N), some (.ref dd), some (.ref b)] H1
    refine ⟨_, rfl, wl, 3, rfl, D1.well, by decide, by decide, fun d H2 d0 d1 D2 => ⟨_, _, rfl, rfl, _, rfl, ite2 (fun q => ?_) (fun q => ?_)⟩⟩
    · have D12 := D1.trans D2
      refine (ew_mk (C := C) (R := PcU) (wl := wl) rfl) H2 (.refl D2.well) _ fun v u H3 D3 a r => ?_
      obtain ⟨z, rfl, gz⟩ := r
      cases at_str a
      have D13 := D12.trans D3
      have h13 : H3 dd = some (.dT (ps.map entZ)) := D3.keep _ _ nD (D2.keep _ _ nD h1)
      have lenk : (ps.map entZ).length < sizeLine := sz_lt (by rw [List.length_map]; omega)
      have good : ∀ x ∈ putZ ps ((ji, jj), z), BzU x := fun x hx => by
        rcases mem_putZ.mp hx with rfl | ⟨hx, _⟩
        · exact ⟨⟨⟨gz.1, idOk ⟨b1, b2, b3⟩⟩, gz.2⟩, b1, b2, b3, b4⟩
        · exact ok x hx
      have len' : (putZ ps ((ji, jj), z)).length ≤ ps.length + 1 := by
        unfold putZ
        split
        · rw [List.length_map]; omega
        · rw [List.length_append]; exact Nat.le_refl _
      refine ⟨_, rfl, _, rfl, dd, _, rfl, DPut.t (k := kP (ji, jj)) h13 (D13.keep _ _ nb hb') lenk, _, _, rfl, D13.put W hD, ?_, putZ_keys nd, good, by omega⟩
      rw [upd_same, ← put_ent]
    · exact ⟨_, _, rfl, D1.trans D2, D2.keep _ _ nD h1, nd, ok, by omega⟩
  · rintro σ' H1 ⟨x4, ps, rfl, D1, h1, nd, ok, ln⟩
    obtain ⟨L, hp, st⟩ := in_orderZ nd
    obtain ⟨wx, wy, hwl, _⟩ := D1.well.ex
    refine (ed_blocks (K := K) (C := C) (w := wl.w) (dv := 2) (j := 3) rfl (fun _ => rfl) (fun _ => rfl) (fun _ => rfl) h1 nd hp st (by omega) ⟨_, hwl⟩) H1 (Ex.refl H1) _ fun v H2 e2 a2 => ?_
    exact k v _ H2 (D1.same e2) a2 ⟨L, rfl, fun x hx => ok x (hp.mem_iff.mp hx), st, by rw [hp.length_eq]; omega⟩
end
end Hs
namespace Hs
open PySem PySem.Spec PyProof.Rows L2 Hu Evl
open Hk (SI ltSI)
section
variable {P : Program} {wd : World} {K : PySem.W.Frag} {mg : Str → Option Value} {base : Heap} {C : Addr} {fD : Addr} {dD : FuncData}
theorem P2.at_ {H : Hp} {xs : List V} {js : List (Int × Int)} (h : P2 H xs js) {i : Nat} {x : V} (hx : xs[i]? = some x) : ∃ p k, x = .ref p ∧ js[i]? = some k ∧ H p = some (.tup [.int k.1, .int k.2]) := h.get hx
end
end Hs
namespace Hs
open PySem PySem.Spec PyProof.Rows L2 Hu Evl
open Hk (SI ltSI)
def insL (k : SI) (v : Int × Int) : List Ls → List Ls
  | [] => [(k, v)]
  | l :: r => if k = l.1 then (k, v) :: r else if ltSI k l.1 = true then (k, v) :: l :: r else l :: insL k v r
theorem getL_ins {k j : SI} {v : Int × Int} : ∀ {L : List Ls}, getL (insL k v L) j = if j = k then some v else getL L j
  | [] => by
    unfold insL
    rw [getL_cons]
    by_cases h : k = j
    · rw [if_pos h, if_pos h.symm]
    · rw [if_neg h, if_neg fun e => h e.symm]
  | l :: r => by
    unfold insL
    by_cases q : k = l.1
    · rw [if_pos q, getL_cons, getL_cons]
      by_cases h : k = j
      · rw [if_pos h, if_pos h.symm]
      · rw [if_neg h, if_neg (fun e => h e.symm), if_neg fun e => h (q.trans e)]
    · rw [if_neg q]
      by_cases z : ltSI k l.1 = true
      · rw [if_pos z, getL_cons]
        by_cases h : k = j
        · rw [if_pos h, if_pos h.symm]
        · rw [if_neg h, if_neg fun e => h e.symm]
      · rw [if_neg z, getL_cons, getL_cons, getL_ins]
        by_cases h : l.1 = j
        · rw [if_pos h, if_pos h, if_neg fun e => q (e.symm.trans h.symm)]
        · rw [if_neg h, if_neg h]
theorem keys_ins {k : SI} {v : Int × Int} : ∀ {L : List Ls}, ∀ j ∈ (insL k v L).map (·.1), j = k ∨ j ∈ L.map (·.1)
  | [], j, h => by
    simp [insL] at h
    exact .inl h
  | l :: r, j, h => by
    unfold insL at h
    by_cases q : k = l.1
    · rw [if_pos q, List.map_cons] at h
      rcases List.mem_cons.mp h with h | h
      · exact .inl h
      · exact .inr (List.mem_cons_of_mem _ h)
    · rw [if_neg q] at h
      by_cases z : ltSI k l.1 = true
      · rw [if_pos z, List.map_cons] at h
        rcases List.mem_cons.mp h with h | h
        · exact .inl h
        · exact .inr h
      · rw [if_neg z, List.map_cons] at h
        rcases List.mem_cons.mp h with h | h
        · exact .inr (by rw [h]; exact List.mem_cons_self ..)
        · rcases keys_ins j h with h | h
          · exact .inl h
          · exact .inr (List.mem_cons_of_mem _ h)
theorem srt_ins {k : SI} {v : Int × Int} : ∀ {L : List Ls}, srt L → srt (insL k v L)
  | [], _ => by simp [insL, srt]
  | l :: r, h => by
    have h0 := h
    unfold srt at h
    rw [List.map_cons, List.pairwise_cons] at h
    unfold insL
    by_cases q : k = l.1
    · rw [if_pos q]
      unfold srt
      rw [List.map_cons, List.pairwise_cons]
      exact ⟨by rw [q]; exact h.1, h.2⟩
    · rw [if_neg q]
      by_cases z : ltSI k l.1 = true
      · rw [if_pos z]
        unfold srt
        rw [List.map_cons, List.pairwise_cons]
        refine ⟨fun j hj => ?_, h0⟩
        rcases List.mem_cons.mp hj with e | hj
        · rw [e]
          exact z
        · exact Hk.ltSI_trans z (h.1 j hj)
      · rw [if_neg z]
        unfold srt
        rw [List.map_cons, List.pairwise_cons]
        refine ⟨fun j hj => ?_, srt_ins h.2⟩
        rcases keys_ins j hj with e | hj
        · rw [e]
          rcases Hk.ltSI_tri l.1 k with a | a | a
          · exact a
          · exact absurd a.symm q
          · exact absurd a z
        · exact h.1 j hj
theorem len_ins (k : SI) (v : Int × Int) : ∀ L : List Ls, (insL k v L).length ≤ L.length + 1
  | [] => Nat.le_refl _
  | l :: r => by
    unfold insL
    by_cases q : k = l.1
    · rw [if_pos q]
      exact Nat.le_succ _
    · rw [if_neg q]
      by_cases z : ltSI k l.1 = true
      · rw [if_pos z]
        exact Nat.le_refl _
      · rw [if_neg z]
        exact Nat.succ_le_succ (len_ins k v r)
end Hs
namespace Hs
open PySem PySem.Spec PyProof.Rows L2 Hu Evl
open Hk (SI ltSI)
abbrev lLeases : Stmt := topS 160
def sortL : List Ls → List Ls
  | [] => []
  | l :: r => insL l.1 l.2 (sortL r)
theorem srt_sortL : ∀ L : List Ls, srt (sortL L)
  | [] => List.Pairwise.nil
  | l :: r => srt_ins (srt_sortL r)
theorem getL_sortL (k : SI) : ∀ L : List Ls, getL (sortL L) k = getL L k
  | [] => rfl
  | l :: r => by
    show getL (insL l.1 l.2 (sortL r)) k = _
    rw [getL_ins, getL_sortL k r, getL_cons]
    by_cases h : k = l.1
    · rw [if_pos h, if_pos h.symm]
    · rw [if_neg h, if_neg fun e => h e.symm]
theorem len_sortL : ∀ L : List Ls, (sortL L).length ≤ L.length
  | [] => Nat.le_refl _
  | l :: r => Nat.le_trans (len_ins _ _ _) (Nat.succ_le_succ (len_sortL r))
theorem mem_of_get {A B : List Ls} (n : ndK A) (h : ∀ k, getL A k = getL B k) : ∀ l ∈ A, l ∈ B := fun l hl => by
  have e := getL_of n hl
  rw [h] at e
  exact getL_mem e
theorem len_of_get {A B : List Ls} (na : ndK A) (nb : ndK B) (hg : ∀ k, getL A k = getL B k) : A.length = B.length := by
  have p : (A.map (·.1)).Perm (B.map (·.1)) := by
    refine (List.perm_ext_iff_of_nodup na nb).mpr fun x => ?_
    have key : ∀ {A B : List Ls}, (∀ k, getL A k = getL B k) → x ∈ A.map (·.1) → x ∈ B.map (·.1) := fun {A B} h m => by
      obtain ⟨l, hl, rfl⟩ := List.mem_map.mp m
      cases g : getL A l.1 with
      | none => exact absurd rfl (getL_none.mp g l hl)
      | some v =>
        rw [h] at g
        exact List.mem_map.mpr ⟨_, getL_mem g, rfl⟩
    exact ⟨key hg, key fun k => (hg k).symm⟩
  have := p.length_eq
  rwa [List.length_map, List.length_map] at this
section
variable {P : Program} {wd : World} {K : PySem.W.Frag} {mg : Str → Option Value} {base : Heap} {C : Addr} {fD : Addr} {dD : FuncData}
/-- tuple([key + held[key] for key in sorted(held)]) -/
theorem ed_order {w : Addr} {σ : L2.St} {H : Hp} {dv j : Nat} {a : Addr} {kvs : List (List L2.Key × V)} {L L' : List Ls} (h0 : σ[dv]? = some (some (.ref a))) (h1 : ∀ x, ((wipe σ [j]).set j (some x))[dv]? = some (some (.ref a))) (h2 : ∀ x, ((wipe σ [j]).set j (some x))[j]? = some (some x))
    (h3 : ∀ x, wipe ((wipe σ [j]).set j (some x)) [j] = wipe σ [j]) (hd : H a = some (.dT kvs)) (dl : Dl H kvs L) (nd : ndK L) (st : srt L') (hg : ∀ k, getL L' k = getL L k) (hz : L.length ≤ 40000) (hw : ∃ o, H w = some o) :
    EvD w C (tCB (rTupO K) (tCons (tLc (iList K (tCB Hk.rSortDT (tCons (tVar dv) tNil))) (gName j) tYes (tOp (rCatF K) (tVar j) (tDGet (tVar dv) (tVar j))) [j]) tNil)) σ H (.tup (L'.map lsU)) := by
  have lenL := len_of_get (srt_nd st) nd hg
  refine ed_tupL hw (lc_DL (K := K) (Rx := fun xs G => ∃ zs : List (Addr × SI), xs = zs.map (fun z => V.ref z.1) ∧ byKeys L (zs.map (·.2)) = L' ∧ ∀ z ∈ zs, G z.1 = some (.tup [.str z.2.1, .int z.2.2])) (fun H0 e Q q => ?_) ?_ ?_ h3 fun xs G0 e0 hR => ?_)
  · refine ⟨_, h0, a, kvs, L.map (·.1), rfl, e _ _ hd, dl.keys, fun zs p hperm hs ht hp => ?_⟩
    refine q p _ _ (Ex.new hp) upd_same ⟨zs, rfl, ?_, fun z hz => Ex.new hp _ _ (ht z hz)⟩
    obtain ⟨b1, b2⟩ := byKeys_srt nd hperm hs
    exact srt_uniq b1 st fun k => (b2 k).trans (hg k).symm
  · rw [List.length_map, lenL]
    exact hz
  · intro u hu
    obtain ⟨l, _, rfl⟩ := List.mem_map.mp hu
    exact lsU_pln l
  · obtain ⟨zs, rfl, hb, ht⟩ := hR
    refine ⟨by rw [List.length_map, List.length_map, ← hb, byKeys_len, List.length_map], fun i x u G hx hu eg => ?_⟩
    rw [List.getElem?_map] at hx hu
    cases e1 : zs[i]? with
    | none => rw [e1] at hx; cases hx
    | some z =>
      rw [e1] at hx
      cases hx
      have hz1 := ht z (List.mem_of_getElem? e1)
      have e2 : L'[i]? = some (z.2, (getL L z.2).getD (0, 0)) := by
        rw [← hb]
        unfold byKeys
        rw [List.getElem?_map, List.getElem?_map, e1]
        rfl
      rw [e2] at hu
      have hu' : lsU (z.2, (getL L z.2).getD (0, 0)) = u := Option.some.inj hu
      subst hu'
      have hm : getL L z.2 = some ((getL L z.2).getD (0, 0)) := by
        have := getL_of (srt_nd st) (List.mem_of_getElem? e2)
        rw [hg] at this
        rw [this]
        rfl
      obtain ⟨p, hv, hp⟩ := dl.vsome hm
      refine fun G1 g1 Q q => ⟨.ref z.1, h2 _, .ref a, h1 _, .ref z.1, h2 _, a, .ref p, rfl, ?_, ?_⟩
      · have := DGet.t (k := Hk.keySI z.2) ((e0.trans (eg.trans g1)) _ _ hd) ((eg.trans g1) _ _ hz1)
        rw [hv] at this
        exact this
      · refine ⟨z.1, p, _, _, rfl, rfl, st_of ((eg.trans g1) _ _ hz1), st_of ((e0.trans (eg.trans g1)) _ _ hp), sz_of (by show (4 : Nat) ≤ 100000; decide), fun h => (by cases h), fun _ h => (by cases h), fun _ _ => newT_data (w := w) (C := C) (us := [.str z.2.1, .int z.2.2, .int ((getL L z.2).getD (0, 0)).1, .int ((getL L z.2).getD (0, 0)).2]) (hw.imp fun o z => (e0.trans (eg.trans g1)) _ _ z) (.cons (.str _) (.cons (.int _) (.cons (.int _) (.cons (.int _) .nil)))) fun v G3 e3 a3 => ?_⟩
        exact q v G3 e3 a3
section
variable {σ : L2.St} {H : Hp} {tp : TE} {tu tz : TS} {D : Ends}
theorem q_forRX {j : Nat} {R : Nat → Hp → Prop} (made : ∀ Q : VK, (∀ n H', R n H' → Q (.int (n : Int)) H') → tp σ H Q) (hn : ∀ n H', R n H' → n ≤ 100000) (Pv : Nat → Nat → L2.St → Hp → Prop) (h0 : ∀ n H', R n H' → Pv n 0 σ H')
    (hs : ∀ n (i : Nat) σ' H', i < n → Pv n i σ' H' → tu { D with nx := Pv n (i + 1), ct := Pv n (i + 1), bk := tz D } (σ'.set j (some (.int (i : Int)))) H') (hd : ∀ n σ' H', Pv n n σ' H' → tz D σ' H') : tSeq (tFor (iRng1 (tCons tp tNil)) (gName j) tu) tz D σ H :=
  made (fun x H1 => tNil σ H1 fun xs H2 => ∃ j' : Int, x :: xs = [.int j'] ∧ -(2 ^ 62) ≤ j' ∧ j' < 2 ^ 62 ∧ _) fun n H1 r => by
    have hb := hn n H1 r
    refine ⟨(n : Int), rfl, by omega, by omega, for_range (D := { D with nx := tz D }) (lo := 0) (n := n) (Pv n) (h0 n H1 r) (fun i σ' H' hi p => ?_) (fun σ' H' p => hd n σ' H' p)⟩
    have e0 : (0 : Int) + (i : Int) = (i : Int) := Int.zero_add _
    show tu { D with nx := Pv n (i + 1), ct := Pv n (i + 1), bk := tz D } (σ'.set j (some (.int ((0 : Int) + (i : Int))))) H'
    rw [e0]
    exact hs n i σ' H' (by omega) p
end
theorem drawn_tups {wl : WA} {H H' : Hp} (W : Well H wl) (D : Drawn wl H H') : ∀ b zs, H b = some (.tup zs) → H' b = some (.tup zs) := fun b zs h => D.keep _ _ (not_well W h) h
end
end Hs
namespace Hs
open PySem PySem.Spec PyProof.Rows L2 Hu Evl
open Hk (SI ltSI)
structure LOk (l : Ls) : Prop where
  n : gNam (.str l.1.1) = true
  h : 1 ≤ l.1.2 ∧ l.1.2 ≤ 99
  t : 0 ≤ l.2.1 ∧ l.2.1 < 6
  u : 0 ≤ l.2.2 ∧ l.2.2 < 10 ^ 12
def LesU (u : U) : Prop := ∃ L : List Ls, u = .tup (L.map lsU) ∧ srt L ∧ L.length ≤ 4 ∧ ∀ l ∈ L, LOk l
def PreNC (us : List U) : Prop := ∃ (ns : List U) (c : Int), us = [.lst ns, .int c] ∧ NmsU ns ∧ 0 ≤ c ∧ c ≤ 10 ^ 11
theorem preNC_len : ∀ us, PreNC us → us.length = 2 := fun us ⟨ns, c, e, _⟩ => by rw [e]; rfl
section
variable {wl : WA} {σ : L2.St} {H : Hp} {te : TE} {lo hi : Int} {C : Addr} {R1 R2 : U → Prop}
theorem ei_max0 (h : EvI wl te σ H lo hi) (hh : 0 < hi) : EvI wl (tCB rMax2 (tCons (tC (.int 0)) (tCons te tNil))) σ H 0 hi := fun H1 D1 Q q => h H1 D1 _ fun j H2 D2 b1 b2 => ⟨0, j, rfl, by
  split
  · exact q j H2 D2 (by omega) b2
  · exact q 0 H2 D2 (by omega) hh⟩
theorem len2_le {A B : U → Prop} : ∀ us : List U, (∃ u r, us = u :: r ∧ A u ∧ ∃ u' r', r = u' :: r' ∧ B u' ∧ r' = []) → us.length ≤ 100000 := fun us h => by
  obtain ⟨u, r, rfl, _, u', r', rfl, _, rfl⟩ := h
  show (2 : Nat) ≤ 100000
  decide
end
section
variable {P : Program} {wd : World} {K : PySem.W.Frag} {mg : Str → Option Value} {base : Heap} {C : Addr} {fD : Addr} {dD : FuncData}
theorem scLeH : FnScope ["hat", "names", "clock", "found", "k", "held"] ["hat", "names", "clock"] (defScope lLeases) := ⟨rfl, rfl, rfl, by decide +kernel, rfl, by decide +kernel, by decide +kernel⟩
set_option maxHeartbeats 1000000 in
theorem ok_leasesH {f : Addr} {fd : FuncData} (F : Fun K "_law_leases" "_law_leases" lLeases f fd) (B : Bt mg) (Z : Bz mg) (bm : mg "max" = none) (D : Dd P wd K mg base fD dD) : FnOk P wd K mg base CX0 2 f fd ["hat", "names", "clock"] (spMkA C PreNC fun _ => LesU) := by
  refine F.ok scLeH (lenMkA preNC_len rfl) (fun cdv A outer s H vs Q E hr h => ?_)
  obtain ⟨wl, xs, us, rfl, W, l, ⟨ns, c, rfl, ⟨n1, n2, hns⟩, c0, c1⟩, k⟩ := h
  refine ⟨_, pss_cons (ps_set (i := 3) scLeH.nd rfl (.inr rfl) pe_dnewT)
    (pss_cons (ps_for PassesOwn.never rfl (pi_range1 (by rfl) B.range (pa_cons (pe_ix (show IxR _ (rIxL K) from ix_list) (pe_lst (pa_cons pe_int (pa_cons pe_int (pa_cons pe_int (pa_cons pe_int (pa_cons pe_int pa_nil)))))) (pe_draw D hr (by decide) (by rfl) (pv 0) pe_int) (fun _ _ => rfl)) pa_nil)) (pg_name (i := 4) scLeH.nd rfl (Or.inl rfl))
      (pss_cons (ps_set (i := 5) scLeH.nd rfl (.inl rfl) (pe_tupF (pa_cons (pe_ix (show IxR _ (rIxL K) from ix_list) (pv 1) (pe_draw D hr (by decide) (by rfl) (pv 0) (pe_callB (show CallR _ _ (rLenQ K) from call_len_seq) (by rfl) B.len PySem.boot_len (pa_cons (pv 1) pa_nil))) (fun _ _ => rfl)) (pa_cons (pe_op op_add pe_int (pe_draw D hr (by decide) (by rfl) (pv 0) pe_int)) pa_nil))))
      (pss_one (ps_asg (pe_tupF (pa_cons (pe_draw D hr (by decide) (by rfl) (pv 0) pe_int) (pa_cons (pe_callB (call_max2 rfl) (by rfl) bm boot_max' (pa_cons pe_int (pa_cons (pe_op op_sub (pe_op op_add (pv 2) (pe_draw D hr (by decide) (by rfl) (pv 0) pe_int)) pe_int) pa_nil))) pa_nil)))
        (pg_sub (pv 3) (pv 5) (set_dict (room_h1 hr)))))))
    (pss_one (ps_ret (pe_callTy call_tupF (by rfl) B.tup boot_tuple' (pa_cons (pe_lc (own := [("held", 5)]) (g := gName 5) (tt := tYes) rfl scLeH.nd (pi_list (pe_callB (Hk.cr_sortDT rfl) (by rfl) Z.sort boot_sorted' (pa_cons (pv 3) pa_nil)))
      (blkOk_by (N := ["hat", "names", "clock", "found", "k", "held"]) (sc := defScope lLeases) (by decide +kernel)) (fun _ _ _ _ _ => pg_name (i := 5) scLeH.nd rfl (Or.inl rfl)) (fun _ _ _ _ _ => pts_nil)
      (fun _ _ _ _ _ => pe_op (show OpR _ _ (rCatF K) from op_catF) (pv 5) (pe_dget (room_h1 hr) (pv 3) (pv 5) (fun _ _ => rfl)))) pa_nil))))), ?_⟩
  obtain ⟨x, y, rfl, ax, ay⟩ := atl2 l
  cases at_int ay
  have hN := ax
  refine fun dd hD => ?_
  have nD := (W.ne hD).1
  dsimp only [gName]
  show tSeq _ _ _ [some (V.ref wl.w), some x, some (.int c), some (.ref dd), none, none] _
  have W1 := W.same (same_upd (o := .dT []) hD)
  refine q_forRX (R := fun n H' => n ≤ 4 ∧ Drawn wl H H' ∧ H' dd = some (.dT [])) ?md (fun n H' h => by omega) (fun n i σ' H' => n ≤ 4 ∧ ∃ (x4 x5 : Option V) (kvs : List (List L2.Key × V)) (L : List Ls), σ' = [some (.ref wl.w), some x, some (.int c), some (.ref dd), x4, x5] ∧ Drawn wl H H' ∧ H' dd = some (.dT kvs) ∧ Dl H' kvs L ∧ ndK L ∧ L.length ≤ i ∧ ∀ l ∈ L, LOk l)
    (fun n H' h => ⟨h.1, _, _, [], [], rfl, h.2.1, h.2.2, .nil, .nil, Nat.le_refl _, fun l hl => by cases hl⟩) ?_ ?_
  case md =>
    refine fun Q q => ei_pickE (wl := wl) (xs := [0, 0, 1, 2, 4]) (lo := 0) (hi := 5) (fun G => ea_cons ev_c (ea_cons ev_c (ea_cons ev_c (ea_cons ev_c (ea_cons ev_c ea_nil))))) (ei_draw rfl (by decide) (by decide)) (by decide) (by decide) _ (.refl W1) _ fun d H2 D2 d0 d1 => ?_
    have := q d.toNat H2 ⟨by omega, ((Drawn.refl W).new hD).trans D2, D2.keep _ _ nD upd_same⟩
    rw [show ((d.toNat : Nat) : Int) = d by omega] at this
    exact this
  · rintro n i σ' H1 hi ⟨hn3, x4, x5, kvs, L, rfl, D1, h1, dl, nd, ln, ok⟩
    show tSeq _ _ _ [some (V.ref wl.w), some x, some (.int c), some (.ref dd), some (.int (i : Int)), x5] H1
    refine q_asgW (wl := wl) (C := C) (ewr_tup (ewr_cons (ew_any (v := x) rfl (At.drawn D1 ax) rfl (by omega) (by omega) hns) (ewr_cons (ew_intR (ei_add (ei_draw rfl (by decide) (by decide)))) ewr_nil)) len2_le) D1.well fun v u H2 D2 a r => ?_
    obtain ⟨us, rfl, _, r, rfl, ⟨z, rfl, gz⟩, _, _, rfl, ⟨hd, rfl, hd0, hd1⟩, rfl⟩ := r
    obtain ⟨b, ys, rfl, hb, nb, lb⟩ := at_tup a
    obtain rfl : ys = [.str z, .int hd] := by
      obtain ⟨y1, y2, e, e1, e2⟩ := atl2 lb
      rw [e, at_str e1, at_int e2]
    have hb' := hb.plain rfl
    show tAsg _ _ _ [some (V.ref wl.w), some x, some (.int c), some (.ref dd), some (.int (i : Int)), some (.ref b)] H2
    have D12 := D1.trans D2
    refine (ewr_tup (wl := wl) (C := C) (ewr_cons (ew_intR (ei_draw rfl (by decide) (by decide))) (ewr_cons (ew_intR (ei_max0 (ei_subI (ei_addI (ei_var (lo := 0) (hi := 10 ^ 11 + 1) rfl (by omega) (by omega)) (ei_draw rfl (by decide) (by decide))) (ei_of (lo := 2) (hi := 3) (fun G => ev_c) (by decide) (by decide))) (by decide))) ewr_nil)) len2_le) H2 (.refl D2.well) _ fun v u H3 D3 a r => ?_
    obtain ⟨us, rfl, _, r, rfl, ⟨ta, rfl, ta0, ta1⟩, _, _, rfl, ⟨tb, rfl, tb0, tb1⟩, rfl⟩ := r
    obtain ⟨nv, ys, rfl, hv, nn, lv⟩ := at_tup a
    obtain rfl : ys = [.int ta, .int tb] := by
      obtain ⟨y1, y2, e, e1, e2⟩ := atl2 lv
      rw [e, at_int e1, at_int e2]
    have hv' := hv.plain rfl
    have D13 := D12.trans D3
    have hk3 : H3 dd = some (.dT kvs) := D3.keep _ _ nD (D2.keep _ _ nD h1)
    have hb3 : H3 b = some (.tup [.str z, .int hd]) := D3.keep _ _ nb hb'
    have t13 : ∀ b ws, H1 b = some (.tup ws) → H3 b = some (.tup ws) := fun b ws hb => drawn_tups D2.well D3 _ _ (drawn_tups D1.well D2 _ _ hb)
    have lenk : kvs.length < sizeLine := sz_lt (by rw [dl.len]; omega)
    refine ⟨_, rfl, _, rfl, dd, _, rfl, DPut.t (k := Hk.keySI (z, hd)) hk3 hb3 lenk, hn3, _, _, _, putL L (z, hd) (ta, tb), rfl, D13.put W hD, upd_same, ?_, ndK_put nd, Nat.le_trans (len_put _ _ _) (by omega), ?_⟩
    · have nt : ∀ b ws, H3 b = some (.tup ws) → upd H3 dd (.dT (putK kvs (Hk.keySI (z, hd)) (.ref nv))) b = some (.tup ws) := fun b ws hb => by
        rw [upd_ne (fun z => by rw [z, hk3] at hb; cases hb)]
        exact hb
      exact (Dl.put (v := (ta, tb)) nd (dl.tups t13) hv').tups nt
    · intro l hl
      have g := getL_of (ndK_put (k := (z, hd)) (v := (ta, tb)) nd) hl
      rw [getL_put] at g
      by_cases h : l.1 = (z, hd)
      · rw [if_pos h] at g
        have e2 : l.2 = (ta, tb) := (Option.some.inj g).symm
        exact ⟨by rw [h]; exact gz, by rw [h]; exact ⟨by show 1 ≤ hd; omega, by show hd ≤ 99; omega⟩, by rw [e2]; exact ⟨ta0, by show ta < 6; omega⟩, by rw [e2]; exact ⟨tb0, by show tb < _; omega⟩⟩
      · rw [if_neg h] at g
        exact ok l (getL_mem g)
  · rintro n σ' H1 ⟨hn3, x4, x5, kvs, L, rfl, D1, h1, dl, nd, ln, ok⟩
    refine (ed_order (K := K) (C := C) (w := wl.w) (dv := 3) (j := 5) rfl (fun _ => rfl) (fun _ => rfl) (fun _ => rfl) h1 dl nd (srt_sortL L) (fun k => getL_sortL k L) (by omega) D1.well.at) H1 (Ex.refl H1) _ fun v H2 e2 a2 => ?_
    exact k v _ H2 (D1.same e2) a2 ⟨sortL L, rfl, srt_sortL L, Nat.le_trans (len_sortL L) (by omega), fun l hl => ok l (mem_of_get (srt_nd (srt_sortL L)) (fun k => getL_sortL k L) l hl)⟩
end
end Hs
namespace Hs
open PySem PySem.Spec PyProof.Rows L2 Hu Evl
abbrev lTableH : Stmt := topS 161
def AhU (u : U) : Prop := u = .tup [] ∨ MmU u
def VtU (u : U) : Prop := u = .non ∨ ∃ s m, u = .tup [s, m] ∧ StU s ∧ MmU m
def TabH (u : U) : Prop := ∃ (e c : Int) (m a hs bs ls p v : U), u = .tup [.int e, m, a, .int c, hs, bs, ls, p, v, .non] ∧ 0 ≤ e ∧ e ≤ 10 ^ 11 ∧ 0 ≤ c ∧ c ≤ 10 ^ 11 ∧ MmU m ∧ AhU a ∧ HdsU hs ∧ BksU bs ∧ LesU ls ∧ StU p ∧ VtU v
section
variable {wl : WA} {C : Addr} {σ : L2.St} {H : Hp} {te t1 t2 : TE} {R Ra Rb : U → Prop} {K : PySem.W.Frag} {E : XK} {D : Ends} {ts : TS} {i j : Nat} {lo hi m : Int} {v0 w0 : V} {u0 x0 : U}
theorem set_self {σ : L2.St} {i : Nat} {x : Option V} (h : σ[i]? = some x) : σ.set i x = σ := by
  refine List.ext_getElem? fun k => ?_
  rw [List.getElem?_set]
  split
  · rename_i e
    subst e
    have := (List.getElem?_eq_some_iff.mp h).1
    rw [if_pos this, h]
  · rfl
theorem q_ifW {r : L2.R2} (hr : ∀ (i : Int) H Q, (∀ b, Q (.bl b) H) → r (.int i) (.int m) H Q) (h : EvI wl te σ H lo hi) (W : Well H wl) (h0 : σ[i]? = some (some v0)) (a0 : At wl.w C H v0 u0) (r0 : Ra u0) (hk : EvW wl C t1 σ H Ra) (k : ∀ v u H1, Drawn wl H H1 → At wl.w C H1 v u → Ra u → ts D (σ.set i (some v)) H1) :
    tSeq (tIfS (tTest (tOp r te (tC (.int m)))) (tAsg t1 (gName i)) tNext) ts D σ H := by
  refine q_ifI hr h W (fun H1 D1 => ?_) (fun H1 D1 => ?_)
  · exact hk H1 D1 _ fun v u H2 D2 a ru => k v u H2 (D1.trans D2) a ru
  · have := k v0 u0 H1 D1 (At.drawn D1 a0) r0
    rwa [set_self h0] at this
theorem q_ifW2 {r : L2.R2} (hr : ∀ (i : Int) H Q, (∀ b, Q (.bl b) H) → r (.int i) (.int m) H Q) (h : EvI wl te σ H lo hi) (W : Well H wl) (h0 : σ[i]? = some (some v0)) (h1 : σ[j]? = some (some w0)) (a0 : At wl.w C H v0 u0) (a1 : At wl.w C H w0 x0) (r0 : Ra u0) (r1 : Rb x0) (hk : EvW wl C t1 σ H Ra) (hk2 : ∀ v H1, Drawn wl H H1 → EvW wl C t2 (σ.set i (some v)) H1 Rb)
    (k : ∀ v u w x H1, Drawn wl H H1 → At wl.w C H1 v u → At wl.w C H1 w x → Ra u → Rb x → ts D ((σ.set i (some v)).set j (some w)) H1) :
    tSeq (tIfS (tTest (tOp r te (tC (.int m)))) (tSeq (tAsg t1 (gName i)) (tAsg t2 (gName j))) tNext) ts D σ H := by
  refine q_ifI hr h W (fun H1 D1 => ?_) (fun H1 D1 => ?_)
  · exact hk H1 D1 _ fun v u H2 D2 a ru => hk2 v H2 (D1.trans D2) H2 (.refl D2.well) _ fun w x H3 D3 b rx => k v u w x H3 ((D1.trans D2).trans D3) (At.drawn D3 a) b ru rx
  · have := k v0 u0 w0 x0 H1 D1 (At.drawn D1 a0) (At.drawn D1 a1) r0 r1
    rwa [set_self h0, set_self h1] at this
end
section
variable {P : Program} {wd : World} {K : PySem.W.Frag} {mg : Str → Option Value} {base : Heap} {C : Addr} {fD : Addr} {dD : FuncData}
theorem scTabH : FnScope ["hat", "names", "pool", "epoch", "clock", "members", "ahead", "leases", "promise", "voted", "heads"] ["hat", "names", "pool"] (defScope lTableH) := ⟨rfl, rfl, rfl, by decide +kernel, rfl, by decide +kernel, by decide +kernel⟩
set_option maxHeartbeats 1000000 in
theorem ok_tableH {f f1 f2 f3 f4 f5 : Addr} {fd d1 d2 d3 d4 d5 : FuncData} (F : Fun K "_law_table" "_law_table" lTableH f fd) (B : Bt mg) (D : Dd P wd K mg base fD dD)
    (E1 : Df K mg "_law_members" lMembers ["hat"] f1 d1) (G1 : FnOk P wd K mg base CX0 2 f1 d1 ["hat"] (spMk C MmU))
    (E2 : Df K mg "_law_stamp" lStamp ["hat"] f2 d2) (G2 : FnOk P wd K mg base CX0 2 f2 d2 ["hat"] (spMk C StU))
    (E3 : Df K mg "_law_leases" lLeases ["hat", "names", "clock"] f3 d3) (G3 : FnOk P wd K mg base CX0 2 f3 d3 ["hat", "names", "clock"] (spMkA C PreNC fun _ => LesU))
    (E4 : Df K mg "_law_heads" lHeads ["hat", "names", "pool"] f4 d4) (G4 : FnOk P wd K mg base CX0 3 f4 d4 ["hat", "names", "pool"] (spMkA C PreNP fun _ => HdsU))
    (E5 : Df K mg "_law_blocks" lBlocks ["hat", "pool"] f5 d5) (G5 : FnOk P wd K mg base CX0 3 f5 d5 ["hat", "pool"] (spMkA C PreP fun _ => BksU)) :
    FnOk P wd K mg base CX0 4 f fd ["hat", "names", "pool"] (spMkA C PreNP fun _ => TabH) := by
  refine F.ok scTabH (lenMkA preNP_len rfl) (fun cdv A outer s H vs Q E hr h => ?_)
  obtain ⟨wl, xs, us, rfl, W, l, ⟨ns, ps, rfl, hns, hps⟩, k⟩ := h
  refine ⟨_, pss_cons (ps_set (i := 3) scTabH.nd rfl (.inl rfl) (pe_ix (show IxR _ (rIxL K) from ix_list) (pe_lst (pa_cons pe_int (pa_cons pe_int (pa_cons pe_int (pa_cons pe_int (pa_cons (pe_op op_pow pe_int pe_int) pa_nil)))))) (pe_draw D hr (by decide) (by rfl) (pv 0) pe_int) (fun _ _ => rfl)))
    (pss_cons (ps_set (i := 4) scTabH.nd rfl (.inl rfl) (pe_ix (show IxR _ (rIxL K) from ix_list) (pe_lst (pa_cons pe_int (pa_cons pe_int (pa_cons pe_int (pa_cons pe_int (pa_cons (pe_op op_pow pe_int pe_int) pa_nil)))))) (pe_draw D hr (by decide) (by rfl) (pv 0) pe_int) (fun _ _ => rfl)))
    (pss_cons (ps_set (i := 5) scTabH.nd rfl (.inl rfl) (pe_call (G1.mono (by decide : 2 ≤ 3)) hr (by rfl) E1.g E1.F.kp E1.b .nil pass0 (pa_cons (pv 0) pa_nil)))
    (pss_cons (ps_set (i := 6) scTabH.nd rfl (.inl rfl) (pe_tupF pa_nil))
    (pss_cons (ps_if (pt_cmpR op_eq (pe_draw D hr (by decide) (by rfl) (pv 0) pe_int) pe_int (nomark _)) (pss_one (ps_set (i := 6) scTabH.nd rfl (.inl rfl) (pe_call (G1.mono (by decide : 2 ≤ 3)) hr (by rfl) E1.g E1.F.kp E1.b .nil pass0 (pa_cons (pv 0) pa_nil)))) pss_nil)
    (pss_cons (ps_set (i := 7) scTabH.nd rfl (.inl rfl) (pe_call (G3.mono (by decide : 2 ≤ 3)) hr (by rfl) E3.g E3.F.kp E3.b .nil pass0 (pa_cons (pv 0) (pa_cons (pv 1) (pa_cons (pv 4) pa_nil)))))
    (pss_cons (ps_set (i := 8) scTabH.nd rfl (.inl rfl) (pe_tupF (pa_cons pe_int (pa_cons pe_int pa_nil))))
    (pss_cons (ps_set (i := 9) scTabH.nd rfl (.inl rfl) pe_non)
    (pss_cons (ps_if (pt_cmpR op_eq (pe_draw D hr (by decide) (by rfl) (pv 0) pe_int) pe_int (nomark _))
      (pss_cons (ps_set (i := 8) scTabH.nd rfl (.inl rfl) (pe_call (G2.mono (by decide : 2 ≤ 3)) hr (by rfl) E2.g E2.F.kp E2.b .nil pass0 (pa_cons (pv 0) pa_nil)))
      (pss_one (ps_set (i := 9) scTabH.nd rfl (.inl rfl) (pe_tupF (pa_cons (pe_call (G2.mono (by decide : 2 ≤ 3)) hr (by rfl) E2.g E2.F.kp E2.b .nil pass0 (pa_cons (pv 0) pa_nil)) (pa_cons (pe_call (G1.mono (by decide : 2 ≤ 3)) hr (by rfl) E1.g E1.F.kp E1.b .nil pass0 (pa_cons (pv 0) pa_nil)) pa_nil)))))) pss_nil)
    (pss_cons (ps_set (i := 10) scTabH.nd rfl (.inl rfl) (pe_call G4 hr (by rfl) E4.g E4.F.kp E4.b .nil pass0 (pa_cons (pv 0) (pa_cons (pv 1) (pa_cons (pv 2) pa_nil)))))
    (pss_one (ps_ret (pe_tupF (pa_cons (pv 3) (pa_cons (pv 5) (pa_cons (pv 6) (pa_cons (pv 4) (pa_cons (pv 10) (pa_cons (pe_call G5 hr (by rfl) E5.g E5.F.kp E5.b .nil pass0 (pa_cons (pv 0) (pa_cons (pv 2) pa_nil))) (pa_cons (pv 7) (pa_cons (pv 8) (pa_cons (pv 9) (pa_cons pe_non pa_nil)))))))))))))))))))))), ?_⟩
  obtain ⟨x, y, rfl, ax, ay⟩ := atl2 l
  have pick := fun (xs : List Int) (hx : xs.length = 5) (hb : ∀ t ∈ xs, 0 ≤ t ∧ t < 10 ^ 11 + 1) => True
  refine q_asgI (i := 3) (ei_pickE (xs := [0, 1, 2, 7, 10 ^ (11 : Int).toNat]) (lo := 0) (hi := 10 ^ 11 + 1) (fun G => ea_cons ev_c (ea_cons ev_c (ea_cons ev_c (ea_cons ev_c (ea_cons (ec_pow ⟨by decide, by decide, by decide⟩ G) ea_nil))))) (ei_draw rfl (by decide) (by decide)) (by decide) (by decide)) W fun e H1 D1 e0 e1 => ?_
  refine q_asgI (wl := wl) (i := 4) (ei_pickE (xs := [0, 1, 6, 20, 10 ^ (11 : Int).toNat]) (lo := 0) (hi := 10 ^ 11 + 1) (fun G => ea_cons ev_c (ea_cons ev_c (ea_cons ev_c (ea_cons ev_c (ea_cons (ec_pow ⟨by decide, by decide, by decide⟩ G) ea_nil))))) (ei_draw rfl (by decide) (by decide)) (by decide) (by decide)) D1.well fun c H2 D2 c0 c1 => ?_
  refine q_asgW (wl := wl) (C := C) (R := MmU) (ew_mk rfl) D2.well fun vm um H3 D3 am rm => ?_
  refine q_asgW (wl := wl) (C := C) (R := AhU) ((ewr_tup ewr_nil (fun us e => by rw [e]; exact Nat.zero_le _)).mono fun u h => by obtain ⟨us, rfl, rfl⟩ := h; exact .inl rfl) D3.well fun va0 ua0 H4 D4 aa0 ra0 => ?_
  refine q_ifW (wl := wl) (C := C) (Ra := AhU) (fun i H Q q => ⟨rfl, q _⟩) (ei_draw rfl (by decide) (by decide)) D4.well rfl aa0 ra0 ((ew_mk (R := MmU) rfl).mono fun u h => .inr h) fun va ua H5 D5 aa ra => ?_
  have D15 := (((D1.trans D2).trans D3).trans D4).trans D5
  refine q_asgW (wl := wl) (C := C) (R := LesU) (fun G1 g1 Q q => ⟨_, rfl, _, rfl, _, rfl, wl, [x, .int c], [.lst ns, .int c], rfl, g1.well, .cons (At.drawn (D15.trans g1) ax) (.cons (.int c) .nil), ⟨ns, c, rfl, hns, c0, by omega⟩, fun v u H' d a r => q v u H' d a r⟩) D5.well fun vl ul H6 D6 al rl => ?_
  refine q_asgW (wl := wl) (C := C) (R := StU) ((ewr_tup (wl := wl) (ewr_cons (ew_intR (ei_of (lo := 0) (hi := 1) (fun G => ev_c) (by decide) (by decide))) (ewr_cons (ew_intR (ei_of (lo := 0) (hi := 1) (fun G => ev_c) (by decide) (by decide))) ewr_nil)) len2_le).mono fun u h => by
    obtain ⟨us, rfl, _, r, rfl, ⟨i, rfl, i1, i2⟩, _, _, rfl, ⟨j, rfl, j1, j2⟩, rfl⟩ := h
    exact ⟨i, j, rfl, .inl ⟨by omega, by omega⟩⟩) D6.well fun vp0 up0 H7 D7 ap0 rp0 => ?_
  refine q_asgW (wl := wl) (C := C) (R := VtU) (ew_c (u := .non) (fun _ => .non) (.inl rfl)) D7.well fun vv0 uv0 H8 D8 av0 rv0 => ?_
  refine q_ifW2 (wl := wl) (C := C) (Ra := StU) (Rb := VtU) (fun i H Q q => ⟨rfl, q _⟩) (ei_draw rfl (by decide) (by decide)) D8.well rfl rfl (At.drawn D8 ap0) av0 rp0 rv0 (ew_mk rfl) (fun v G g => (ewr_tup (ewr_cons (ew_mk (R := StU) rfl) (ewr_cons (ew_mk (R := MmU) rfl) ewr_nil)) len2_le).mono fun u h => by
    obtain ⟨us, rfl, s, r, rfl, hs, m, _, rfl, hm, rfl⟩ := h
    exact .inr ⟨s, m, rfl, hs, hm⟩) fun vp up vv uv H9 D9 ap av rp rv => ?_
  have D19 := (((D15.trans D6).trans D7).trans D8).trans D9
  refine q_asgW (wl := wl) (C := C) (R := HdsU) (fun G1 g1 Q q => ⟨_, rfl, _, rfl, _, rfl, wl, [x, y], [.lst ns, .lst ps], rfl, g1.well, .cons (At.drawn (D19.trans g1) ax) (.cons (At.drawn (D19.trans g1) ay) .nil), ⟨ns, ps, rfl, hns, hps⟩, fun v u H' d a r => q v u H' d a r⟩) D9.well fun vh uh H10 D10 ah rh => ?_
  have D110 := D19.trans D10
  show tRet _ _ [some (V.ref wl.w), some x, some y, some (.int e), some (.int c), some vm, some va, some vl, some vp, some vv, some vh] H10
  have D69 := (((D6.trans D7).trans D8).trans D9).trans D10
  have am' : At wl.w C H10 vm um := At.drawn (((D4.trans D5)).trans D69) am
  have aa' : At wl.w C H10 va ua := At.drawn D69 aa
  have al' : At wl.w C H10 vl ul := At.drawn (((D7.trans D8).trans D9).trans D10) al
  have ap' : At wl.w C H10 vp up := At.drawn D10 ap
  have av' : At wl.w C H10 vv uv := At.drawn D10 av
  have call5 : EvW wl C (tCall (spMkA C PreP fun _ => BksU) [] E0 (tCons (tVar 0) (tCons (tVar 2) tNil))) [some (V.ref wl.w), some x, some y, some (.int e), some (.int c), some vm, some va, some vl, some vp, some vv, some vh] H10 BksU := fun G1 g1 Q q => ⟨_, rfl, _, rfl, wl, [y], [.lst ps], rfl, g1.well, .cons (At.drawn (D110.trans g1) ay) .nil, ⟨ps, rfl, hps⟩, fun v u H' d a r => q v u H' d a r⟩
  refine s_retW (ewr_tup (wl := wl) (C := C) (RL := fun us => ∃ bs, us = [.int e, um, ua, .int c, uh, bs, ul, up, uv, .non] ∧ BksU bs) (fun G1 g1 Q q => ?_) (fun us h => by
    obtain ⟨bs, rfl, _⟩ := h
    show (10 : Nat) ≤ 100000
    decide)) D10.well fun v u H11 D11 a r => k v u H11 (D110.trans D11) a ?_
  · refine ⟨_, rfl, _, rfl, _, rfl, _, rfl, _, rfl, call5 G1 g1 _ fun vb ub G2 g2 ab rb => ⟨_, rfl, _, rfl, _, rfl, ?_⟩⟩
    have g12 := g1.trans g2
    exact q _ _ G2 g2 (.cons (.int e) (.cons (At.drawn g12 am') (.cons (At.drawn g12 aa') (.cons (.int c) (.cons (At.drawn g12 ah) (.cons ab (.cons (At.drawn g12 al') (.cons (At.drawn g12 ap') (.cons (At.drawn g12 av') (.cons .non .nil)))))))))) ⟨ub, rfl, rb⟩
  · obtain ⟨us, rfl, bs, rfl, hb⟩ := r
    exact ⟨e, c, um, ua, uh, bs, ul, up, uv, rfl, e0, by omega, c0, by omega, rm, ra, rh, hb, rl, rp, rv⟩
end
end Hs
namespace Hs
open PySem PySem.Spec PyProof.Rows L2 Hu Evl
abbrev lSameH : Stmt := topS 151
section
variable {P : Program} {wd : World} {K : PySem.W.Frag} {mg : Str → Option Value} {base : Heap} {C : Addr}
theorem scSameH : FnScope ["actual", "due", "one", "other"] ["actual", "due"] (defScope lSameH) := ⟨rfl, rfl, rfl, by decide +kernel, rfl, by decide +kernel, by decide +kernel⟩
set_option maxHeartbeats 1000000 in
theorem ok_sameH {f : Addr} {fd : FuncData} (DN : Df K mg "_law_same" lSameH ["actual", "due"] f fd) (S : Bs K mg C) (Z : Bz mg) : ∀ n : Nat, FnOk P wd K mg base CX0 n f fd ["actual", "due"] (spAl K C n)
  | 0 => ⟨fun _ _ _ _ ⟨_, _, _, _, e, _⟩ => by rw [e]; rfl, fun _ _ _ _ _ _ _ _ _ _ _ _ _ ⟨_, _, _, _, _, _, _, _, _, h, _⟩ => absurd h (Nat.not_lt_zero _)⟩
  | n + 1 => by
    have G := ok_sameH DN S Z n
    refine DN.F.ok scSameH (fun vs H Q E h => ?_) (fun cdv A outer s H vs Q E hr h => ?_)
    · obtain ⟨x, y, u, w, rfl, _⟩ := h
      rfl
    obtain ⟨x, y, u, w, rfl, hx, hy, hs, hp, hd, k⟩ := h
    refine ⟨_, pss_cons (ps_if (pt_val (pe_isiX S (by rfl) (by rfl) S.B.tup boot_tuple' (by decide) (pv 1) (by decide) (by decide)))
        (pss_cons (ps_if (PW.pt (pw_or (pt_not (pt_val (pe_isiY S (by rfl) (by rfl) S.B.tup boot_tuple' (pv 0) (by decide) (by decide)))) (pw_or1 (pt_cmpR op_ne (pe_callB call_len_seq (by rfl) S.B.len PySem.boot_len (pa_cons (pv 0) pa_nil)) (pe_callB call_len_seq (by rfl) S.B.len PySem.boot_len (pa_cons (pv 1) pa_nil)) (nomark _))))) (pss_one (ps_ret pe_bl)) pss_nil)
        (pss_cons (ps_for PassesOwn.never rfl (RZ.pi_zipA (by rfl) Z.zip (pa_cons (pv 0) (pa_cons (pv 1) pa_nil))) (pg_tup rfl (pgs_cons (pg_name (i := 2) scSameH.nd rfl (.inl rfl)) (pgs_cons (pg_name (i := 3) scSameH.nd rfl (.inl rfl)) pgs_nil)))
          (pss_one (ps_if (pt_not (pt_val (pe_call G hr (by rfl) DN.g DN.F.kp DN.b .nil pass0 (pa_cons (pv 2) (pa_cons (pv 3) pa_nil))))) (pss_one (ps_ret pe_bl)) pss_nil)))
        (pss_one (ps_ret pe_bl)))) pss_nil)
      (pss_cons (ps_if (pt_cmpR op_isN1 (pv 1) pe_non (nomark _)) (pss_one (ps_ret (pe_cmpR op_isN1 (pv 0) pe_non (nomark _)))) pss_nil)
      (pss_cons (ps_if (pt_val (pe_isiX S (by rfl) (by rfl) S.B.str boot_str (by decide) (pv 1) (by decide) (by decide))) (pss_one (ps_ret (pe_and (pe_isiY S (by rfl) (by rfl) S.B.str boot_str (pv 0) (by decide) (by decide)) (pe_one (pe_cmpR op_eq (pv 0) (pv 1) (nomark _)))))) pss_nil)
      (pss_one (ps_ret (pe_and (pe_isiY S (by rfl) (by rfl) S.B.int boot_int' (pv 0) (by decide) (by decide)) (pe_and (pe_not (pe_isiY S (by rfl) (by rfl) S.B.boo boot_bool' (pv 0) (by decide) (by decide))) (pe_one (pe_cmpR op_eq (pv 0) (pv 1) (nomark _))))))))), ?_⟩
    refine q_when (b := isT u "tuple") (et_B (ev_isi (ev_var rfl) hy)) (fun q H1 e1 => ?_) (fun q H1 e1 => ?_)
    · obtain ⟨us, rfl⟩ := isT_tup q
      obtain ⟨a, xs, rfl, ha, l1, hl⟩ := lk_tup (hx.ex e1)
      obtain ⟨b, ys, rfl, hb, _, hm⟩ := at_tup (ex_at e1 hy)
      have l2 := AtL.length hm
      refine q_when (b := !true || false) (et_or (et_not (et_B (ev_isiT (ev_var rfl) ha kitTT))) fun _ => et_test (ev_is (ev_op (ev_lenSq (K := K) (ev_var rfl) ha) (ev_lenT (K := K) (ev_var rfl) hb) (rv_ne rfl)) (by rw [l1, l2]; simp))) (fun q => by cases q) (fun _ H2 e2 => ?_)
      have e12 := e1.trans e2
      refine ⟨_, rfl, _, rfl, a, b, xs, ys, rfl, .inr ⟨sqt_ex e2 ha, Tu.st (Tu.ex e2 hb), RZ.for_zipT (by rw [l1, l2]) (fun i σ' H' => (∃ x2 x3, σ' = [some (.ref a), some (.ref b), x2, x3]) ∧ Ex H2 H') ⟨⟨none, none, rfl⟩, Ex.refl _⟩ (fun i σ' H' h => ⟨sqt_ex (e2.trans h.2) ha, Tu.st (Tu.ex (e2.trans h.2) hb)⟩) ?_ ?_⟩⟩
      · rintro i x1 y1 T σ' H3 hx1 hy1 ⟨⟨x2, x3, rfl⟩, e3⟩ hT
        have e4 : Ex H3 (upd H3 T (.tup [x1, y1])) := Ex.new hT
        refine ⟨T, _, rfl, st_of upd_same, rfl, x1, _, rfl, y1, _, rfl, rfl, ?_⟩
        have hi : i < us.length := by
          have := (List.getElem?_eq_some_iff.mp hx1).1
          omega
        have ax := hl i x1 us[i] hx1 (List.getElem?_eq_getElem hi)
        obtain ⟨y1', hy1', ay⟩ := AtL.get hm (List.getElem?_eq_getElem hi)
        rw [hy1] at hy1'
        cases hy1'
        have hpl : plnL us := hp
        have hdl : depL us + 1 < n + 1 := by simpa only [dep] using hd
        have eA := (e2.trans e3).trans e4
        exact s_when (b := !true) (et_not (et_B (ev_call (ea_cons (ev_var rfl) (ea_cons (ev_var rfl) ea_nil)) fun G eg Q q E =>
          ⟨x1, y1, us[i], w, rfl, ax.ex (eA.trans eg), ex_at (eA.trans eg) ay, by have := wt_mem (List.getElem_mem hi); simp only [wt] at hs; omega, plnL_all.mp hpl _ (List.getElem_mem hi), by have := depL_mem (List.getElem_mem hi); omega, q⟩))) (fun q => by cases q) fun q H5 e5 => ⟨⟨_, _, rfl⟩, (e3.trans e4).trans e5⟩
      · rintro σ' H3 ⟨⟨x2, x3, rfl⟩, e3⟩
        exact k H3 (e12.trans e3)
    · have hx1 := hx.ex e1
      have hy1 := ex_at e1 hy
      refine q_when (b := isNon u) (et_test (ev_is (ev_isN (ev_var rfl)) (by rw [at_non hy1]))) (fun q2 H2 e2 => ?_) (fun q2 H2 e2 => ?_)
      · exact s_ret (ev_is (ev_isN (ev_var rfl)) (by rw [lk_non (hx1.ex e2), q2])) fun H3 e3 => k H3 ((e1.trans e2).trans e3)
      · have hx2 := hx1.ex e2
        have hy2 := ex_at e2 hy1
        have e12 := e1.trans e2
        refine q_when (b := isT u "str") (et_B (ev_isi (ev_var rfl) hy2)) (fun q3 H3 e3 => ?_) (fun q3 H3 e3 => ?_)
        · obtain ⟨z, rfl⟩ := isT_str q3
          cases hx
          have ey := at_str (ex_at e3 hy2)
          subst ey
          exact s_ret (v := .bl (true && true)) (ev_andV (ev_isiS (ev_var rfl) kitSS) fun _ => ev_is (ev_op (ev_var rfl) (ev_var rfl) (rv_eq rfl)) (congrArg V.bl (decide_eq_true rfl))) fun H4 e4 => k H4 ((e12.trans e3).trans e4)
        · obtain ⟨i, rfl⟩ : ∃ i, u = .int i := by
            cases u with
            | int i => exact ⟨i, rfl⟩
            | non => cases q2
            | str z => simp [isT, isS, tyU] at q3
            | tup us => simp [isT, isS, tyU] at q
            | bl b => exact hp.elim
            | lst us => exact hp.elim
            | dct us => exact hp.elim
            | exc => exact hp.elim
          cases hx
          have ey := at_int (ex_at e3 hy2)
          subst ey
          exact s_ret (v := .bl (true && (!false && true))) (ev_andV (ev_isiI (ev_var rfl) kitII) fun _ => ev_andV (ev_notV (ev_isiI (ev_var rfl) kitIB)) fun _ => ev_is (ev_op (ev_var rfl) (ev_var rfl) (rv_eq rfl)) (congrArg V.bl (decide_eq_true rfl))) fun H4 e4 => k H4 ((e12.trans e3).trans e4)
end
end Hs
namespace Hs
open PySem PySem.Spec PyProof.Rows L2 Hu Evl
open Hk (PZ SI ltSI)
theorem lsU_good {l : Ls} (h : LOk l) : gLease (lsU l) = true := by
  show (true && (gNam (.str l.1.1) && (decide (1 ≤ l.1.2) && decide (l.1.2 ≤ 99))) && (decide (0 ≤ l.2.1) && decide (0 ≤ l.2.2))) = true
  rw [h.n, decide_eq_true h.h.1, decide_eq_true h.h.2, decide_eq_true h.t.1, decide_eq_true h.u.1]
  rfl
theorem int_bdH (i : Int) (hi : i.natAbs < 2 ^ 60) : Bd (.int i) 80 0 0 := ⟨by simp [wt], by simp [dep], tidy_int hi⟩
theorem lsU_bd {l : Ls} (h : LOk l) : Bd (lsU l) 280 1 0 := by
  obtain ⟨n, ⟨h1, h2⟩, ⟨t1, t2⟩, ⟨u1, u2⟩⟩ := h
  exact (Bd.tup (BdL.append (BdL.one (nam_bd n)) (BdL.append (BdL.one (m := 80) (int_bdH _ (by omega))) (BdL.append (BdL.one (m := 80) (int_bdH _ (by omega))) (BdL.one (m := 80) (int_bdH _ (by omega))))))).mono (by decide) (by decide) (Nat.le_refl _)
theorem piece_bd {z : Str} (g : gPiece (.str z) = true) (gs : (TL.tl z).all okS = true) : Bd (.str z) 20 0 0 := by
  have g' : (okz z && (decide (1 ≤ z.length) && decide (z.length ≤ 8))) = true := g
  have hl : z.length ≤ 8 := of_decide_eq_true (and2 (and2 g').2).2
  refine ⟨?_, Nat.zero_le _, ?_⟩
  · simp only [wt]
    omega
  · simp only [tidy]
    exact fun c hc => .inl (List.all_eq_true.mp gs c hc)
theorem bzU_bd {x : PZ} (h : BzU x) : Bd (bzU x) 220 2 0 := by
  obtain ⟨⟨⟨g, _⟩, gs⟩, h1, h2, h3, h4⟩ := h
  have i := (idU_ok (u := .tup [.int x.1.1, .int x.1.2]) ⟨_, _, rfl, h1, h2, h3, h4⟩).2.1
  exact (Bd.tup (BdL.append (BdL.one i) (BdL.one ((piece_bd g gs).mono (Nat.le_refl _) (by decide) (Nat.le_refl _))))).mono (by decide) (by decide) (Nat.le_refl _)
theorem hds_ok {u : U} (h : HdsU u) : gHeads u = true ∧ Bd u 105800 4 0 := by
  obtain ⟨L, rfl, h1, h2, h3⟩ := h
  refine ⟨gHeads_iff.mpr ⟨hds_all h1, h2⟩, (Bd.tup (bdL_all fun x hx => (hdU_ok (h1 x hx)).2)).mono ?_ (by decide) (Nat.le_refl _)⟩
  omega
theorem bks_ok {u : U} (h : BksU u) : gBlocks u = true ∧ Bd u 1600 3 0 := by
  obtain ⟨L, rfl, h1, h2, h3⟩ := h
  refine ⟨gBlocks_iff.mpr ⟨fun x hx => (h1 x hx).1.1, h2⟩, (Bd.tup (bdL_all (m := 220) (d := 2) fun x hx => ?_)).mono ?_ (by decide) (Nat.le_refl _)⟩
  · obtain ⟨y, hy, rfl⟩ := List.mem_map.mp hx
    exact bzU_bd (h1 y hy)
  · rw [List.length_map]
    omega
theorem les_ok {u : U} (h : LesU u) : gLeases u = true ∧ Bd u 1200 2 0 := by
  obtain ⟨L, rfl, h1, h2, h3⟩ := h
  refine ⟨?_, (Bd.tup (bdL_all (m := 280) (d := 1) fun x hx => ?_)).mono ?_ (by decide) (Nat.le_refl _)⟩
  · show ((L.map lsU).all gLease && ascK ((L.map lsU).map keyL)) = true
    have q1 : (L.map lsU).all gLease = true := List.all_eq_true.mpr fun u hu => by
      obtain ⟨l, hl, rfl⟩ := List.mem_map.mp hu
      exact lsU_good (h3 l hl)
    have q2 : ascK ((L.map lsU).map keyL) = true := by
      refine ascK_pw ?_
      rw [List.map_map]
      unfold srt at h1
      rw [List.pairwise_map] at h1 ⊢
      exact h1.imp fun h => ltK_si h
    rw [q1, q2]
    rfl
  · obtain ⟨l, hl, rfl⟩ := List.mem_map.mp hx
    exact lsU_bd (h3 l hl)
  · rw [List.length_map]
    omega
theorem ah_ok {u : U} (h : AhU u) : gAhead u = true ∧ Bd u 800 1 0 := by
  rcases h with rfl | ⟨h, b⟩
  · exact ⟨rfl, by simp [wt, wtL], by simp [dep, depL], by simp [tidy, tidyL]⟩
  · exact ⟨by unfold gAhead; rw [h, Bool.or_true], b⟩
theorem vt_ok {u : U} (h : VtU u) : gVote u = true ∧ Bd u 1000 2 0 := by
  rcases h with rfl | ⟨s, m, rfl, hs, hm⟩
  · exact ⟨rfl, by simp [wt], by simp [dep], by simp [tidy]⟩
  · refine ⟨?_, (Bd.tup (BdL.append (BdL.one (stU_ok hs).2.1) (BdL.one hm.2))).mono (by decide) (by decide) (Nat.le_refl _)⟩
    show (isNon (.tup [s, m]) || (gStamp s && gMembers m)) = true
    rw [(stU_ok hs).1, hm.1]
    rfl
end Hs
namespace Hs
open PySem PySem.Spec PyProof.Rows L2 Hu Evl
theorem cnt_ok {i : Int} (h : 0 ≤ i) : gCnt (.int i) = true := decide_eq_true h
theorem word_bd {z : Str} (h : z.length ≤ 8) (c : ∀ c ∈ TL.tl z, okS c = true ∨ c = 10) : Bd (.str z) 20 0 0 := ⟨by simp only [wt]; omega, Nat.zero_le _, by simpa only [tidy] using c⟩
theorem mach_bd {z : Str} {i : Int} (hz : Bd (.str z) 20 0 0) (h : i.natAbs < 2 ^ 60) : Bd (.tup [.str z, .int i]) 110 1 0 := (Bd.tup (BdL.append (BdL.one hz) (BdL.one (int_bdH i h)))).mono (by decide) (by decide) (Nat.le_refl _)
theorem bd_home : Bd (.str "home") 20 0 0 := word_bd (by decide +kernel) (by decide +kernel)
theorem bd_hand : Bd (.str "hand") 20 0 0 := word_bd (by decide +kernel) (by decide +kernel)
end Hs
namespace Hs
open PySem PySem.Spec PyProof.Rows L2 Hu Evl
theorem letter_okG {h t m : Int} {z : Str} {rest : List U} (h1 : 1 ≤ h) (h2 : h ≤ 99) (t0 : 0 ≤ t) (m0 : 0 ≤ m) (m9 : m < 9) (lk : lookT toT z rest = true) : gLetter thT toT amT (.tup (letU h t m z rest)) = true := by
  have a1 : gMach (.tup [.str "home", .int m]) = true := by
    show (true && ((isZ "home" (.str "home") && (decide (0 ≤ m) && decide (m < 9))) || (isZ "hand" (.str "home") && (decide (1 ≤ m) && decide (m ≤ 99))))) = true
    rw [show isZ "home" (.str "home") = true by decide +kernel, decide_eq_true m0, decide_eq_true m9]
    rfl
  have a2 : gMach (.tup [.str "hand", .int h]) = true := by
    show (true && ((isZ "home" (.str "hand") && (decide (0 ≤ h) && decide (h < 9))) || (isZ "hand" (.str "hand") && (decide (1 ≤ h) && decide (h ≤ 99))))) = true
    rw [show isZ "hand" (.str "hand") = true by decide +kernel, decide_eq_true h1, decide_eq_true h2, Bool.and_self, Bool.and_self, Bool.or_true, Bool.and_self]
  have a3 : gTold thT toT amT (.tup [.str "home", .int m]) (.tup [.str "hand", .int h]) z rest = true := by
    show (if isZ "hand" (.str "home") = true then _ else if isZ "hand" (.str "hand") = true then lookT toT z rest else _) = true
    rw [if_neg (by decide +kernel), if_pos (by decide +kernel)]
    exact lk
  show (true && ((gMach (.tup [.str "home", .int m]) && (gMach (.tup [.str "hand", .int h]) && gCnt (.int t))) && (isT (.str z) "str" && (isT (.tup rest) "tuple" && gTold thT toT amT (.tup [.str "home", .int m]) (.tup [.str "hand", .int h]) z rest)))) = true
  rw [a1, a2, a3, cnt_ok t0]
  rfl
end Hs
namespace Hs
open PySem PySem.Spec PyProof.Rows L2 Hu Evl
section
variable {P : Program} {w : World} {K : PySem.W.Frag} {mg : Str → Option Value} {base : Heap} {CX : CXT} {k : Nat} {f : Addr} {fd : FuncData} {ps : List Str} {sp : Sp}
theorem FnOk.casesH (h : ∀ vs H Q E, sp vs H Q E → ∃ sp', FnOk P w K mg base CX k f fd ps sp' ∧ sp' vs H Q E) : FnOk P w K mg base CX k f fd ps sp :=
  ⟨fun vs H Q E q => (h vs H Q E q).elim fun _ q' => q'.1.len _ _ _ _ q'.2, fun A outer s H args us vs Q E hr he hb hv q => (h vs H Q E q).elim fun _ q' => q'.1.run A outer s H args us vs Q E hr he hb hv q'.2⟩
end
end Hs
namespace Hs
open PySem PySem.Spec PyProof.Rows L2 Hu Evl
abbrev sIsLeased : Stmt := topS 95
def lsOf (u : U) : List U := match nth u 6 with | .tup us => us | _ => []
def clkU (u : U) : Int := intU (nth u 3)
def lsAt (z : Str) (c : Int) (l : U) : Bool := decide (strU (nth l 0) = z) && decide (c < intU (nth l 3))
def hindN (ls : List U) (z : Str) (c : Int) : Bool := ls.any (lsAt z c)
theorem gTable_ls {u : U} (h : gTable u = true) : nth u 6 = .tup (lsOf u) ∧ (lsOf u).all gLease = true ∧ nth u 3 = .int (clkU u) := by
  unfold gTable at h
  obtain ⟨_, h⟩ := and2 h
  obtain ⟨h, _⟩ := and2 h
  obtain ⟨h3, h6⟩ := and2 h
  have e3 : nth u 3 = .int (clkU u) := by
    unfold clkU
    cases q : nth u 3 with
    | int i => rfl
    | _ => rw [q] at h3; cases h3
  obtain ⟨us, e⟩ : ∃ us, nth u 6 = .tup us := by
    cases q : nth u 6 with
    | tup us => exact ⟨us, rfl⟩
    | _ => rw [q] at h6; cases h6
  have el : lsOf u = us := by
    unfold lsOf
    rw [e]
  rw [el]
  rw [e] at h6
  have h6' : (us.all gLease && ascK (us.map keyL)) = true := h6
  exact ⟨e, (and2 h6').1, e3⟩
theorem gLease_pln {l : U} (h : gLease l = true) : pln l := by
  obtain ⟨z, i, t, n, rfl⟩ := gLease_is h
  simp [pln, plnL]
section
variable {w C : Addr} {σ : L2.St} {H : Hp} {K : PySem.W.Frag} {te tl : TE}
theorem boot_any' : bootBuiltins "any" = some (.builtin "any") := by decide +kernel
/-- any([f(x) for x in a list]) -/
theorem ev_anyL {a : Addr} {j : Nat} {vs : List Nat} {us : List U} {xs : List V} {g : U → Bool} (h : Ev tl σ H (.ref a)) (hx : H a = some (.lst xs)) (hz : us.length ≤ 500000) (hl : AtL w C H xs us) (hw : ∀ x, wipe ((wipe σ vs).set j (some x)) vs = wipe σ vs)
    (he : ∀ (x : V) (u : U), u ∈ us → At w C H x u → Ev te ((wipe σ vs).set j (some x)) H (.bl (g u))) :
    Ev (tCB (rAny K) (tCons (tLc (iList K tl) (gName j) tYes te vs) tNil)) σ H (.bl (us.any g)) := fun H0 e Q q => h H0 e _ fun H1 e1 => ⟨a, rfl, ⟨xs, SqL.of ((e.trans e1) _ _ hx)⟩, fun Dl hD =>
  lc_list (xs := xs) (fun i H' => Ex H1 H' ∧ H' Dl = some (.lst ((us.take i).map fun u => V.bl (g u)))) ⟨Ex.new hD, upd_same⟩ (fun i H' _ p => SqL.of (((e.trans e1).trans p.1) _ _ hx)) (fun i x H2 hi p => by
    obtain ⟨p1, p2⟩ := p
    have hlen := AtL.length hl
    have hu : i < us.length := by
      have := (List.getElem?_eq_some_iff.mp hi).1
      omega
    obtain ⟨x', hx', hax⟩ := AtL.get hl (List.getElem?_eq_getElem hu)
    rw [hi] at hx'
    cases hx'
    refine ⟨hw x, et_yes (σ := (wipe σ vs).set j (some x)) (H := H2) H2 (Ex.refl _) _ fun H2' e2' => ?_⟩
    rw [if_pos rfl]
    refine he x us[i] (List.getElem_mem hu) hax H2' (((e.trans e1).trans p1).trans e2') _ fun H3 e3 => ⟨_, e3 _ _ (e2' _ _ p2), ?_, fun q o hq => ?_, ?_⟩
    · rw [List.length_map, List.length_take]
      have := bit_line
      unfold bit at this
      omega
    · rw [upd_ne (ne_of_none hq hD)]
      exact e3 _ _ (e2' _ _ (p1 _ _ hq))
    · rw [upd_same, List.take_add_one, List.getElem?_eq_getElem hu, List.map_append]
      rfl) (fun H' p => ⟨Dl, us.map g, rfl, sq_of (by
        rw [p.2, AtL.length hl, List.take_length, List.map_map]
        rfl), by
        have e2 : (us.map g).any id = us.any g := by
          rw [List.any_map]
          rfl
        rw [e2]
        exact q _ (e1.trans p.1)⟩)⟩
end
section
variable {P : Program} {wd : World} {K : PySem.W.Frag} {mg : Str → Option Value} {base : Heap} {C : Addr}
theorem scIsL : FnScope ["table", "name", "but", "lease", "found"] ["table", "name", "but"] (defScope sIsLeased) := ⟨rfl, rfl, rfl, by decide +kernel, rfl, by decide +kernel, by decide +kernel⟩
def spILN (C : Addr) : Sp := fun vs H Q _ => ∃ (x : V) (z : Str) (u : U) (w : Addr), vs = [x, .str z, .non] ∧ At w C H x u ∧ (∃ o, H w = some o) ∧ gTable u = true ∧ Sm u ∧ ∀ H', Same H H' → Q (.bl (hindN (lsOf u) z (clkU u))) H'
theorem ok_isLeasedN {f : Addr} {fd : FuncData} (D : Df K mg "is_leased" sIsLeased ["table", "name", "but"] f fd) (N : Ct mg) (ba : mg "any" = none) : FnOk P wd K mg base CX0 1 f fd ["table", "name", "but"] (spILN C) := by
  refine D.F.ok scIsL (fun vs H Q E h => ?_) (fun cdv A outer s H vs Q E hr h => ?_)
  · obtain ⟨x, z, u, w, rfl, _⟩ := h
    rfl
  obtain ⟨x, z, u, w, rfl, hx, hw, gt, sm, k⟩ := h
  refine ⟨_, pss_cons (ps_setLc (i := 4) (own := [("lease", 3)]) (g := gName 3) rfl scIsL.nd rfl rfl rfl (pi_tup (pe_ix ix_tup (pv 0) (pe_gi (by rfl) N.p6) (fun _ _ => rfl))) (blkOk_by (N := ["table", "name", "but", "lease", "found"]) (sc := defScope sIsLeased) (by decide +kernel)) (fun _ _ _ _ _ => pg_name (i := 3) scIsL.nd rfl (Or.inl rfl))
      (fun _ _ _ _ _ => pts_one (PW.pt (pw_and (pt_cmpR op_eq (pe_ix (show IxR _ (rIxT K) from ix_tup) (pv 3) pe_int (fun _ _ => rfl)) (pv 1) (nomark _)) (pw_and1 (pt_cmpR op_lt (pe_ix (show IxR _ (rIxT K) from ix_tup) (pv 0) (pe_gi (by rfl) N.p3) (fun _ _ => rfl)) (pe_ix (show IxR _ (rIxT K) from ix_tup) (pv 3) pe_int (fun _ _ => rfl)) (nomark _)))))) (fun _ _ _ _ _ => pv 3))
    (pss_one (ps_ret (pe_callB (show CallR _ _ (rAny K) from cr_any rfl) (by rfl) ba boot_any' (pa_cons (pe_lc (own := [("lease", 3)]) (g := gName 3) (tt := tYes) rfl scIsL.nd (pi_list (pv 4)) (blkOk_by (N := ["table", "name", "but", "lease", "found"]) (sc := defScope sIsLeased) (by decide +kernel))
      (fun _ _ _ _ _ => pg_name (i := 3) scIsL.nd rfl (Or.inl rfl)) (fun _ _ _ _ _ => pts_nil) (fun _ _ _ _ _ => pe_cmpR op_ne (pe_ix (show IxR _ (rIxT K) from ix_tup) (pv 3) pe_int (fun _ _ => rfl)) (pv 2) (nomark _))) pa_nil)))), ?_⟩
  obtain ⟨hs, bs, T⟩ := gTable_has gt
  obtain ⟨e6, ga, e3⟩ := gTable_ls gt
  obtain ⟨y6, f6, a6⟩ := ev_nth (K := K) (σ := [some x, some (.str z), some .non, none, none]) (te := tVar 0) (k := 6) (ev_var rfl) hx T.t (by decide)
  rw [e6] at a6
  obtain ⟨pl, xl, rfl, hpl, npl, ll⟩ := at_tup a6
  have lsz : (lsOf u).length ≤ 40000 := by
    have h1 := wt_len4 (lsOf u)
    have h2 : wt (.tup (lsOf u)) ≤ 160000 := by
      rw [← e6]
      exact sm.nth 6
    simp only [wt] at h2
    omega
  have lz : ∀ {y : V} {l : U} {G : Hp}, l ∈ lsOf u → At w C G y l → ∃ p q0 i t n, y = .ref p ∧ l = .tup [.str q0, .int i, .int t, .int n] ∧ Tu G p [.str q0, .int i, .int t, .int n] [.str q0, .int i, .int t, .int n] := fun {y l G} hl hy => by
    obtain ⟨q0, i, t, n, rfl⟩ := gLease_is (List.all_eq_true.mp ga l hl)
    obtain ⟨p, ys, rfl, hp, _, hys⟩ := at_tup hy
    cases hys with
    | cons b0 r => cases r with
      | cons b1 r => cases r with
        | cons b2 r => cases r with
          | cons b3 r =>
            cases r
            cases at_str b0
            cases at_int b1
            cases at_int b2
            cases at_int b3
            exact ⟨p, q0, i, t, n, rfl, rfl, hp⟩
  refine asg1 ?_
  show tLc (iTup K (tOp (rIxT K) (tVar 0) (tC (.int 6)))) (gName 3) (tAnd (tTest (tOp rEq (tOp (rIxT K) (tVar 3) (tC (V.int 0))) (tVar 1))) (tTest (tOp (rI0 fun i j => V.bl (decide (i < j))) (tOp (rIxT K) (tVar 0) (tC (V.int 3))) (tOp (rIxT K) (tVar 3) (tC (V.int 3)))))) (tVar 3) [3] [some x, some (.str z), some .non, none, none] H _
  refine (lc_D (K := K) (w := w) (C := C) (σ := [some x, some (.str z), some .non, none, none]) (j := 3) (vs := [3]) (g := lsAt z (clkU u)) (f := fun l => l) (te := tVar 3) f6 hpl ll lsz (fun l hl => gLease_pln (List.all_eq_true.mp ga l hl)) (fun _ => rfl) (fun y l G hl eg hy => ?_) (fun y l G hl _ eg hy => ed_ev (ev_var rfl) hy)) H (Ex.refl H) _ fun p ys H1 hp e1 h1 l1 => ?_
  · obtain ⟨q, q0, i, t, n, rfl, rfl, hq⟩ := lz hl hy
    obtain ⟨y3, f3, a3⟩ := ev_nth (K := K) (σ := [some x, some (.str z), some .non, some (.ref q), none]) (te := tVar 0) (k := 3) (ev_var rfl) (ex_at eg hx) T.t (by decide)
    rw [e3] at a3
    cases at_int a3
    exact et_is (et_and (et_test (ev_op (ev_ixT (K := K) (j := 0) (ev_var rfl) hq rfl) (ev_var rfl) (rv_eq rfl))) fun _ => et_test (ev_op f3 (ev_ixT (K := K) (j := 3) (ev_var rfl) hq rfl) rv_I0)) (by
      show (decide (V.str q0 = V.str z) && decide (clkU u < n)) = (decide (q0 = z) && decide (clkU u < n))
      congr 1
      exact decide_eq_decide.mpr ⟨fun h => V.str.inj h, fun h => by rw [h]⟩)
  · rw [List.map_id'] at l1
    show tRet _ _ [some x, some (.str z), some .non, none, some (.ref p)] H1
    refine s_ret (v := .bl (hindN (lsOf u) z (clkU u))) ?_ fun H2 e2 => k H2 (e1.trans e2)
    have := ev_anyL (K := K) (w := w) (C := C) (σ := [some x, some (.str z), some .non, none, some (.ref p)]) (j := 3) (vs := [3]) (tl := tVar 4) (te := tOp rNe (tOp (rIxT K) (tVar 3) (tC (.int 1))) (tVar 2)) (g := fun _ => true) (ev_var rfl) h1 (by
      have := List.length_filter_le (lsAt z (clkU u)) (lsOf u)
      omega) l1 (fun _ => rfl) fun y l hl hy => by
        obtain ⟨q, q0, i, t, n, rfl, rfl, hq⟩ := lz (List.mem_filter.mp hl).1 hy
        exact ev_is (ev_op (ev_ixT (K := K) (j := 1) (ev_var (i := 3) (σ := [some x, some (.str z), some .non, some (.ref q), some (.ref p)]) rfl) hq rfl) (ev_var (i := 2) rfl) (rv_ne (x := .int i) (y := .non) rfl)) (by rw [decide_eq_false (fun h => by cases h)]; rfl)
    rw [List.any_filter] at this
    have e : (lsOf u).any (fun l => lsAt z (clkU u) l && true) = hindN (lsOf u) z (clkU u) := by
      unfold hindN
      congr 1
      funext l
      exact Bool.and_true _
    rw [e] at this
    exact this
end
end Hs
namespace Hs
open PySem PySem.Spec PyProof.Rows L2 Hu Evl
abbrev sCarried : Stmt := topS 142
abbrev sAhOf : Stmt := topS 145
abbrev sSeal : Stmt := topS 141
def carU (z : Str) (e : Int) (m u : U) : U := .tup [.str z, .tup [.int e, m, nth u 4, ledU u]]
def ahU (z : Str) (e ep : Int) (u : U) : U := if (decide (z = "seal") && decide (ep = e + 1)) = true then carU "stood" e (nth u 1) u else .tup [.str "moved", .tup [.int e, .int ep, nth u 1, nth u 2]]
def inF (u : U) : Bool := (lsOf u).any fun l => decide (clkU u < intU (nth l 3))
def sealU (e : Int) (m u : U) : U := if inF u = true then toldU [] "leased" [.int e] else .tup [.tup [.tup [.str "seal", m]], carU "sealed" e m u]
theorem inF_any (u : U) : ((lsOf u).any fun l => hindN (lsOf u) (strU (nth l 0)) (clkU u)) = inF u := by
  unfold inF
  rw [Bool.eq_iff_iff, List.any_eq_true, List.any_eq_true]
  constructor
  · rintro ⟨l, hl, q⟩
    obtain ⟨l', hl', q'⟩ := List.any_eq_true.mp q
    unfold lsAt at q'
    rw [Bool.and_eq_true] at q'
    exact ⟨l', hl', q'.2⟩
  · rintro ⟨l, hl, q⟩
    refine ⟨l, hl, List.any_eq_true.mpr ⟨l, hl, ?_⟩⟩
    unfold lsAt
    rw [decide_eq_true rfl, q]
    rfl
section
variable {P : Program} {wd : World} {K : PySem.W.Frag} {mg : Str → Option Value} {base : Heap} {C : Addr}
theorem ed_if {w : Addr} {σ : L2.St} {H : Hp} {t : TT} {ta tb : TE} {u : U} {b : Bool} (h : EvT t σ H b) (h1 : b = true → EvD w C ta σ H u) (h2 : b = false → EvD w C tb σ H u) : EvD w C (tIf t ta tb) σ H u := fun H1 e Q q => h H1 e _ fun H2 e2 => by
  cases b with
  | true => exact h1 rfl H2 (e.trans e2) _ fun v H3 e3 a => q v H3 (e2.trans e3) a
  | false => exact h2 rfl H2 (e.trans e2) _ fun v H3 e3 a => q v H3 (e2.trans e3) a
/-- a part of the table -/
theorem tab_part {w : Addr} {σ : L2.St} {H : Hp} {x : V} {u : U} {j : Nat} {hs bs : List U} (h : σ[0]? = some (some x)) (hx : At w C H x u) (T : TabU u hs bs) (hj : j < 10) : ∃ y, Ev (tOp (rIxT K) (tVar 0) (tC (.int (j : Int)))) σ H y ∧ At w C H y (nth u j) := by
  obtain ⟨y, f, a⟩ := ev_nth (K := K) (σ := σ) (te := tVar 0) (k := j) (ev_var h) hx T.t hj
  exact ⟨y, f, a⟩
/-- any([f(x) for x in a tuple]) -/
theorem ev_anyT {w : Addr} {σ : L2.St} {H : Hp} {tl te : TE} {a : Addr} {j : Nat} {vs : List Nat} {us : List U} {xs : List V} {g : U → Bool} (h : Ev tl σ H (.ref a)) (hx : Tu H a xs us) (hz : us.length ≤ 500000) (hl : AtL w C H xs us) (hw : ∀ x, wipe ((wipe σ vs).set j (some x)) vs = wipe σ vs)
    (he : ∀ (x : V) (u : U) G, u ∈ us → Ex H G → At w C G x u → Ev te ((wipe σ vs).set j (some x)) G (.bl (g u))) :
    Ev (tCB (rAny K) (tCons (tLc (iTup K tl) (gName j) tYes te vs) tNil)) σ H (.bl (us.any g)) := fun H0 e Q q => h H0 e _ fun H1 e1 => ⟨a, rfl, ⟨xs, Tu.st (Tu.ex (e.trans e1) hx)⟩, fun Dl hD =>
  lc_tup (xs := xs) (fun i H' => Ex H1 H' ∧ H' Dl = some (.lst ((us.take i).map fun u => V.bl (g u)))) ⟨Ex.new hD, upd_same⟩ (fun i H' _ p => Tu.st (Tu.ex ((e.trans e1).trans p.1) hx)) (fun i x H2 hi p => by
    obtain ⟨p1, p2⟩ := p
    have hlen := AtL.length hl
    have hu : i < us.length := by
      have := (List.getElem?_eq_some_iff.mp hi).1
      omega
    obtain ⟨x', hx', hax⟩ := AtL.get hl (List.getElem?_eq_getElem hu)
    rw [hi] at hx'
    cases hx'
    refine ⟨hw x, et_yes (σ := (wipe σ vs).set j (some x)) (H := H2) H2 (Ex.refl _) _ fun H2' e2' => ?_⟩
    rw [if_pos rfl]
    have E2 := ((e.trans e1).trans p1).trans e2'
    refine he x us[i] H2' (List.getElem_mem hu) E2 (ex_at E2 hax) H2' (Ex.refl _) _ fun H3 e3 => ⟨_, e3 _ _ (e2' _ _ p2), ?_, fun q o hq => ?_, ?_⟩
    · rw [List.length_map, List.length_take]
      have := bit_line
      unfold bit at this
      omega
    · rw [upd_ne (ne_of_none hq hD)]
      exact e3 _ _ (e2' _ _ (p1 _ _ hq))
    · rw [upd_same, List.take_add_one, List.getElem?_eq_getElem hu, List.map_append]
      rfl) (fun H' p => ⟨Dl, us.map g, rfl, sq_of (by
        rw [p.2, AtL.length hl, List.take_length, List.map_map]
        rfl), by
        have e2 : (us.map g).any id = us.any g := by
          rw [List.any_map]
          rfl
        rw [e2]
        exact q _ (e1.trans p.1)⟩)⟩
def spCar (C : Addr) : Sp := fun vs H Q _ => ∃ (x mv : V) (z : Str) (e : Int) (u m : U) (w : Addr), vs = [x, .str z, .int e, mv] ∧ At w C H x u ∧ At w C H mv m ∧ (∃ o, H w = some o) ∧ gTable u = true ∧ Sm u ∧ ∀ v H', Same H H' → At w C H' v (carU z e m u) → Q v H'
theorem scCar : FnScope ["table", "word", "epoch", "members"] ["table", "word", "epoch", "members"] (defScope sCarried) := ⟨rfl, rfl, rfl, by decide +kernel, rfl, by decide +kernel, by decide +kernel⟩
theorem ok_carried {f f2 f3 : Addr} {fd d2 d3 : FuncData} (D : Df K mg "_carried" sCarried ["table", "word", "epoch", "members"] f fd) (N : Ct mg) (B : Bt mg) (D2 : Df K mg "led_by" sLedBy ["heads", "blocks"] f2 d2) (D3 : Df K mg "led_ids" sLedIds ["heads"] f3 d3) : FnOk P wd K mg base CX0 3 f fd ["table", "word", "epoch", "members"] (spCar C) := by
  have G2 : FnOk P wd K mg base CX0 2 f2 d2 ["heads", "blocks"] (spBy2 C) := ok_ledBy D2 B D3
  refine D.F.ok scCar (fun vs H Q E h => ?_) (fun cdv A outer s H vs Q E hr h => ?_)
  · obtain ⟨x, mv, z, e, u, m, w, rfl, _⟩ := h
    rfl
  obtain ⟨x, mv, z, e, u, m, w, rfl, hx, hm, hw, gt, sm, k⟩ := h
  refine ⟨_, pss_one (ps_ret (pe_tupF (pa_cons (pv 1) (pa_cons (pe_tupF (pa_cons (pv 2) (pa_cons (pv 3) (pa_cons (pe_ix (show IxR _ (rIxT K) from ix_tup) (pv 0) (pe_gi (by rfl) N.p4) (fun _ _ => rfl)) (pa_cons (pe_call G2 hr (by rfl) D2.g D2.F.kp D2.b .nil pass0 (pa_cons (pe_ix (show IxR _ (rIxT K) from ix_tup) (pv 0) (pe_gi (by rfl) N.p4) (fun _ _ => rfl)) (pa_cons (pe_ix (show IxR _ (rIxT K) from ix_tup) (pv 0) (pe_gi (by rfl) N.p5) (fun _ _ => rfl)) pa_nil))) pa_nil))))) pa_nil)))), ?_⟩
  obtain ⟨hs, bs, T⟩ := gTable_has gt
  obtain ⟨y4, f4, a4⟩ := tab_part (K := K) (j := 4) (σ := [some x, some (.str z), some (.int e), some mv]) rfl hx T (by decide)
  obtain ⟨y5, f5, a5⟩ := tab_part (K := K) (j := 5) (σ := [some x, some (.str z), some (.int e), some mv]) rfl hx T (by decide)
  have eL : ledU u = .tup (bs.filter (inLed hs)) := by
    unfold ledU
    rw [T.hs, T.bs]
  have a4' : At w C H y4 (.tup hs) := by rw [← T.h]; exact a4
  have a5' : At w C H y5 (.tup bs) := by rw [← T.b]; exact a5
  have led : EvD w C (tCall (spBy2 C) [] E0 (tCons (tOp (rIxT K) (tVar 0) (tC (.int 4))) (tCons (tOp (rIxT K) (tVar 0) (tC (.int 5))) tNil))) [some x, some (.str z), some (.int e), some mv] H (ledU u) := fun G1 g1 Q q =>
    call1 (ea_cons (f4.mono g1) (ea_cons (f5.mono g1) ea_nil)) fun G2 g2 => ⟨y4, y5, hs, bs, w, rfl, ex_at (g1.trans g2) a4', ex_at (g1.trans g2) a5', T.ha, T.ba, by have := T.hlen sm; omega, by have := T.blen sm; omega, hw.imp fun o q => (g1.trans g2) _ _ q, fun v G3 s a => q v G3 (g2.trans s) (by rw [eL]; exact a)⟩
  refine ret1 ?_
  refine (ed_tup (C := C) (w := w) hw (eds_cons (ed_ev (te := tVar 1) (ev_var rfl) (.str z)) (eds_cons (ed_tup hw (eds_cons (ed_ev (te := tVar 2) (ev_var rfl) (.int e)) (eds_cons (ed_ev (te := tVar 3) (ev_var rfl) hm) (eds_cons (ed_ev f4 a4) (eds_cons led eds_nil)))) (by show (4 : Nat) ≤ 100000; decide)) eds_nil)) (by show (2 : Nat) ≤ 100000; decide)) H (Ex.refl H) _ fun v H1 e1 a => k v H1 e1 a
def spAh (C : Addr) : Sp := fun vs H Q _ => ∃ (x : V) (z : Str) (e ep : Int) (u : U) (w : Addr), vs = [x, .str z, .int e] ∧ At w C H x u ∧ (∃ o, H w = some o) ∧ gTable u = true ∧ Sm u ∧ nth u 0 = .int ep ∧ ∀ v H', Same H H' → At w C H' v (ahU z e ep u) → Q v H'
theorem scAhOf : FnScope ["table", "word", "epoch"] ["table", "word", "epoch"] (defScope sAhOf) := ⟨rfl, rfl, rfl, by decide +kernel, rfl, by decide +kernel, by decide +kernel⟩
theorem ok_ahead {f f1 : Addr} {fd d1 : FuncData} (D : Df K mg "_ahead_of_hand" sAhOf ["table", "word", "epoch"] f fd) (N : Ct mg) (D1 : Df K mg "_carried" sCarried ["table", "word", "epoch", "members"] f1 d1) (G1 : FnOk P wd K mg base CX0 3 f1 d1 ["table", "word", "epoch", "members"] (spCar C)) : FnOk P wd K mg base CX0 4 f fd ["table", "word", "epoch"] (spAh C) := by
  refine D.F.ok scAhOf (fun vs H Q E h => ?_) (fun cdv A outer s H vs Q E hr h => ?_)
  · obtain ⟨x, z, e, ep, u, w, rfl, _⟩ := h
    rfl
  obtain ⟨x, z, e, ep, u, w, rfl, hx, hw, gt, sm, he, k⟩ := h
  refine ⟨_, pss_cons (ps_if (PW.pt (pw_and (pt_cmpR op_eq (pv 1) pe_str (nomark _)) (pw_and1 (pt_cmpR op_eq (pe_ix (show IxR _ (rIxT K) from ix_tup) (pv 0) (pe_gi (by rfl) N.p0) (fun _ _ => rfl)) (pe_op op_add (pv 2) pe_int) (nomark _))))) (pss_one (ps_ret (pe_call G1 hr (by rfl) D1.g D1.F.kp D1.b .nil pass0 (pa_cons (pv 0) (pa_cons pe_str (pa_cons (pv 2) (pa_cons (pe_ix (show IxR _ (rIxT K) from ix_tup) (pv 0) (pe_gi (by rfl) N.p1) (fun _ _ => rfl)) pa_nil))))))) pss_nil)
    (pss_one (ps_ret (pe_tupF (pa_cons pe_str (pa_cons (pe_tupF (pa_cons (pv 2) (pa_cons (pe_ix (show IxR _ (rIxT K) from ix_tup) (pv 0) (pe_gi (by rfl) N.p0) (fun _ _ => rfl)) (pa_cons (pe_ix (show IxR _ (rIxT K) from ix_tup) (pv 0) (pe_gi (by rfl) N.p1) (fun _ _ => rfl)) (pa_cons (pe_ix (show IxR _ (rIxT K) from ix_tup) (pv 0) (pe_gi (by rfl) N.p2) (fun _ _ => rfl)) pa_nil))))) pa_nil))))), ?_⟩
  obtain ⟨hs, bs, T⟩ := gTable_has gt
  obtain ⟨y0, f0, a0⟩ := tab_part (K := K) (j := 0) (σ := [some x, some (.str z), some (.int e)]) rfl hx T (by decide)
  obtain ⟨y1, f1', a1⟩ := tab_part (K := K) (j := 1) (σ := [some x, some (.str z), some (.int e)]) rfl hx T (by decide)
  obtain ⟨y2, f2', a2⟩ := tab_part (K := K) (j := 2) (σ := [some x, some (.str z), some (.int e)]) rfl hx T (by decide)
  have a0' := a0
  rw [he] at a0'
  cases at_int a0'
  have dz : ∀ y : Str, decide (V.str z = V.str y) = decide (z = y) := fun y => decide_eq_decide.mpr ⟨fun h => V.str.inj h, fun h => by rw [h]⟩
  have di : ∀ i j : Int, decide (V.int i = V.int j) = decide (i = j) := fun i j => decide_eq_decide.mpr ⟨fun h => V.int.inj h, fun h => by rw [h]⟩
  refine q_when (b := decide (z = "seal") && decide (ep = e + 1)) (et_and (et_test (ev_is (ev_op (ev_var rfl) ev_c (rv_eq rfl)) (by rw [dz]))) fun _ => et_test (ev_is (ev_op f0 (ev_op (ev_var rfl) ev_c rv_I0) (rv_eq rfl)) (by rw [di]))) (fun q H1 e1 => ?_) (fun q H1 e1 => ?_)
  · refine ret1 ?_
    refine call1 (ea_cons (ev_var rfl) (ea_cons ev_c (ea_cons (ev_var rfl) (ea_cons (f1'.mono e1) ea_nil)))) fun H2 e2 => ⟨x, y1, "stood", e, u, nth u 1, w, rfl, ex_at (e1.trans e2) hx, ex_at (e1.trans e2) a1, hw.imp fun o q => (e1.trans e2) _ _ q, gt, sm, fun v H3 s a => k v H3 ((e1.trans e2).trans s) ?_⟩
    unfold ahU
    rw [if_pos q]
    exact a
  · refine ret1 ?_
    have hw1 : ∃ o, H1 w = some o := hw.imp fun o q => e1 _ _ q
    refine (ed_tup (C := C) (w := w) hw1 (eds_cons (ed_ev (te := tC (.str "moved")) ev_c (.str _)) (eds_cons (ed_tup hw1 (eds_cons (ed_ev (te := tVar 2) (ev_var rfl) (.int e)) (eds_cons (ed_ev (f0.mono e1) (.int ep)) (eds_cons (ed_ev (f1'.mono e1) (ex_at e1 a1)) (eds_cons (ed_ev (f2'.mono e1) (ex_at e1 a2)) eds_nil)))) (by show (4 : Nat) ≤ 100000; decide)) eds_nil)) (by show (2 : Nat) ≤ 100000; decide)) H1 (Ex.refl H1) _ fun v H2 e2 a => k v H2 (e1.trans e2) ?_
    unfold ahU
    rw [if_neg (by rw [q]; decide)]
    exact a
abbrev nmSeal : List Str := ["table", "hand", "talk", "rest", "epoch", "members", "lease"]
theorem scSeal : FnScope nmSeal ["table", "hand", "talk", "rest"] (defScope sSeal) := ⟨rfl, rfl, rfl, by decide +kernel, rfl, by decide +kernel, by decide +kernel⟩
/-- what a home does with a letter, told as data -/
def spDoA (C : Addr) (Pre : U → List U → Prop) (Out : U → List U → U) : Sp := fun vs H Q _ => ∃ (x r : V) (h t : Int) (u : U) (rest : List U) (w : Addr), vs = [x, .int h, .int t, r] ∧ At w C H x u ∧ At w C H r (.tup rest) ∧ (∃ o, H w = some o) ∧ gTable u = true ∧ Sm u ∧ Pre u rest ∧ ∀ v H', Same H H' → At w C H' v (Out u rest) → Q v H'
def PreSe (_ : U) (rest : List U) : Prop := ∃ e m, rest = [.int e, m]
def oSeal (u : U) (rest : List U) : U := sealU (intU (fE rest)) (fA rest) u
theorem ok_seal {f fI fC : Addr} {fd dI dC : FuncData} (D : Df K mg "_seal" sSeal ["table", "hand", "talk", "rest"] f fd) (N : Ct mg) (ba : mg "any" = none) (DI : Df K mg "is_leased" sIsLeased ["table", "name", "but"] fI dI) (DC : Df K mg "_carried" sCarried ["table", "word", "epoch", "members"] fC dC) (GC : FnOk P wd K mg base CX0 3 fC dC ["table", "word", "epoch", "members"] (spCar C)) :
    FnOk P wd K mg base CX0 4 f fd ["table", "hand", "talk", "rest"] (spDoA C PreSe oSeal) := by
  have GI : FnOk P wd K mg base CX0 3 fI dI ["table", "name", "but"] (spILN C) := (ok_isLeasedN DI N ba).mono (by decide)
  refine D.F.ok scSeal (fun vs H Q E h => ?_) (fun cdv A outer s H vs Q E hr h => ?_)
  · obtain ⟨x, r, h, t, u, rest, w, rfl, _⟩ := h
    rfl
  obtain ⟨x, r, h, t, u, rest, w, rfl, hx, hy, hw, gt, sm, ⟨e, m, rfl⟩, k⟩ := h
  refine ⟨_, pss_cons (ps_asg (pv 3) (pg_tup rfl (pgs_cons (pg_name (i := 4) scSeal.nd rfl (.inl rfl)) (pgs_cons (pg_name (i := 5) scSeal.nd rfl (.inl rfl)) pgs_nil))))
    (pss_cons (ps_if (pt_val (pe_callB (show CallR _ _ (rAny K) from cr_any rfl) (by rfl) ba boot_any' (pa_cons (pe_lc (own := [("lease", 6)]) (g := gName 6) (tt := tYes) (te := tCall (spILN C) [] E0 (tCons (tVar 0) (tCons (tOp (rIxT K) (tVar 6) (tC (.int 0))) (tCons (tC .non) tNil)))) rfl scSeal.nd (pi_tup (pe_ix (show IxR _ (rIxT K) from ix_tup) (pv 0) (pe_gi (by rfl) N.p6) (fun _ _ => rfl))) (blkOk_by (N := nmSeal) (sc := defScope sSeal) (by decide +kernel)) (fun _ _ _ _ _ => pg_name (i := 6) scSeal.nd rfl (Or.inl rfl)) (fun _ _ _ _ _ => pts_nil) (fun _ _ _ _ _ => (pe_call GI hr (by rfl) DI.g DI.F.kp DI.b .nil pass0 (pa_cons (pv 0) (pa_cons (pe_ix (show IxR _ (rIxT K) from ix_tup) (pv 6) pe_int (fun _ _ => rfl)) (pa_cons pe_non pa_nil)))))) pa_nil))) (pss_one (ps_ret (pe_tupF (pa_cons (pe_tupF pa_nil) (pa_cons (pe_tupF (pa_cons pe_str (pa_cons (pe_tupF (pa_cons (pv 4) pa_nil)) pa_nil))) pa_nil))))) pss_nil)
    (pss_one (ps_ret (pe_tupF (pa_cons (pe_tupF (pa_cons (pe_tupF (pa_cons pe_str (pa_cons (pv 5) pa_nil))) pa_nil)) (pa_cons (pe_call GC hr (by rfl) DC.g DC.F.kp DC.b .nil pass0 (pa_cons (pv 0) (pa_cons pe_str (pa_cons (pv 4) (pa_cons (pv 5) pa_nil))))) pa_nil)))))), ?_⟩
  obtain ⟨hs, bs, T⟩ := gTable_has gt
  obtain ⟨pa, ys, rfl, hpa, _, hys⟩ := at_tup hy
  obtain ⟨ym, rfl, am⟩ : ∃ ym, ys = [.int e, ym] ∧ At w C H ym m := by
    cases hys with
    | cons h1 h2 => cases h2 with
      | cons h3 h4 =>
        cases h4
        cases at_int h1
        exact ⟨_, rfl, h3⟩
  refine ⟨_, rfl, pa, _, rfl, Tu.st hpa, rfl, _, _, rfl, _, _, rfl, rfl, ?_⟩
  dsimp only [gName]
  show tSeq _ _ _ [some x, some (.int h), some (.int t), some (.ref pa), some (.int e), some ym, none] H
  obtain ⟨e6, ga, e3⟩ := gTable_ls gt
  obtain ⟨y6, f6, a6⟩ := tab_part (K := K) (j := 6) (σ := [some x, some (.int h), some (.int t), some (.ref pa), some (.int e), some ym, none]) rfl hx T (by decide)
  rw [e6] at a6
  obtain ⟨pl, xl, rfl, hpl, npl, ll⟩ := at_tup a6
  have lsz : (lsOf u).length ≤ 40000 := by
    have h1 := wt_len4 (lsOf u)
    have h2 : wt (.tup (lsOf u)) ≤ 160000 := by
      rw [← e6]
      exact sm.nth 6
    simp only [wt] at h2
    omega
  have any : Ev (tCB (rAny K) (tCons (tLc (iTup K (tOp (rIxT K) (tVar 0) (tC (.int 6)))) (gName 6) tYes (tCall (spILN C) [] E0 (tCons (tVar 0) (tCons (tOp (rIxT K) (tVar 6) (tC (.int 0))) (tCons (tC .non) tNil)))) [6]) tNil)) [some x, some (.int h), some (.int t), some (.ref pa), some (.int e), some ym, none] H (.bl (inF u)) := by
    rw [← inF_any u]
    refine ev_anyT (K := K) (w := w) (C := C) f6 hpl (by omega) ll (fun _ => rfl) fun y l G hl eg hy => ?_
    obtain ⟨q0, i, t', n, rfl⟩ := gLease_is (List.all_eq_true.mp ga l hl)
    obtain ⟨v0, f0, a0⟩ := nth_at (K := K) (te := tVar 6) (σ := [some x, some (.int h), some (.int t), some (.ref pa), some (.int e), some ym, some y]) hy (ev_var rfl) 0 (by show (0 : Nat) < 4; decide)
    cases at_str (show At w C G v0 (.str q0) from a0)
    exact ev_call (ea_cons (ev_var rfl) (ea_cons f0 (ea_cons ev_c ea_nil))) fun G2 g2 Q q E => ⟨x, q0, u, w, rfl, ex_at (eg.trans g2) hx, hw.imp fun o z => (eg.trans g2) _ _ z, gt, sm, q⟩
  refine q_when (b := inF u) (et_B any) (fun q H1 e1 => ?_) (fun q H1 e1 => ?_)
  · refine ret1 ?_
    have hw1 : ∃ o, H1 w = some o := hw.imp fun o q => e1 _ _ q
    refine (ed_tup (C := C) (w := w) hw1 (eds_cons (ed_tup hw1 eds_nil (by simp)) (eds_cons (ed_tup hw1 (eds_cons (ed_ev (te := tC (.str "leased")) ev_c (.str _)) (eds_cons (ed_tup hw1 (eds_cons (ed_ev (te := tVar 4) (ev_var rfl) (.int e)) eds_nil) (by simp)) eds_nil)) (by simp)) eds_nil)) (by simp)) H1 (Ex.refl H1) _ fun v H2 e2 a => k v H2 (e1.trans e2) ?_
    have : oSeal u [.int e, m] = toldU [] "leased" [.int e] := if_pos q
    rw [this]
    exact a
  · refine ret1 ?_
    have hw1 : ∃ o, H1 w = some o := hw.imp fun o q => e1 _ _ q
    have car : EvD w C (tCall (spCar C) [] E0 (tCons (tVar 0) (tCons (tC (.str "sealed")) (tCons (tVar 4) (tCons (tVar 5) tNil))))) [some x, some (.int h), some (.int t), some (.ref pa), some (.int e), some ym, none] H1 (carU "sealed" e m u) := fun G1 g1 Q q =>
      call1 (ea_cons (ev_var rfl) (ea_cons ev_c (ea_cons (ev_var rfl) (ea_cons (ev_var rfl) ea_nil)))) fun G2 g2 => ⟨x, ym, "sealed", e, u, m, w, rfl, ex_at ((e1.trans g1).trans g2) hx, ex_at ((e1.trans g1).trans g2) am, hw1.imp fun o q => (g1.trans g2) _ _ q, gt, sm, fun v G3 s a => q v G3 (g2.trans s) a⟩
    refine (ed_tup (C := C) (w := w) hw1 (eds_cons (ed_tup hw1 (eds_cons (ed_tup hw1 (eds_cons (ed_ev (te := tC (.str "seal")) ev_c (.str _)) (eds_cons (ed_ev (te := tVar 5) (ev_var rfl) (ex_at e1 am)) eds_nil)) (by simp)) eds_nil) (by simp)) (eds_cons car eds_nil)) (by simp)) H1 (Ex.refl H1) _ fun v H2 e2 a => k v H2 (e1.trans e2) ?_
    have : oSeal u [.int e, m] = .tup [.tup [.tup [.str "seal", m]], carU "sealed" e m u] := if_neg (by rw [q]; decide)
    rw [this]
    exact a
end
end Hs
namespace Hs
open PySem PySem.Spec PyProof.Rows L2 Hu Evl
open Hk (SI ltSI nearOk)
def W11 : List Str := ["ask", "list", "get", "put", "head", "lease", "free", "prepare", "accept", "seal", "install"]
structure TabG (u : U) : Prop where
  g : gTable u = true
  f : Fine u
  s : Sm u
  p : pln u
def epU (u : U) : Int := intU (nth u 0)
def outW (u : U) (z : Str) (rest : List U) : U :=
  if (decide (z = "install") && decide (epU u ≤ intU (fE rest))) = true then toldU (if decide (epU u < intU (fE rest)) = true then [.tup (.str "install" :: rest)] else []) "installed" [.int (intU (fE rest))]
  else if decide (epU u > intU (fE rest)) = true then .tup [.tup [], ahU z (intU (fE rest)) (epU u) u]
  else if decide (epU u < intU (fE rest)) = true then toldU [] "behind" [.int (intU (fE rest))]
  else if (!isNon (nth u 9) && decide (z = "seal")) = true then .tup [.tup [], carU "sealed" (intU (fE rest)) (nth u 9) u]
  else if (!isNon (nth u 9)) = true then toldU [] "moved" [.int (intU (fE rest)), .int (intU (fE rest) + 1), nth u 9, nth u 1]
  else sealU (intU (fE rest)) (fA rest) u
structure PreW (u : U) (z : Str) (rest : List U) : Prop where
  w : z ∈ W11
  r : ∃ e rs, rest = .int e :: rs
  e0 : nth u 0 = .int (epU u)
  n : rest.length ≤ 1000
  s : z = "seal" → ∃ m, rest = [fE rest, m]
  l : isNon (nth u 9) = true → epU u = intU (fE rest) → z ≠ "install" → z = "seal"
  p : pln (.tup rest)
theorem pln_nth {u : U} {j : Nat} (h : pln u) : pln (nth u j) := by
  cases u with
  | tup us =>
    show pln (us.getD j .non)
    rw [List.getD_eq_getElem?_getD]
    cases e : us[j]? with
    | none => trivial
    | some x => exact plnL_all.mp h x (List.mem_of_getElem? e)
  | _ => trivial
theorem car_pln {z : Str} {e : Int} {m u : U} (hm : pln m) (hu : pln u) : pln (carU z e m u) := by
  refine ⟨trivial, ⟨trivial, hm, pln_nth hu, ?_, trivial⟩, trivial⟩
  refine plnL_all.mpr fun b hb => ?_
  have hb' := (List.mem_filter.mp hb).1
  have h5 := pln_nth (j := 5) hu
  unfold bsOf at hb'
  cases e5 : nth u 5 with
  | tup us =>
    rw [e5] at hb' h5
    exact plnL_all.mp h5 b hb'
  | _ => rw [e5] at hb'; cases hb'
theorem outW_pln {u : U} {z : Str} {rest : List U} (te : TabG u) (pre : PreW u z rest) : pln (outW u z rest) := by
  have hu := te.p
  have hA : pln (fA rest) := by
    show pln (rest.getD 1 .non)
    rw [List.getD_eq_getElem?_getD]
    cases e : rest[1]? with
    | none => trivial
    | some x => exact plnL_all.mp pre.p x (List.mem_of_getElem? e)
  unfold outW
  split
  · refine ⟨?_, ⟨trivial, ⟨trivial, trivial⟩, trivial⟩, trivial⟩
    split
    · exact ⟨⟨trivial, pre.p⟩, trivial⟩
    · trivial
  split
  · refine ⟨trivial, ?_, trivial⟩
    unfold ahU
    split
    · exact car_pln (pln_nth hu) hu
    · exact ⟨trivial, ⟨trivial, trivial, pln_nth hu, pln_nth hu, trivial⟩, trivial⟩
  split
  · exact ⟨trivial, ⟨trivial, ⟨trivial, trivial⟩, trivial⟩, trivial⟩
  split
  · exact ⟨trivial, car_pln (pln_nth hu) hu, trivial⟩
  split
  · exact ⟨trivial, ⟨trivial, ⟨trivial, trivial, pln_nth hu, pln_nth hu, trivial⟩, trivial⟩, trivial⟩
  · unfold sealU
    split
    · exact ⟨trivial, ⟨trivial, ⟨trivial, trivial⟩, trivial⟩, trivial⟩
    · exact ⟨⟨⟨trivial, hA, trivial⟩, trivial⟩, car_pln hA hu, trivial⟩
theorem outW_told (u : U) (z : Str) (rest : List U) : IsTold (outW u z rest) := by
  unfold outW
  split
  · exact ⟨_, _, _, rfl⟩
  split
  · unfold ahU
    split <;> exact ⟨_, _, _, rfl⟩
  split
  · exact ⟨_, _, _, rfl⟩
  split
  · exact ⟨_, _, _, rfl⟩
  split
  · exact ⟨_, _, _, rfl⟩
  · unfold sealU
    split <;> exact ⟨_, _, _, rfl⟩
section
variable {P : Program} {wd : World} {K : PySem.W.Frag} {mg : Str → Option Value} {base : Heap} {C : Addr}
def spWH4 (C : Addr) : Sp := fun vs H Q _ => ∃ (x r : V) (h t : Int) (u : U) (z : Str) (rest : List U) (w : Addr), vs = [x, .int h, .int t, .str z, r] ∧ At w C H x u ∧ At w C H r (.tup rest) ∧ (∃ o, H w = some o) ∧ TabG u ∧ PreW u z rest ∧ ∀ v H', Same H H' → At w C H' v (outW u z rest) → Q v H'
set_option maxHeartbeats 1000000 in
theorem ok_withHand4 {f fG fA' fC aW : Addr} {fd dG dA dC : FuncData} (D : Df K mg "_with_hand" sWithHand ["table", "hand", "talk", "word", "rest"] f fd) (N : Ct mg) (hg : mg "WORDS_answers" = some (.ref aW)) (hk : KDct K wd aW "seal" (.ref fG)) (kp : PySem.W.keepIn K (.ref fG) = true) (bG : Binds K dG ["table", "hand", "talk", "rest"] []) (G : FnOk P wd K mg base CX0 4 fG dG ["table", "hand", "talk", "rest"] (spDoA C PreSe oSeal))
    (DA : Df K mg "_ahead_of_hand" sAhOf ["table", "word", "epoch"] fA' dA) (GA : FnOk P wd K mg base CX0 4 fA' dA ["table", "word", "epoch"] (spAh C)) (DC : Df K mg "_carried" sCarried ["table", "word", "epoch", "members"] fC dC) (GC0 : FnOk P wd K mg base CX0 3 fC dC ["table", "word", "epoch", "members"] (spCar C)) :
    FnOk P wd K mg base CX0 5 f fd ["table", "hand", "talk", "word", "rest"] (spWH4 C) := by
  have GC : FnOk P wd K mg base CX0 4 fC dC ["table", "word", "epoch", "members"] (spCar C) := GC0.mono (by decide)
  refine D.F.ok scWH (fun vs H Q E h => ?_) (fun cdv A outer s H vs Q E hr h => ?_)
  · obtain ⟨x, r, h, t, u, z, rest, w, rfl, _⟩ := h
    rfl
  obtain ⟨x, r, h, t, u, z, rest, w, rfl, hx, hy, hw, te, pre, k⟩ := h
  refine ⟨_, pss_cons (ps_set (i := 5) scWH.nd rfl (.inl rfl) (pe_ix (show IxR _ (rIxT K) from ix_tup) (pv 4) pe_int (fun _ _ => rfl)))
    (pss_cons (ps_if (PW.pt (pw_and (pt_cmpR op_eq (pv 3) pe_str (nomark _)) (pw_and1 (pt_cmpR op_le (pe_ix (show IxR _ (rIxT K) from ix_tup) (pv 0) (pe_gi (by rfl) N.p0) (fun _ _ => rfl)) (pv 5) (nomark _))))) (pss_cons (ps_set (i := 6) scWH.nd rfl (.inl rfl) (pe_ifExp (pt_cmpR op_lt (pe_ix (show IxR _ (rIxT K) from ix_tup) (pv 0) (pe_gi (by rfl) N.p0) (fun _ _ => rfl)) (pv 5) (nomark _)) (pe_tupF (pa_cons (pe_op (show OpR _ _ (rCatF K) from op_catF) (pe_tupF (pa_cons pe_str pa_nil)) (pv 4)) pa_nil)) (pe_tupF pa_nil)))
    (pss_one (ps_ret (pe_tupF (pa_cons (pv 6) (pa_cons (pe_tupF (pa_cons pe_str (pa_cons (pe_tupF (pa_cons (pv 5) pa_nil)) pa_nil))) pa_nil)))))) pss_nil)
    (pss_cons (ps_if (pt_cmpR op_gt (pe_ix (show IxR _ (rIxT K) from ix_tup) (pv 0) (pe_gi (by rfl) N.p0) (fun _ _ => rfl)) (pv 5) (nomark _)) (pss_one (ps_ret (pe_tupF (pa_cons (pe_tupF pa_nil) (pa_cons (pe_call GA hr (by rfl) DA.g DA.F.kp DA.b .nil pass0 (pa_cons (pv 0) (pa_cons (pv 3) (pa_cons (pv 5) pa_nil)))) pa_nil))))) pss_nil)
    (pss_cons (ps_if (pt_cmpR op_lt (pe_ix (show IxR _ (rIxT K) from ix_tup) (pv 0) (pe_gi (by rfl) N.p0) (fun _ _ => rfl)) (pv 5) (nomark _)) (pss_one (ps_ret (pe_tupF (pa_cons (pe_tupF pa_nil) (pa_cons (pe_tupF (pa_cons pe_str (pa_cons (pe_tupF (pa_cons (pv 5) pa_nil)) pa_nil))) pa_nil))))) pss_nil)
    (pss_cons (ps_if (PW.pt (pw_and (pt_cmpR op_notN1 (pe_ix (show IxR _ (rIxT K) from ix_tup) (pv 0) (pe_gi (by rfl) N.p9) (fun _ _ => rfl)) pe_non (nomark _)) (pw_and1 (pt_cmpR op_eq (pv 3) pe_str (nomark _))))) (pss_one (ps_ret (pe_tupF (pa_cons (pe_tupF pa_nil) (pa_cons (pe_call GC hr (by rfl) DC.g DC.F.kp DC.b .nil pass0 (pa_cons (pv 0) (pa_cons pe_str (pa_cons (pv 5) (pa_cons (pe_ix (show IxR _ (rIxT K) from ix_tup) (pv 0) (pe_gi (by rfl) N.p9) (fun _ _ => rfl)) pa_nil))))) pa_nil))))) pss_nil)
    (pss_cons (ps_if (pt_cmpR op_notN1 (pe_ix (show IxR _ (rIxT K) from ix_tup) (pv 0) (pe_gi (by rfl) N.p9) (fun _ _ => rfl)) pe_non (nomark _)) (pss_one (ps_ret (pe_tupF (pa_cons (pe_tupF pa_nil) (pa_cons (pe_tupF (pa_cons pe_str (pa_cons (pe_tupF (pa_cons (pv 5) (pa_cons (pe_op op_add (pv 5) pe_int) (pa_cons (pe_ix (show IxR _ (rIxT K) from ix_tup) (pv 0) (pe_gi (by rfl) N.p9) (fun _ _ => rfl)) (pa_cons (pe_ix (show IxR _ (rIxT K) from ix_tup) (pv 0) (pe_gi (by rfl) N.p1) (fun _ _ => rfl)) pa_nil))))) pa_nil))) pa_nil))))) pss_nil)
    (pss_cons (ps_set (i := 7) scWH.nd rfl (.inl rfl) (pe_ix ix_kdict (pe_glob (v := .ref aW) (by rfl) hg rfl) (pv 3) (fun _ _ => rfl)))
    (pss_one (ps_ret (pe_callL (i := 7) G hr rfl (.inl rfl) kp bG .nil pass0 (pa_cons (pv 0) (pa_cons (pv 1) (pa_cons (pv 2) (pa_cons (pv 4) pa_nil))))))))))))), ?_⟩
  obtain ⟨e, rs, er⟩ := pre.r
  have ee : intU (fE rest) = e := by rw [er]; rfl
  obtain ⟨hs, bs, T⟩ := gTable_has te.g
  obtain ⟨pa, ys, rfl, hpa, _, hys⟩ := at_tup hy
  obtain ⟨y0, hy0, ay0⟩ := AtL.get (i := 0) hys (show rest[0]? = some (.int e) by rw [er]; rfl)
  cases at_int ay0
  refine q_asg (v := .int e) (ev_op (ev_var rfl) ev_c (rv_ixT (Tu.st hpa) (atI_nat (j := 0) hy0))) fun H1 e1 => ?_
  show tSeq _ _ _ [some x, some (.int h), some (.int t), some (.str z), some (.ref pa), some (.int e), none, none] H1
  have dz : ∀ y : Str, decide (V.str z = V.str y) = decide (z = y) := fun y => decide_eq_decide.mpr ⟨fun h => V.str.inj h, fun h => by rw [h]⟩
  have part : ∀ (j : Nat) {G : Hp} {τ : L2.St}, j < 10 → Ex H G → τ[0]? = some (some x) → ∃ y, Ev (tOp (rIxT K) (tVar 0) (tC (.int (j : Int)))) τ G y ∧ At w C G y (nth u j) := fun j {G τ} hj eg h0 => tab_part (K := K) h0 (ex_at eg hx) T hj
  have i0 : ∀ {G : Hp} {τ : L2.St}, Ex H G → τ[0]? = some (some x) → Ev (tOp (rIxT K) (tVar 0) (tC (.int 0))) τ G (.int (epU u)) := fun {G τ} eg h0 => by
    obtain ⟨y, f, a⟩ := part 0 (by decide) eg h0
    rw [pre.e0] at a
    cases at_int a
    exact f
  have tN : ∀ {G : Hp} {τ : L2.St}, Ex H G → τ[0]? = some (some x) → EvT (tTest (tOp rNotN (tOp (rIxT K) (tVar 0) (tC (.int 9))) (tC .non))) τ G (!isNon (nth u 9)) := fun {G τ} eg h0 => by
    obtain ⟨y, f, a⟩ := part 9 (by decide) eg h0
    refine et_test (ev_is (ev_op (z := .bl (!decide (y = .non))) f ev_c fun G e Q q => ⟨rfl, q G (Ex.refl G)⟩) (by rw [at_non a]))
  have hwG : ∀ {G : Hp}, Ex H G → ∃ o, G w = some o := fun e => hw.imp fun o q => e _ _ q
  refine q_when (b := decide (z = "install") && decide (epU u ≤ e)) (et_and (et_test (ev_is (ev_op (ev_var rfl) ev_c (rv_eq rfl)) (by rw [dz]))) fun _ => et_test (ev_op (i0 e1 rfl) (ev_var rfl) rv_I0)) (fun q H2 e2 => ?_) (fun q H2 e2 => ?_)
  · have e12 := e1.trans e2
    have dd : EvD w C (tIf (tTest (tOp (rI0 fun i j => .bl (decide (i < j))) (tOp (rIxT K) (tVar 0) (tC (.int 0))) (tVar 5))) (tTupF (tCons (tOp (rCatF K) (tTupF (tCons (tC (.str "install")) tNil)) (tVar 4)) tNil)) (tTupF tNil)) [some x, some (.int h), some (.int t), some (.str z), some (.ref pa), some (.int e), none, none] H2 (.tup (if decide (epU u < e) = true then [.tup (.str "install" :: rest)] else [])) := by
      refine ed_if (b := decide (epU u < e)) (et_test (ev_op (i0 e12 rfl) (ev_var rfl) rv_I0)) (fun c => ?_) (fun c => ?_)
      · rw [if_pos c]
        have hr12 := pre.n
        exact ed_tup (hwG e12) (eds_cons (ed_cat (us1 := [.str "install"]) (us2 := rest) (hwG e12) (ed_tup (hwG e12) (eds_cons (ed_ev (te := tC (.str "install")) ev_c (.str _)) eds_nil) (by simp)) (ed_ev (te := tVar 4) (ev_var rfl) (ex_at e12 hy)) (by show 1 + rest.length ≤ 100000; omega)) eds_nil) (by simp)
      · rw [if_neg (by rw [c]; decide)]
        exact ed_tup (hwG e12) eds_nil (by simp)
    refine asg1 ?_
    refine dd H2 (Ex.refl H2) _ fun v H3 e3 a => ?_
    have e13 := e12.trans e3
    show tRet _ _ [some x, some (.int h), some (.int t), some (.str z), some (.ref pa), some (.int e), some v, none] H3
    refine ret1 ?_
    refine (ed_tup (C := C) (w := w) (hwG e13) (eds_cons (ed_ev (te := tVar 6) (ev_var rfl) a) (eds_cons (ed_tup (hwG e13) (eds_cons (ed_ev (te := tC (.str "installed")) ev_c (.str _)) (eds_cons (ed_tup (hwG e13) (eds_cons (ed_ev (te := tVar 5) (ev_var rfl) (.int e)) eds_nil) (by simp)) eds_nil)) (by simp)) eds_nil)) (by simp)) H3 (Ex.refl H3) _ fun v H4 e4 a => k v H4 (e13.trans e4) ?_
    unfold outW
    rw [ee, if_pos q]
    exact a
  have e12 := e1.trans e2
  refine q_when (b := decide (epU u > e)) (et_test (ev_op (i0 e12 rfl) (ev_var rfl) rv_I0)) (fun q2 H3 e3 => ?_) (fun q2 H3 e3 => ?_)
  · have e13 := e12.trans e3
    have ah : EvD w C (tCall (spAh C) [] E0 (tCons (tVar 0) (tCons (tVar 3) (tCons (tVar 5) tNil)))) [some x, some (.int h), some (.int t), some (.str z), some (.ref pa), some (.int e), none, none] H3 (ahU z e (epU u) u) := fun G1 g1 Q q => call1 (ea_cons (ev_var rfl) (ea_cons (ev_var rfl) (ea_cons (ev_var rfl) ea_nil))) fun G2 g2 => ⟨x, z, e, epU u, u, w, rfl, ex_at ((e13.trans g1).trans g2) hx, hwG ((e13.trans g1).trans g2), te.g, te.s, pre.e0, fun v G3 s a => q v G3 (g2.trans s) a⟩
    refine ret1 ?_
    refine (ed_tup (C := C) (w := w) (hwG e13) (eds_cons (ed_tup (hwG e13) eds_nil (by simp)) (eds_cons ah eds_nil)) (by simp)) H3 (Ex.refl H3) _ fun v H4 e4 a => k v H4 (e13.trans e4) ?_
    unfold outW
    rw [ee, if_neg (by rw [q]; decide), if_pos q2]
    exact a
  have e13 := e12.trans e3
  refine q_when (b := decide (epU u < e)) (et_test (ev_op (i0 e13 rfl) (ev_var rfl) rv_I0)) (fun q3 H4 e4 => ?_) (fun q3 H4 e4 => ?_)
  · have e14 := e13.trans e4
    refine ret1 ?_
    refine (ed_tup (C := C) (w := w) (hwG e14) (eds_cons (ed_tup (hwG e14) eds_nil (by simp)) (eds_cons (ed_tup (hwG e14) (eds_cons (ed_ev (te := tC (.str "behind")) ev_c (.str _)) (eds_cons (ed_tup (hwG e14) (eds_cons (ed_ev (te := tVar 5) (ev_var rfl) (.int e)) eds_nil) (by simp)) eds_nil)) (by simp)) eds_nil)) (by simp)) H4 (Ex.refl H4) _ fun v H5 e5 a => k v H5 (e14.trans e5) ?_
    unfold outW
    rw [ee, if_neg (by rw [q]; decide), if_neg (by rw [q2]; decide), if_pos q3]
    exact a
  have e14 := e13.trans e4
  have ep : epU u = e := by
    have h1 := of_decide_eq_false q2
    have h2 := of_decide_eq_false q3
    omega
  refine q_when (b := !isNon (nth u 9) && decide (z = "seal")) (et_and (tN e14 rfl) fun _ => et_test (ev_is (ev_op (ev_var rfl) ev_c (rv_eq rfl)) (by rw [dz]))) (fun q4 H5 e5 => ?_) (fun q4 H5 e5 => ?_)
  · have e15 := e14.trans e5
    obtain ⟨y9, f9, a9⟩ := part 9 (by decide) e15 (τ := [some x, some (.int h), some (.int t), some (.str z), some (.ref pa), some (.int e), none, none]) rfl
    have car : EvD w C (tCall (spCar C) [] E0 (tCons (tVar 0) (tCons (tC (.str "sealed")) (tCons (tVar 5) (tCons (tOp (rIxT K) (tVar 0) (tC (.int 9))) tNil))))) [some x, some (.int h), some (.int t), some (.str z), some (.ref pa), some (.int e), none, none] H5 (carU "sealed" e (nth u 9) u) := fun G1 g1 Q q => call1 (ea_cons (ev_var rfl) (ea_cons ev_c (ea_cons (ev_var rfl) (ea_cons (f9.mono g1) ea_nil)))) fun G2 g2 => ⟨x, y9, "sealed", e, u, nth u 9, w, rfl, ex_at ((e15.trans g1).trans g2) hx, ex_at (g1.trans g2) a9, hwG ((e15.trans g1).trans g2), te.g, te.s, fun v G3 s a => q v G3 (g2.trans s) a⟩
    refine ret1 ?_
    refine (ed_tup (C := C) (w := w) (hwG e15) (eds_cons (ed_tup (hwG e15) eds_nil (by simp)) (eds_cons car eds_nil)) (by simp)) H5 (Ex.refl H5) _ fun v H6 e6 a => k v H6 (e15.trans e6) ?_
    unfold outW
    rw [ee, if_neg (by rw [q]; decide), if_neg (by rw [q2]; decide), if_neg (by rw [q3]; decide), if_pos q4]
    exact a
  have e15 := e14.trans e5
  refine q_when (b := !isNon (nth u 9)) (tN e15 rfl) (fun q5 H6 e6 => ?_) (fun q5 H6 e6 => ?_)
  · have e16 := e15.trans e6
    obtain ⟨y9, f9, a9⟩ := part 9 (by decide) e16 (τ := [some x, some (.int h), some (.int t), some (.str z), some (.ref pa), some (.int e), none, none]) rfl
    obtain ⟨y1, f1, a1⟩ := part 1 (by decide) e16 (τ := [some x, some (.int h), some (.int t), some (.str z), some (.ref pa), some (.int e), none, none]) rfl
    refine ret1 ?_
    refine (ed_tup (C := C) (w := w) (hwG e16) (eds_cons (ed_tup (hwG e16) eds_nil (by simp)) (eds_cons (ed_tup (hwG e16) (eds_cons (ed_ev (te := tC (.str "moved")) ev_c (.str _)) (eds_cons (ed_tup (hwG e16) (eds_cons (ed_ev (te := tVar 5) (ev_var rfl) (.int e)) (eds_cons (ed_ev (ev_op (ev_var rfl) ev_c rv_I0) (.int (e + 1))) (eds_cons (ed_ev f9 a9) (eds_cons (ed_ev f1 a1) eds_nil)))) (by simp)) eds_nil)) (by simp)) eds_nil)) (by simp)) H6 (Ex.refl H6) _ fun v H7 e7 a => k v H7 (e16.trans e7) ?_
    unfold outW
    rw [ee, if_neg (by rw [q]; decide), if_neg (by rw [q2]; decide), if_neg (by rw [q3]; decide), if_neg (by rw [q4]; decide), if_pos q5]
    exact a
  have e16 := e15.trans e6
  have zi : z ≠ "install" := fun h => by
    rw [h, ep, decide_eq_true rfl, decide_eq_true (Int.le_refl e)] at q
    cases q
  have zs : z = "seal" := pre.l (by simpa using q5) (by rw [ee]; exact ep) zi
  obtain ⟨m, em⟩ := pre.s zs
  have em' : rest = [.int e, m] := by
    rw [em]
    congr 1
    rw [er]
    rfl
  refine q_asg (v := .ref fG) (ev_op ev_c (ev_var rfl) fun G1 e Q q => ⟨aW, z, .ref fG, rfl, rfl, by rw [zs]; exact hk, q G1 (Ex.refl G1)⟩) fun H7 e7 => ?_
  have e17 := e16.trans e7
  refine ⟨rfl, x, rfl, .int h, rfl, .int t, rfl, .ref pa, rfl, x, .ref pa, h, t, u, rest, w, rfl, ex_at e17 hx, ex_at e17 hy, hwG e17, te.g, te.s, ⟨e, m, em'⟩, fun v H' s a => k v H' (e17.trans s) ?_⟩
  unfold outW
  rw [if_neg (by rw [ee, q]; decide), if_neg (by rw [ee, q2]; decide), if_neg (by rw [ee, q3]; decide), if_neg (by rw [q4]; decide), if_neg (by rw [q5]; decide)]
  exact a
def spAns4 (K : PySem.W.Frag) (C : Addr) : Sp := fun vs H Q _ => ∃ (x l : V) (m h t : Int) (u : U) (z : Str) (rest : List U) (w : Addr), vs = [.int m, x, l] ∧ At w C H x u ∧ At w C H l (.tup (letU h t m z rest)) ∧ (∃ o, H w = some o) ∧ TabG u ∧ PreW u z rest ∧ ∀ v H', Same H H' → Lk K H' v (ansU h t m (outW u z rest)) → Q v H'
theorem ok_answered4 {f f1 aM : Addr} {fd d1 : FuncData} {es : Array DictEntry} {n : Nat} (D : Df K mg "answered" sAnswered ["home", "table", "letter"] f fd) (B : Bt mg) (hg : mg "AMONG_HOMES" = some (.ref aM)) (kd : KDict K wd aM es n) (hn : ∀ z ∈ W11, PySem.W.nsIn K aM z = some none) (D1 : Df K mg "_with_hand" sWithHand ["table", "hand", "talk", "word", "rest"] f1 d1)
    (G : FnOk P wd K mg base CX0 5 f1 d1 ["table", "hand", "talk", "word", "rest"] (spWH4 C)) : FnOk P wd K mg base CX0 6 f fd ["home", "table", "letter"] (spAns4 K C) := by
  refine D.F.ok scAd (fun vs H Q E h => ?_) (fun cdv A outer s H vs Q E hr h => ?_)
  · obtain ⟨x, l, m, h, t, u, z, rest, w, rfl, _⟩ := h
    rfl
  obtain ⟨x, l, m, h, t, u, z, rest, w, rfl, hx, hy, hw, te, pre, k⟩ := h
  obtain ⟨ds, zt, rs, eo⟩ := outW_told u z rest
  refine ⟨_, pss_cons (ps_asg (pv 2) (pg_tup rfl (pgs_cons (pg_name (i := 3) scAd.nd rfl (.inr rfl)) (pgs_cons (pg_name (i := 4) scAd.nd rfl (.inr rfl)) (pgs_cons (pg_name (i := 5) scAd.nd rfl (.inr rfl)) (pgs_cons (pg_name (i := 6) scAd.nd rfl (.inl rfl)) (pgs_cons (pg_name (i := 7) scAd.nd rfl (.inl rfl)) pgs_nil)))))))
    (pss_cons (ps_if (pt_cmpR (op_in_kd kd) (pv 6) (pe_glob (v := .ref aM) (by rfl) hg rfl) (by rfl)) pss_dead
      (pss_cons (ps_asg (pe_call G hr (by rfl) D1.g D1.F.kp D1.b .nil pass0 (pa_cons (pv 1) (pa_cons (pe_ix (show IxR _ (rIxT K) from ix_tup) (pv 4) pe_int (fun _ _ => rfl)) (pa_cons (pv 5) (pa_cons (pv 6) (pa_cons (pv 7) pa_nil)))))) (pg_tup rfl (pgs_cons (pg_name (i := 8) scAd.nd rfl (.inl rfl)) (pgs_cons (pg_name (i := 10) scAd.nd rfl (.inl rfl)) pgs_nil))))
      (pss_one (ps_set (i := 9) scAd.nd rfl (.inl rfl) (pe_tupF (pa_cons (pv 10) pa_nil))))))
    (pss_one (ps_ret (pe_tupF (pa_cons (pv 8) (pa_cons (pe_callTy call_tupF (by rfl) B.tup boot_tuple' (pa_cons (pe_lc (own := [("told_word", 11), ("told_rest", 12)]) (g := gTup K 2 (gCons (gName 11) (gCons (gName 12) gNil))) (tt := tYes) (te := tTupF (tCons (tVar 4) (tCons (tVar 3) (tCons (tVar 5) (tCons (tVar 11) (tCons (tVar 12) tNil)))))) rfl scAd.nd (pi_tup (pv 9)) (blkOk_by (N := nmAd) (sc := defScope sAnswered) (by decide +kernel))
      (fun _ _ _ _ _ => pg_tup rfl (pgs_cons (pg_name (i := 11) scAd.nd rfl (.inl rfl)) (pgs_cons (pg_name (i := 12) scAd.nd rfl (.inl rfl)) pgs_nil))) (fun _ _ _ _ _ => pts_nil) (fun _ _ _ _ _ => pe_tupF (pa_cons (pv 4) (pa_cons (pv 3) (pa_cons (pv 5) (pa_cons (pv 11) (pa_cons (pv 12) pa_nil))))))) pa_nil)) pa_nil)))))), ?_⟩
  obtain ⟨pa, ys, rfl, hpa, _, hys⟩ := at_tup hy
  obtain ⟨y0, y1, y4, rfl, a0, a1, a4⟩ : ∃ y0 y1 y4, ys = [y0, y1, .int t, .str z, y4] ∧ At w C H y0 (.tup [.str "home", .int m]) ∧ At w C H y1 (.tup [.str "hand", .int h]) ∧ At w C H y4 (.tup rest) := by
    cases hys with
    | cons a0 r => cases r with
      | cons a1 r => cases r with
        | cons a2 r => cases r with
          | cons a3 r => cases r with
            | cons a4 r =>
              cases r
              cases at_int a2
              cases at_str a3
              exact ⟨_, _, _, rfl, a0, a1, a4⟩
  refine ⟨_, rfl, pa, _, rfl, Tu.st hpa, rfl, _, _, rfl, _, _, rfl, _, _, rfl, _, _, rfl, _, _, rfl, rfl, ?_⟩
  dsimp only [gName]
  have test : EvT (tTest (tOp (fun x y H Q => ∃ (z : Str) (r : Option Value), x = .str z ∧ y = .ref aM ∧ PySem.W.nsIn K aM z = some r ∧ Q (.bl r.isSome) H) (tVar 6) (tC (.ref aM)))) [some (.int m), some x, some (.ref pa), some y0, some y1, some (.int t), some (.str z), some y4, none, none, none, none, none] H false := et_test (ev_op (ev_var rfl) ev_c fun G1 e Q f => ⟨z, none, rfl, rfl, hn z pre.w, f G1 (Ex.refl G1)⟩)
  refine test H (Ex.refl H) _ fun H1 e1 => ?_
  rw [if_neg (by decide)]
  obtain ⟨pb, zs, rfl, hpb, _, hzs⟩ := at_tup (ex_at e1 a1)
  obtain rfl : zs = [.str "hand", .int h] := by
    cases hzs with
    | cons b0 r => cases r with
      | cons b1 r =>
        cases r
        cases at_str b0
        cases at_int b1
        rfl
  refine call1 (ea_cons (ev_var rfl) (ea_cons (ev_op (ev_var rfl) ev_c (rv_ixT (Tu.st hpb) (atI_nat (j := 1) rfl))) (ea_cons (ev_var rfl) (ea_cons (ev_var rfl) (ea_cons (ev_var rfl) ea_nil))))) fun H2 e2 => ⟨x, y4, h, t, u, z, rest, w, rfl, ex_at (e1.trans e2) hx, ex_at (e1.trans e2) a4, hw.imp fun o z => (e1.trans e2) _ _ z, te, pre, fun v H3 e3 lo0 => ?_⟩
  have lo := lk_at (K := K) (outW_pln te pre) lo0
  rw [eo] at lo k
  obtain ⟨pv1, xs, rfl, s1, l1⟩ := lo.un
  obtain ⟨vd, vt, rfl, ld, lt⟩ : ∃ vd vt, xs = [vd, vt] ∧ Lk K H3 vd ds ∧ Lk K H3 vt (.tup [zt, rs]) := by
    cases l1 with
    | cons q1 r => cases r with
      | cons q2 r =>
        cases r
        exact ⟨_, _, rfl, q1, q2⟩
  refine ⟨pv1, _, rfl, s1, rfl, _, _, rfl, _, _, rfl, rfl, ?_⟩
  dsimp only [gName]
  have e13 := (e1.trans e2).trans e3
  refine asgK (ek_tup (eks_cons (ek_ev (te := tVar 10) (ev_var rfl) lt) eks_nil) (by simp)) fun va H4 e4 la => ?_
  obtain ⟨pw, xs, rfl, s2, l2⟩ := la.un
  obtain ⟨vt', rfl, lt'⟩ : ∃ vt', xs = [vt'] ∧ Lk K H4 vt' (.tup [zt, rs]) := by
    cases l2 with
    | cons q1 r =>
      cases r
      exact ⟨_, rfl, q1⟩
  have e14 := e13.trans e4
  have a1' : At w C H4 (.ref pb) (.tup [.str "hand", .int h]) := ex_at ((e2.trans e3).trans e4) (.tup hpb (by assumption) hzs)
  have a0' : At w C H4 y0 (.tup [.str "home", .int m]) := ex_at e14 a0
  show tRet _ _ [some (.int m), some x, some (.ref pa), some y0, some (.ref pb), some (.int t), some (.str z), some y4, some vd, some (.ref pw), some vt, none, none] H4
  have part := fun (σ : L2.St) (hv : σ[9]? = some (some (.ref pw))) (hs : ∀ c0 c1 : V, wipe (((wipe σ [11, 12]).set 11 (some c0)).set 12 (some c1)) [11, 12] = wipe σ [11, 12] ∧ (((wipe σ [11, 12]).set 11 (some c0)).set 12 (some c1))[11]? = some (some c0) ∧ (((wipe σ [11, 12]).set 11 (some c0)).set 12 (some c1))[12]? = some (some c1) ∧ (((wipe σ [11, 12]).set 11 (some c0)).set 12 (some c1))[4]? = some (some (.ref pb)) ∧ (((wipe σ [11, 12]).set 11 (some c0)).set 12 (some c1))[3]? = some (some y0) ∧ (((wipe σ [11, 12]).set 11 (some c0)).set 12 (some c1))[5]? = some (some (.int t))) =>
    lc_K (K := K) (σ := σ) (H := H4) (te := tTupF (tCons (tVar 4) (tCons (tVar 3) (tCons (tVar 5) (tCons (tVar 11) (tCons (tVar 12) tNil)))))) (g := gTup K 2 (gCons (gName 11) (gCons (gName 12) gNil))) (vs := [11, 12]) (pkU h t m) (tl := tVar 9) (ev_var hv) s2 l2 (by simp) fun xv uv G hu eg lv Qv qv => by
      have eu := List.mem_singleton.mp hu
      subst eu
      obtain ⟨pc, cs, rfl, s3, l3⟩ := lv.un
      obtain ⟨c0, c1, rfl, k0, k1⟩ : ∃ c0 c1, cs = [c0, c1] ∧ Lk K G c0 zt ∧ Lk K G c1 rs := by
        cases l3 with
        | cons q1 r => cases r with
          | cons q2 r =>
            cases r
            exact ⟨_, _, rfl, q1, q2⟩
      obtain ⟨w1, w2, w3, v4, v3, v5⟩ := hs c0 c1
      refine ⟨pc, _, rfl, s3, rfl, _, _, rfl, _, _, rfl, rfl, qv _ w1 ?_⟩
      exact ek_tup (eks_cons (ek_at (ev_var v4) (ex_at eg a1') (by simp [pln, plnL])) (eks_cons (ek_at (ev_var v3) (ex_at eg a0') (by simp [pln, plnL])) (eks_cons (ek_ev (ev_var v5) (.int t)) (eks_cons (ek_ev (ev_var w2) k0) (eks_cons (ek_ev (ev_var w3) k1) eks_nil))))) (by simp)
  have tup := ek_tupK (part [some (.int m), some x, some (.ref pa), some y0, some (.ref pb), some (.int t), some (.str z), some y4, some vd, some (.ref pw), some vt, none, none] rfl fun c0 c1 => ⟨rfl, rfl, rfl, rfl, rfl, rfl⟩)
  exact s_retK (ek_tup (eks_cons (ek_ev (te := tVar 8) (ev_var rfl) (ld.ex e4)) (eks_cons tup eks_nil)) (by simp)) fun v H5 e5 l5 => k v H5 (e14.trans e5) l5
def spAnswer4 (K : PySem.W.Frag) (C : Addr) (th to_ ta : List (Str × List Str)) : Sp := fun vs H Q _ => ∃ (x l : V) (m h t : Int) (u : U) (z : Str) (rest : List U) (w : Addr), vs = [.int m, x, l] ∧ At w C H x u ∧ At w C H l (.tup (letU h t m z rest)) ∧ (∃ o, H w = some o) ∧ TabG u ∧ PreW u z rest ∧ gHome (.int m) = true ∧ gLetter th to_ ta (.tup (letU h t m z rest)) = true ∧ Fine (.tup (letU h t m z rest)) ∧ Sm (.tup (letU h t m z rest)) ∧ ∀ v H', Same H H' → Lk K H' v (ansU h t m (outW u z rest)) → Q v H'
theorem ok_answer4 {f f1 f2 f3 f4 : Addr} {fd d1 d2 d3 d4 : FuncData} {th to_ ta : List (Str × List Str)} (D : Df K mg "answer" sAnswer ["home", "table", "letter"] f fd) (JH : Jd P wd K mg base C 2 "is_home" "thing" f1 d1 gHome) (JT : Jw P wd K mg base C 8 "is_table" "thing" f2 d2 Sm gTable)
    (JL : Jw P wd K mg base C 11 "is_letter" "thing" f3 d3 Sm (gLetter th to_ ta)) (D4 : Df K mg "answered" sAnswered ["home", "table", "letter"] f4 d4) (G : FnOk P wd K mg base CX0 6 f4 d4 ["home", "table", "letter"] (spAns4 K C)) : FnOk P wd K mg base CX0 12 f fd ["home", "table", "letter"] (spAnswer4 K C th to_ ta) := by
  refine D.F.ok scAnswer (fun vs H Q E h => ?_) (fun cdv A outer s H vs Q E hr h => ?_)
  · obtain ⟨x, l, m, h, t, u, z, rest, w, rfl, _⟩ := h
    rfl
  obtain ⟨x, l, m, h, t, u, z, rest, w, rfl, hx, hy, hw, te, pre, gm, gl, fl, sl, k⟩ := h
  refine ⟨_, pss_cons (ps_if (pt_not (pt_val (pe_J JH hr (by decide) (by rfl) pass0 (pv 0)))) pss_dead pss_nil)
    (pss_cons (ps_if (pt_not (pt_val (pe_Jw JT hr (by decide) (by rfl) pass0 (pv 1)))) pss_dead pss_nil)
    (pss_cons (ps_if (PW.pt (pw_or (pt_not (pt_val (pe_Jw JL hr (by decide) (by rfl) pass0 (pv 2)))) (pw_or1 (pt_cmpR (show OpR _ _ (rNeD K) from op_neD (room_hu hr)) (pe_ix (show IxR _ (rIxT K) from ix_tup) (pv 2) pe_int (fun _ _ => rfl)) (pe_tup (pa_cons pe_str (pa_cons (pv 0) pa_nil))) (nomark _))))) pss_dead pss_nil)
    (pss_one (ps_ret (pe_call (G.mono (by decide : 6 ≤ 11)) hr (by rfl) D4.g D4.F.kp D4.b .nil pass0 (pa_cons (pv 0) (pa_cons (pv 1) (pa_cons (pv 2) pa_nil)))))))), ?_⟩
  refine q_when (b := !gHome (.int m)) (et_not (et_B (ev_J (C := C) (w := w) (ev_var rfl) (.int m) ⟨by simp [wt], by have := fl.tup _ (by exact List.mem_cons_self ..); have := (this.tup (.int m) (by simp)).c; exact this⟩))) (fun q => by rw [gm] at q; cases q) (fun _ H1 e1 => ?_)
  refine q_when (b := !gTable u) (et_not (et_B (ev_Jw (ev_var rfl) (ex_at e1 hx) te.f te.s (hw.imp fun o z => e1 _ _ z)))) (fun q => by rw [te.g] at q; cases q) (fun _ H2 e2 => ?_)
  have e12 := e1.trans e2
  obtain ⟨pa, ys, rfl, hpa, _, hys⟩ := at_tup (ex_at e12 hy)
  obtain ⟨y0, hy0, a0⟩ := AtL.get (i := 0) hys rfl
  obtain ⟨pb, zs, rfl, hpb, _, hzs⟩ := at_tup a0
  obtain rfl : zs = [.str "home", .int m] := by
    cases hzs with
    | cons b0 r => cases r with
      | cons b1 r =>
        cases r
        cases at_str b0
        cases at_int b1
        rfl
  have hpb' := hpb.plain rfl
  refine q_when (b := !gLetter th to_ ta (.tup (letU h t m z rest)) || false) (et_or (et_not (et_B (ev_Jw (ev_var rfl) (ex_at e12 hy) fl sl (hw.imp fun o z => e12 _ _ z)))) fun _ => et_test (ev_opU (ev_op (ev_var rfl) ev_c (rv_ixT (Tu.st hpa) (atI_nat (j := 0) hy0))) (eu_tup (vs := [.str "home", .int m]) (ea_cons ev_c (ea_cons (ev_var rfl) ea_nil)) (by simp)) fun q H3 hq e3 => ?_)) (fun q => by rw [gl] at q; cases q) (fun _ H3 e3 => ?_)
  · have := rv_neM (K := K) (p := pb) (q := q) (H := H3) (a := "home") (b := "home") (i := m) (j := m) (by decide +kernel) (by decide +kernel) (e3 _ _ hpb') hq
    rw [decide_eq_true rfl, decide_eq_true rfl] at this
    exact this
  · have e13 := e12.trans e3
    refine ret1 ?_
    exact call1 (ea_cons (ev_var rfl) (ea_cons (ev_var rfl) (ea_cons (ev_var rfl) ea_nil))) fun H4 e4 => ⟨x, .ref pa, m, h, t, u, z, rest, w, rfl, ex_at (e13.trans e4) hx, ex_at (e13.trans e4) hy, hw.imp fun o z => (e13.trans e4) _ _ z, te, pre, fun v H' s l => k v H' ((e13.trans e4).trans s) l⟩
end
end Hs
namespace Hs
open PySem PySem.Spec PyProof.Rows L2 Hu Evl
abbrev lLed : Stmt := topS 163
abbrev nmLed : List Str := ["table", "led", "name", "stamp", "row", "block"]
theorem ledPs_up {hs : List U} {i : Nat} {h : U} (e : hs[i]? = some h) : ledPs (hs.take (i + 1)) = ledPs (hs.take i) ++ rowP (nth h 2) := by
  unfold ledPs
  rw [List.take_add_one, e, List.flatMap_append]
  simp
theorem ledPs_len {hs : List U} (g : hs.all gNamed = true) : ∀ i, (ledPs (hs.take i)).length ≤ 12 * i := fun i => by
  induction i with
  | zero => simp [ledPs]
  | succ i ih =>
    cases e : hs[i]? with
    | none =>
      rw [List.take_add_one, e]
      simp only [Option.toList_none, List.append_nil]
      omega
    | some h =>
      rw [ledPs_up e, List.length_append]
      have : (rowP (nth h 2)).length ≤ 12 := by
        obtain ⟨z, s, r, rfl, _, gr⟩ := gNamed_is (List.all_eq_true.mp g h (List.mem_of_getElem? e))
        show (rowP r).length ≤ 12
        cases r with
        | tup ids =>
          obtain ⟨g1, _⟩ := and2 (a := decide (ids.length ≤ 12)) (b := ids.all gId) gr
          show (ids.map idP).length ≤ 12
          rw [List.length_map]
          exact of_decide_eq_true g1
        | non => exact Nat.zero_le _
        | _ => cases gr
      omega
section
variable {P : Program} {wd : World} {K : PySem.W.Frag} {mg : Str → Option Value} {base : Heap} {C : Addr}
theorem ex_put {H H' : Hp} {O : Addr} {x : HO} (e : Ex H H') (h : H O = none) : Ex H (upd H' O x) := fun b o q => by
  rw [upd_ne (fun z => by rw [z, h] at q; cases q)]
  exact e _ _ q
theorem boot_list14 : bootBuiltins "list" = some (.type "list") := by decide +kernel
theorem tu_upd {H : Hp} {a D : Addr} {xs ys : List V} {us : List U} {o : HO} (hD : H D = some (.lst ys)) (h : Tu H a xs us) : Tu (upd H D o) a xs us := by
  obtain ⟨p, hp, q⟩ := h.got
  refine Tu.mv (fun o' e => ?_) h
  rw [upd_ne (fun z => by
    rw [z, hD] at hp
    cases hp
    rcases q with q | ⟨b, q⟩ <;> cases q)]
  exact e
def spLed (C : Addr) : Sp := fun vs H Q _ => ∃ (x : V) (u : U) (w : Addr), vs = [x] ∧ At w C H x u ∧ (∃ o, H w = some o) ∧ gTable u = true ∧ Sm u ∧ ∀ v H', Ex H H' → At w C H' v (ledU u) → Q v H'
theorem scLed : FnScope nmLed ["table"] (defScope lLed) := ⟨rfl, rfl, rfl, by decide +kernel, rfl, by decide +kernel, by decide +kernel⟩
theorem ok_led14 {f : Addr} {fd : FuncData} (F : Fun K "_law_led" "_law_led" lLed f fd) (B : Bt mg) : FnOk P wd K mg base CX0 1 f fd ["table"] (spLed C) := by
  refine F.ok scLed (fun vs H Q E h => ?_) (fun cdv A outer s H vs Q E hr h => ?_)
  · obtain ⟨x, u, w, rfl, _⟩ := h
    rfl
  obtain ⟨x, u, w, rfl, hx, hw, gt, sm, k⟩ := h
  refine ⟨_, pss_cons (ps_set (i := 1) scLed.nd rfl (.inr rfl) (pe_lst pa_nil))
    (pss_cons (ps_for PassesOwn.never rfl (pi_tup (pe_ix (show IxR _ (rIxT K) from ix_tup) (pv 0) pe_int (fun _ _ => rfl))) (pg_tup rfl (pgs_cons (pg_name (i := 2) scLed.nd rfl (.inl rfl)) (pgs_cons (pg_name (i := 3) scLed.nd rfl (.inl rfl)) (pgs_cons (pg_name (i := 4) scLed.nd rfl (.inl rfl)) pgs_nil)))) (pss_one (ps_if (pt_cmpR op_notN1 (pv 4) pe_non (nomark _)) (pss_one (ps_expr (pe_bm PySem.F.plainAttrs_list PySem.F.slot_list_extend PySem.F.type_list_extend mt_extend (pv 1) (pa_cons (pe_callTy call_list_of (by rfl) B.lst boot_list14 (pa_cons (pv 4) pa_nil)) pa_nil)))) pss_nil)))
    (pss_one (ps_ret (pe_callTy call_tupF (by rfl) B.tup boot_tuple' (pa_cons (pe_lc (own := [("block", 5)]) (g := gName 5) (tt := tTest (tOp (rInP K false) (tOp (rIxT K) (tVar 5) (tC (.int 0))) (tVar 1))) (te := tVar 5) rfl scLed.nd (pi_tup (pe_ix (show IxR _ (rIxT K) from ix_tup) (pv 0) pe_int (fun _ _ => rfl))) (blkOk_by (N := nmLed) (sc := defScope lLed) (by decide +kernel)) (fun _ _ _ _ _ => pg_name (i := 5) scLed.nd rfl (Or.inl rfl)) (fun _ _ _ _ _ => pts_one (pt_cmpR (show OpR _ _ (rInP K false) from op_inP (room_hu hr)) (pe_ix (show IxR _ (rIxT K) from ix_tup) (pv 5) pe_int (fun _ _ => rfl)) (pv 1) (by rfl))) (fun _ _ _ _ _ => pv 5)) pa_nil))))), ?_⟩
  obtain ⟨hs, bs, T⟩ := gTable_has gt
  have hz := T.hlen sm
  have bz := T.blen sm
  refine asg1 ?_
  refine ⟨sz_of (show (0 : Nat) ≤ 100000 by decide), fun D hD => ?_⟩
  show tSeq (tFor _ _ _) _ _ [some x, some (.ref D), none, none, none, none] _
  have e0 : Ex H (upd H D (.lst [])) := Ex.new hD
  obtain ⟨y4, f4, a4⟩ := tab_part (K := K) (j := 4) (σ := [some x, some (.ref D), none, none, none, none]) rfl (ex_at e0 hx) T (by decide)
  have a4' : At w C (upd H D (.lst [])) y4 (.tup hs) := by rw [← T.h]; exact a4
  obtain ⟨a, xs, rfl, ha, na, hl⟩ := at_tup a4'
  have hlen := AtL.length hl
  refine q_forT (K := K) f4 (Tu.st ha) (fun i σ' H' => ∃ (x2 x3 x4 : Option V) (ys : List V), σ' = [some x, some (.ref D), x2, x3, x4, none] ∧ Ex H H' ∧ H' D = some (.lst ys) ∧ P2 H' ys (ledPs (hs.take i)) ∧ Tu H' a xs hs ∧ AtL w C H' xs hs)
    (fun H3 e3 => ⟨_, _, _, [], rfl, e0.trans e3, e3 _ _ upd_same, .nil, Tu.ex e3 ha, ex_atl e3 hl⟩) (fun i σ' H' _ ⟨_, _, _, _, _, _, _, _, t, _⟩ => Tu.st t) (fun i xv σ' H' hi p => ?_) (fun σ' H' p => ?_)
  · obtain ⟨x2, x3, x4, ys, rfl, e3, hD3, p2, ta, la⟩ := p
    have hi' : i < hs.length := by
      have := (List.getElem?_eq_some_iff.mp hi).1
      omega
    obtain ⟨v', hv', av⟩ := AtL.get la (List.getElem?_eq_getElem hi')
    rw [hi] at hv'
    cases hv'
    have hg : hs[i]? = some hs[i] := List.getElem?_eq_getElem hi'
    have up := ledPs_up hg
    have gn := List.all_eq_true.mp T.ha _ (List.getElem_mem hi')
    generalize hs[i] = un at av gn hg up
    obtain ⟨zn, s1, r1, rfl, _, gr⟩ := gNamed_is gn
    obtain ⟨b, zs, rfl, hb, nb, lys⟩ := at_tup av
    obtain ⟨y1, y2, y3, rfl, b1, b2, b3⟩ := atl3 lys
    cases at_str b1
    refine ⟨b, _, rfl, Tu.st hb, rfl, _, _, rfl, _, _, rfl, _, _, rfl, rfl, ?_⟩
    dsimp only [gName]
    have up' : ledPs (hs.take (i + 1)) = ledPs (hs.take i) ++ rowP r1 := up
    have tN : EvT (tTest (tOp rNotN (tVar 4) (tC .non))) [some x, some (.ref D), some (.str zn), some y2, some y3, none] H' (!isNon r1) := et_test (ev_is (ev_op (z := .bl (!decide (y3 = .non))) (ev_var rfl) ev_c fun G e Q q => ⟨rfl, q G (Ex.refl G)⟩) (by rw [at_non b3]))
    refine s_when (b := !isNon r1) tN (fun q H4 e4 => ?_) (fun q H4 e4 => ?_)
    · cases r1 with
      | tup us =>
        obtain ⟨pr, zs, rfl, hp, np, lp⟩ := at_tup (ex_at e4 b3)
        have gid : us.all gId = true := (and2 (a := decide (us.length ≤ 12)) gr).2
        have l12 : us.length ≤ 12 := of_decide_eq_true (and2 (a := decide (us.length ≤ 12)) gr).1
        have h4 := e4 _ _ hD3
        refine ⟨_, rfl, .inl ⟨rfl, ys, sq_of h4⟩, _, rfl, pr, zs, rfl, .inr (Tu.st hp), fun l hl' => ?_⟩
        have h5 : upd H4 l (.lst zs) D = some (.lst ys) := by
          rw [upd_ne (ne_of_none h4 hl')]
          exact h4
        have eN : Ex H4 (upd H4 l (.lst zs)) := Ex.new hl'
        have z1 := AtL.length lp
        have ln : ys.length = (ledPs (hs.take i)).length := p2.len
        have ll := ledPs_len T.ha i
        refine ⟨D, l, ys, zs, rfl, rfl, h5, upd_same, sz_of (by omega), ?_⟩
        have e34 := (e3.trans e4).trans eN
        have nt : ∀ c us, upd H4 l (.lst zs) c = some (.tup us) → upd (upd H4 l (.lst zs)) D (.lst (ys ++ zs)) c = some (.tup us) := fun c us hc => by
          rw [upd_ne (fun z => by rw [z, h5] at hc; cases hc)]
          exact hc
        have tq := tq_upd (w := w) (x := .lst (ys ++ zs)) h5
        refine ⟨_, _, _, ys ++ zs, rfl, ex_put e34 hD, upd_same, ?_, ?_, ?_⟩
        · rw [up']
          exact (P2.append (p2.ex (e4.trans eN)) ((row_p2 lp gid).ex eN)).tups nt
        · exact tu_upd h5 (Tu.ex (e4.trans eN) ta)
        · exact atl_tups tq (plnL_all.mpr fun y hy => gNamed_pln (List.all_eq_true.mp T.ha y hy)) (ex_atl (e4.trans eN) la)
      | non => cases q
      | _ => cases gr
    · cases r1 with
      | non =>
        refine ⟨_, _, _, ys, rfl, e3.trans e4, e4 _ _ hD3, ?_, Tu.ex e4 ta, ex_atl e4 la⟩
        rw [up']
        show P2 H4 ys (ledPs (hs.take i) ++ [])
        rw [List.append_nil]
        exact p2.ex e4
      | tup us => cases q
      | _ => cases gr
  · obtain ⟨x2, x3, x4, ys, rfl, e3, hD3, p2, ta, la⟩ := p
    rw [hlen, List.take_length] at p2
    obtain ⟨y5, f5, a5⟩ := tab_part (K := K) (j := 5) (σ := [some x, some (.ref D), x2, x3, x4, none]) rfl (ex_at e3 hx) T (by decide)
    have a5' : At w C H' y5 (.tup bs) := by rw [← T.b]; exact a5
    obtain ⟨c, cs, rfl, hc, nc, lc⟩ := at_tup a5'
    have hw1 : ∃ o, H' w = some o := hw.imp fun o q => e3 _ _ q
    refine ret1 ?_
    refine (ed_tupL (K := K) (C := C) hw1 (us := (bs.filter (inLed hs)).map fun u => u) (lc_D (j := 5) (vs := [5]) (g := inLed hs) (f := fun u => u) f5 hc lc (by omega) (fun u hu => gBlk_pln (List.all_eq_true.mp T.ba u hu)) (fun _ => rfl) (fun v u G hu eg hv => ?_) (fun v u G hu _ eg hv => ed_ev (ev_var rfl) hv))) H' (Ex.refl H') _ fun v H2 e2 a2 => ?_
    · obtain ⟨pb, cc, z, q, rfl, hpb, hcc, hq⟩ := blk_at hv (List.all_eq_true.mp T.ba u hu)
      refine et_test (ev_op (ev_ixT (K := K) (j := 0) (ev_var rfl) hpb rfl) (ev_var rfl) fun G1 g1 Q qq => ⟨D, cc, ys, ledPs hs, q, rfl, sq_of ((eg.trans g1) _ _ hD3), p2.ex (eg.trans g1), rfl, g1 _ _ hcc, ?_⟩)
      have : inLed hs u = decide (q ∈ ledPs hs) := by
        unfold inLed
        rw [hq]
      rw [this] at qq
      exact qq G1 (Ex.refl G1)
    · rw [List.map_id'] at a2
      refine k v H2 (e3.trans e2) ?_
      unfold ledU
      rw [T.hs, T.bs]
      exact a2
end
end Hs
namespace Hs
open PySem PySem.Spec PyProof.Rows L2 Hu Evl
abbrev lDu14 : Stmt := topS 164
abbrev nmDu14 : List Str := ["table", "word", "rest", "epoch", "lease"]
section
variable {P : Program} {wd : World} {K : PySem.W.Frag} {mg : Str → Option Value} {base : Heap} {C : Addr}
theorem ev_lenLD {w : Addr} {σ : L2.St} {H : Hp} {te : TE} {us : List U} (h : EvLD w C te σ H us) : Ev (tCB (rLenQ K) (tCons te tNil)) σ H (.int (us.length : Int)) := fun H1 e Q q =>
  h H1 e _ fun p ys H2 hp e2 h2 l => ⟨p, ys, rfl, .inl (sq_of h2), by rw [AtL.length l]; exact q H2 e2⟩
def spDu14 (C : Addr) : Sp := fun vs H Q _ => ∃ (x r : V) (u : U) (z : Str) (rest : List U) (w : Addr), vs = [x, .str z, r] ∧ At w C H x u ∧ At w C H r (.tup rest) ∧ (∃ o, H w = some o) ∧ TabG u ∧ PreW u z rest ∧ ∀ v H', Ex H H' → At w C H' v (outW u z rest) → Q v H'
theorem scDu14 : FnScope nmDu14 ["table", "word", "rest"] (defScope lDu14) := ⟨rfl, rfl, rfl, by decide +kernel, rfl, by decide +kernel, by decide +kernel⟩
set_option maxHeartbeats 2000000 in
theorem ok_du14 {f f1 : Addr} {fd d1 : FuncData} (F : Fun K "_law_due" "_law_due" lDu14 f fd) (B : Bt mg) (DL : Df K mg "_law_led" lLed ["table"] f1 d1) : FnOk P wd K mg base CX0 2 f fd ["table", "word", "rest"] (spDu14 C) := by
  have GL : FnOk P wd K mg base CX0 1 f1 d1 ["table"] (spLed C) := ok_led14 DL.F B
  refine F.ok scDu14 (fun vs H Q E h => ?_) (fun cdv A outer s H vs Q E hr h => ?_)
  · obtain ⟨x, r, u, z, rest, w, rfl, _⟩ := h
    rfl
  obtain ⟨x, r, u, z, rest, w, rfl, hx, hy, hw, te, pre, k⟩ := h
  refine ⟨_, pss_cons (ps_set (i := 3) scDu14.nd rfl (.inl rfl) (pe_ix (show IxR _ (rIxT K) from ix_tup) (pv 2) pe_int (fun _ _ => rfl)))
    (pss_cons (ps_if (PW.pt (pw_and (pt_cmpR op_eq (pv 1) pe_str (nomark _)) (pw_and1 (pt_cmpR op_lt (pe_ix (show IxR _ (rIxT K) from ix_tup) (pv 0) pe_int (fun _ _ => rfl)) (pv 3) (nomark _))))) (pss_one (ps_ret (pe_tupF (pa_cons (pe_tupF (pa_cons (pe_op (show OpR _ _ (rCatF K) from op_catF) (pe_tupF (pa_cons pe_str pa_nil)) (pv 2)) pa_nil)) (pa_cons (pe_tupF (pa_cons pe_str (pa_cons (pe_tupF (pa_cons (pv 3) pa_nil)) pa_nil))) pa_nil))))) pss_nil)
    (pss_cons (ps_if (PW.pt (pw_and (pt_cmpR op_eq (pv 1) pe_str (nomark _)) (pw_and1 (pt_cmpR op_eq (pe_ix (show IxR _ (rIxT K) from ix_tup) (pv 0) pe_int (fun _ _ => rfl)) (pv 3) (nomark _))))) (pss_one (ps_ret (pe_tupF (pa_cons (pe_tupF pa_nil) (pa_cons (pe_tupF (pa_cons pe_str (pa_cons (pe_tupF (pa_cons (pv 3) pa_nil)) pa_nil))) pa_nil))))) pss_nil)
    (pss_cons (ps_if (pt_cmpR op_gt (pe_ix (show IxR _ (rIxT K) from ix_tup) (pv 0) pe_int (fun _ _ => rfl)) (pv 3) (nomark _)) (pss_cons (ps_if (PW.pt (pw_and (pt_cmpR op_eq (pv 1) pe_str (nomark _)) (pw_and1 (pt_cmpR op_eq (pe_ix (show IxR _ (rIxT K) from ix_tup) (pv 0) pe_int (fun _ _ => rfl)) (pe_op op_add (pv 3) pe_int) (nomark _))))) (pss_one (ps_ret (pe_tupF (pa_cons (pe_tupF pa_nil) (pa_cons (pe_tupF (pa_cons pe_str (pa_cons (pe_tupF (pa_cons (pv 3) (pa_cons (pe_ix (show IxR _ (rIxT K) from ix_tup) (pv 0) pe_int (fun _ _ => rfl)) (pa_cons (pe_ix (show IxR _ (rIxT K) from ix_tup) (pv 0) pe_int (fun _ _ => rfl)) (pa_cons (pe_call GL hr (by rfl) DL.g DL.F.kp DL.b .nil pass0 (pa_cons (pv 0) pa_nil)) pa_nil))))) pa_nil))) pa_nil))))) pss_nil)
    (pss_one (ps_ret (pe_tupF (pa_cons (pe_tupF pa_nil) (pa_cons (pe_tupF (pa_cons pe_str (pa_cons (pe_tupF (pa_cons (pv 3) (pa_cons (pe_ix (show IxR _ (rIxT K) from ix_tup) (pv 0) pe_int (fun _ _ => rfl)) (pa_cons (pe_ix (show IxR _ (rIxT K) from ix_tup) (pv 0) pe_int (fun _ _ => rfl)) (pa_cons (pe_ix (show IxR _ (rIxT K) from ix_tup) (pv 0) pe_int (fun _ _ => rfl)) pa_nil))))) pa_nil))) pa_nil)))))) pss_nil)
    (pss_cons (ps_if (pt_cmpR op_lt (pe_ix (show IxR _ (rIxT K) from ix_tup) (pv 0) pe_int (fun _ _ => rfl)) (pv 3) (nomark _)) (pss_one (ps_ret (pe_tupF (pa_cons (pe_tupF pa_nil) (pa_cons (pe_tupF (pa_cons pe_str (pa_cons (pe_tupF (pa_cons (pv 3) pa_nil)) pa_nil))) pa_nil))))) pss_nil)
    (pss_cons (ps_if (pt_cmpR op_notN1 (pe_ix (show IxR _ (rIxT K) from ix_tup) (pv 0) pe_int (fun _ _ => rfl)) pe_non (nomark _)) (pss_cons (ps_if (pt_cmpR op_eq (pv 1) pe_str (nomark _)) (pss_one (ps_ret (pe_tupF (pa_cons (pe_tupF pa_nil) (pa_cons (pe_tupF (pa_cons pe_str (pa_cons (pe_tupF (pa_cons (pv 3) (pa_cons (pe_ix (show IxR _ (rIxT K) from ix_tup) (pv 0) pe_int (fun _ _ => rfl)) (pa_cons (pe_ix (show IxR _ (rIxT K) from ix_tup) (pv 0) pe_int (fun _ _ => rfl)) (pa_cons (pe_call GL hr (by rfl) DL.g DL.F.kp DL.b .nil pass0 (pa_cons (pv 0) pa_nil)) pa_nil))))) pa_nil))) pa_nil))))) pss_nil)
    (pss_one (ps_ret (pe_tupF (pa_cons (pe_tupF pa_nil) (pa_cons (pe_tupF (pa_cons pe_str (pa_cons (pe_tupF (pa_cons (pv 3) (pa_cons (pe_op op_add (pv 3) pe_int) (pa_cons (pe_ix (show IxR _ (rIxT K) from ix_tup) (pv 0) pe_int (fun _ _ => rfl)) (pa_cons (pe_ix (show IxR _ (rIxT K) from ix_tup) (pv 0) pe_int (fun _ _ => rfl)) pa_nil))))) pa_nil))) pa_nil)))))) pss_nil)
    (pss_cons (ps_if (pt_cmpR op_gt (pe_callB (show CallR _ _ (rLenQ K) from call_len_seq) (by rfl) B.len PySem.boot_len (pa_cons (pe_lc (own := [("lease", 4)]) (g := gName 4) (tt := tTest (tOp (rI0 fun i j => .bl (decide (i > j))) (tOp (rIxT K) (tVar 4) (tC (.int 3))) (tOp (rIxT K) (tVar 0) (tC (.int 3))))) (te := tVar 4) rfl scDu14.nd (pi_tup (pe_ix (show IxR _ (rIxT K) from ix_tup) (pv 0) pe_int (fun _ _ => rfl))) (blkOk_by (N := nmDu14) (sc := defScope lDu14) (by decide +kernel)) (fun _ _ _ _ _ => pg_name (i := 4) scDu14.nd rfl (Or.inl rfl)) (fun _ _ _ _ _ => pts_one (pt_cmpR op_gt (pe_ix (show IxR _ (rIxT K) from ix_tup) (pv 4) pe_int (fun _ _ => rfl)) (pe_ix (show IxR _ (rIxT K) from ix_tup) (pv 0) pe_int (fun _ _ => rfl)) (nomark _))) (fun _ _ _ _ _ => pv 4)) pa_nil)) pe_int (nomark _)) (pss_one (ps_ret (pe_tupF (pa_cons (pe_tupF pa_nil) (pa_cons (pe_tupF (pa_cons pe_str (pa_cons (pe_tupF (pa_cons (pv 3) pa_nil)) pa_nil))) pa_nil))))) pss_nil)
    (pss_one (ps_ret (pe_tupF (pa_cons (pe_tupF (pa_cons (pe_tupF (pa_cons pe_str (pa_cons (pe_ix (show IxR _ (rIxT K) from ix_tup) (pv 2) pe_int (fun _ _ => rfl)) pa_nil))) pa_nil)) (pa_cons (pe_tupF (pa_cons pe_str (pa_cons (pe_tupF (pa_cons (pv 3) (pa_cons (pe_ix (show IxR _ (rIxT K) from ix_tup) (pv 2) pe_int (fun _ _ => rfl)) (pa_cons (pe_ix (show IxR _ (rIxT K) from ix_tup) (pv 0) pe_int (fun _ _ => rfl)) (pa_cons (pe_call GL hr (by rfl) DL.g DL.F.kp DL.b .nil pass0 (pa_cons (pv 0) pa_nil)) pa_nil))))) pa_nil))) pa_nil))))))))))), ?_⟩
  obtain ⟨e, rs, er⟩ := pre.r
  have ee : intU (fE rest) = e := by rw [er]; rfl
  obtain ⟨hs, bs, T⟩ := gTable_has te.g
  obtain ⟨pa, ys, rfl, hpa, npa, hys⟩ := at_tup hy
  obtain ⟨y0, hy0, ay0⟩ := AtL.get (i := 0) hys (show rest[0]? = some (.int e) by rw [er]; rfl)
  cases at_int ay0
  refine q_asg (v := .int e) (ev_op (ev_var rfl) ev_c (rv_ixT (Tu.st hpa) (atI_nat (j := 0) hy0))) fun H1 e1 => ?_
  show tSeq _ _ _ [some x, some (.str z), some (.ref pa), some (.int e), none] H1
  have dz : ∀ y : Str, decide (V.str z = V.str y) = decide (z = y) := fun y => decide_eq_decide.mpr ⟨fun h => V.str.inj h, fun h => by rw [h]⟩
  have di : ∀ i j : Int, decide (V.int i = V.int j) = decide (i = j) := fun i j => decide_eq_decide.mpr ⟨fun h => V.int.inj h, fun h => by rw [h]⟩
  have part : ∀ (j : Nat) {G : Hp} {τ : L2.St}, j < 10 → Ex H G → τ[0]? = some (some x) → ∃ y, Ev (tOp (rIxT K) (tVar 0) (tC (.int (j : Int)))) τ G y ∧ At w C G y (nth u j) := fun j {G τ} hj eg h0 => tab_part (K := K) h0 (ex_at eg hx) T hj
  have i0 : ∀ {G : Hp} {τ : L2.St}, Ex H G → τ[0]? = some (some x) → Ev (tOp (rIxT K) (tVar 0) (tC (.int 0))) τ G (.int (epU u)) := fun {G τ} eg h0 => by
    obtain ⟨y, f, a⟩ := part 0 (by decide) eg h0
    rw [pre.e0] at a
    cases at_int a
    exact f
  have tN : ∀ {G : Hp} {τ : L2.St}, Ex H G → τ[0]? = some (some x) → EvT (tTest (tOp rNotN (tOp (rIxT K) (tVar 0) (tC (.int 9))) (tC .non))) τ G (!isNon (nth u 9)) := fun {G τ} eg h0 => by
    obtain ⟨y, f, a⟩ := part 9 (by decide) eg h0
    refine et_test (ev_is (ev_op (z := .bl (!decide (y = .non))) f ev_c fun G e Q q => ⟨rfl, q G (Ex.refl G)⟩) (by rw [at_non a]))
  have tS : ∀ {G : Hp} {y : Str}, EvT (tTest (tOp rEq (tVar 1) (tC (.str y)))) [some x, some (.str z), some (.ref pa), some (.int e), none] G (decide (z = y)) := fun {G y} => et_test (ev_is (ev_op (ev_var rfl) ev_c (rv_eq rfl)) (by rw [dz]))
  have hwG : ∀ {G : Hp}, Ex H G → ∃ o, G w = some o := fun e => hw.imp fun o q => e _ _ q
  -- what is told
  have told : ∀ {ta : TA} {us : List U} {G : Hp} {y : Str}, Ex H G → us.length ≤ 100 → EvDs w C ta [some x, some (.str z), some (.ref pa), some (.int e), none] G us → EvD w C (tTupF (tCons (tTupF tNil) (tCons (tTupF (tCons (tC (.str y)) (tCons (tTupF ta) tNil))) tNil))) [some x, some (.str z), some (.ref pa), some (.int e), none] G (toldU [] y us) := fun {ta us G y} eg hl h =>
    ed_tup (hwG eg) (eds_cons (ed_tup (hwG eg) eds_nil (by simp)) (eds_cons (ed_tup (hwG eg) (eds_cons (ed_ev (te := tC (.str y)) ev_c (.str _)) (eds_cons (ed_tup (hwG eg) h (by omega)) eds_nil)) (by simp)) eds_nil)) (by simp)
  have led : ∀ {G : Hp}, Ex H G → EvD w C (tCall (spLed C) [] E0 (tCons (tVar 0) tNil)) [some x, some (.str z), some (.ref pa), some (.int e), none] G (ledU u) := fun {G} eg G1 g1 Q q => call1 (ea_cons (ev_var rfl) ea_nil) fun G2 g2 => ⟨x, u, w, rfl, ex_at ((eg.trans g1).trans g2) hx, hwG ((eg.trans g1).trans g2), te.g, te.s, fun v G3 s a => q v G3 (g2.trans s) a⟩
  have eE : ∀ {G : Hp}, EvD w C (tVar 3) [some x, some (.str z), some (.ref pa), some (.int e), none] G (.int e) := fun {G} => ed_ev (ev_var rfl) (.int e)
  refine q_when (b := decide (z = "install") && decide (epU u < e)) (et_and tS fun _ => et_test (ev_op (i0 e1 rfl) (ev_var rfl) rv_I0)) (fun q H2 e2 => ?_) (fun q H2 e2 => ?_)
  · have e12 := e1.trans e2
    rw [Bool.and_eq_true, decide_eq_true_eq, decide_eq_true_eq] at q
    refine ret1 ?_
    refine (ed_tup (C := C) (w := w) (hwG e12) (eds_cons (ed_tup (hwG e12) (eds_cons (ed_cat (us1 := [.str "install"]) (us2 := rest) (hwG e12) (ed_tup (hwG e12) (eds_cons (ed_ev (te := tC (.str "install")) ev_c (.str _)) eds_nil) (by simp)) (ed_ev (te := tVar 2) (ev_var rfl) (ex_at e12 hy)) (by show 1 + rest.length ≤ 100000; have := pre.n; omega)) eds_nil) (by simp)) (eds_cons (ed_tup (hwG e12) (eds_cons (ed_ev (te := tC (.str "installed")) ev_c (.str _)) (eds_cons (ed_tup (hwG e12) (eds_cons eE eds_nil) (by simp)) eds_nil)) (by simp)) eds_nil)) (by simp)) H2 (Ex.refl H2) _ fun v H3 e3 a => k v H3 (e12.trans e3) ?_
    unfold outW
    rw [ee, if_pos (by rw [q.1, decide_eq_true rfl, decide_eq_true (by omega)]; rfl), if_pos (decide_eq_true q.2)]
    exact a
  have e12 := e1.trans e2
  refine q_when (b := decide (z = "install") && decide (epU u = e)) (et_and tS fun _ => et_test (ev_is (ev_op (i0 e12 rfl) (ev_var rfl) (rv_eq rfl)) (by rw [di]))) (fun q2 H3 e3 => ?_) (fun q2 H3 e3 => ?_)
  · have e13 := e12.trans e3
    rw [Bool.and_eq_true, decide_eq_true_eq, decide_eq_true_eq] at q2
    refine ret1 ?_
    refine (told e13 (by simp) (eds_cons eE eds_nil)) H3 (Ex.refl H3) _ fun v H4 e4 a => k v H4 (e13.trans e4) ?_
    unfold outW
    rw [ee, if_pos (by rw [q2.1, decide_eq_true rfl, decide_eq_true (by omega)]; rfl), if_neg (by rw [decide_eq_false (by omega)]; decide)]
    exact a
  have e13 := e12.trans e3
  have nle : (decide (z = "install") && decide (epU u ≤ e)) = false := by
    rw [Bool.and_eq_false_iff, decide_eq_false_iff_not, decide_eq_false_iff_not] at q q2 ⊢
    rcases q with q | q
    · exact .inl q
    · rcases q2 with q2 | q2
      · exact .inl q2
      · exact .inr (by omega)
  refine q_when (b := decide (epU u > e)) (et_test (ev_op (i0 e13 rfl) (ev_var rfl) rv_I0)) (fun q3 H4 e4 => ?_) (fun q3 H4 e4 => ?_)
  · have e14 := e13.trans e4
    have eo : outW u z rest = .tup [.tup [], ahU z e (epU u) u] := by
      unfold outW
      rw [ee, if_neg (by rw [nle]; decide), if_pos q3]
    refine q_when (b := decide (z = "seal") && decide (epU u = e + 1)) (et_and tS fun _ => et_test (ev_is (ev_op (i0 e14 rfl) (ev_op (ev_var rfl) ev_c rv_I0) (rv_eq rfl)) (by rw [di]))) (fun q4 H5 e5 => ?_) (fun q4 H5 e5 => ?_)
    · have e15 := e14.trans e5
      obtain ⟨y1, f1, a1⟩ := part 1 (by decide) e15 (τ := [some x, some (.str z), some (.ref pa), some (.int e), none]) rfl
      obtain ⟨y4, f4, a4⟩ := part 4 (by decide) e15 (τ := [some x, some (.str z), some (.ref pa), some (.int e), none]) rfl
      refine ret1 ?_
      refine (told e15 (by simp) (eds_cons eE (eds_cons (ed_ev f1 a1) (eds_cons (ed_ev f4 a4) (eds_cons (led e15) eds_nil))))) H5 (Ex.refl H5) _ fun v H6 e6 a => k v H6 (e15.trans e6) ?_
      rw [eo]
      unfold ahU
      rw [if_pos q4]
      exact a
    · have e15 := e14.trans e5
      obtain ⟨y1, f1, a1⟩ := part 1 (by decide) e15 (τ := [some x, some (.str z), some (.ref pa), some (.int e), none]) rfl
      obtain ⟨y2, f2, a2⟩ := part 2 (by decide) e15 (τ := [some x, some (.str z), some (.ref pa), some (.int e), none]) rfl
      refine ret1 ?_
      refine (told e15 (by simp) (eds_cons eE (eds_cons (ed_ev (i0 e15 rfl) (.int (epU u))) (eds_cons (ed_ev f1 a1) (eds_cons (ed_ev f2 a2) eds_nil))))) H5 (Ex.refl H5) _ fun v H6 e6 a => k v H6 (e15.trans e6) ?_
      rw [eo]
      unfold ahU
      rw [if_neg (by rw [q4]; decide)]
      exact a
  have e14 := e13.trans e4
  refine q_when (b := decide (epU u < e)) (et_test (ev_op (i0 e14 rfl) (ev_var rfl) rv_I0)) (fun q4 H5 e5 => ?_) (fun q4 H5 e5 => ?_)
  · have e15 := e14.trans e5
    refine ret1 ?_
    refine (told e15 (by simp) (eds_cons eE eds_nil)) H5 (Ex.refl H5) _ fun v H6 e6 a => k v H6 (e15.trans e6) ?_
    unfold outW
    rw [ee, if_neg (by rw [nle]; decide), if_neg (by rw [q3]; decide), if_pos q4]
    exact a
  have e15 := e14.trans e5
  have ep : epU u = e := by
    have h1 := of_decide_eq_false q3
    have h2 := of_decide_eq_false q4
    omega
  refine q_when (b := !isNon (nth u 9)) (tN e15 rfl) (fun q5 H6 e6 => ?_) (fun q5 H6 e6 => ?_)
  · have e16 := e15.trans e6
    refine q_when (b := decide (z = "seal")) tS (fun q6 H7 e7 => ?_) (fun q6 H7 e7 => ?_)
    · have e17 := e16.trans e7
      obtain ⟨y9, f9, a9⟩ := part 9 (by decide) e17 (τ := [some x, some (.str z), some (.ref pa), some (.int e), none]) rfl
      obtain ⟨y4, f4, a4⟩ := part 4 (by decide) e17 (τ := [some x, some (.str z), some (.ref pa), some (.int e), none]) rfl
      refine ret1 ?_
      refine (told e17 (by simp) (eds_cons eE (eds_cons (ed_ev f9 a9) (eds_cons (ed_ev f4 a4) (eds_cons (led e17) eds_nil))))) H7 (Ex.refl H7) _ fun v H8 e8 a => k v H8 (e17.trans e8) ?_
      unfold outW
      rw [ee, if_neg (by rw [nle]; decide), if_neg (by rw [q3]; decide), if_neg (by rw [q4]; decide), if_pos (by rw [q5, q6]; rfl)]
      exact a
    · have e17 := e16.trans e7
      obtain ⟨y9, f9, a9⟩ := part 9 (by decide) e17 (τ := [some x, some (.str z), some (.ref pa), some (.int e), none]) rfl
      obtain ⟨y1, f1, a1⟩ := part 1 (by decide) e17 (τ := [some x, some (.str z), some (.ref pa), some (.int e), none]) rfl
      refine ret1 ?_
      refine (told e17 (by simp) (eds_cons eE (eds_cons (ed_ev (ev_op (ev_var rfl) ev_c rv_I0) (.int (e + 1))) (eds_cons (ed_ev f9 a9) (eds_cons (ed_ev f1 a1) eds_nil))))) H7 (Ex.refl H7) _ fun v H8 e8 a => k v H8 (e17.trans e8) ?_
      unfold outW
      rw [ee, if_neg (by rw [nle]; decide), if_neg (by rw [q3]; decide), if_neg (by rw [q4]; decide), if_neg (by rw [q6, Bool.and_false]; decide), if_pos q5]
      exact a
  have e16 := e15.trans e6
  have zi : z ≠ "install" := fun h => by
    rw [h, ep, decide_eq_true rfl, decide_eq_true (Int.le_refl e)] at nle
    cases nle
  have zs : z = "seal" := pre.l (by simpa using q5) (by rw [ee]; exact ep) zi
  obtain ⟨m, em⟩ := pre.s zs
  have em' : rest = [.int e, m] := by
    rw [em]
    congr 1
    rw [er]
    rfl
  have eo : outW u z rest = sealU e m u := by
    unfold outW
    rw [ee, if_neg (by rw [nle]; decide), if_neg (by rw [q3]; decide), if_neg (by rw [q4]; decide), if_neg (by rw [q5, Bool.false_and]; decide), if_neg (by rw [q5]; decide), em']
    rfl
  rw [eo] at k
  obtain ⟨e6', ga, e3'⟩ := gTable_ls te.g
  obtain ⟨y6, f6, a6⟩ := part 6 (by decide) e16 (τ := [some x, some (.str z), some (.ref pa), some (.int e), none]) rfl
  rw [e6'] at a6
  obtain ⟨pl, xl, rfl, hpl, npl, ll⟩ := at_tup a6
  have lsz : (lsOf u).length ≤ 40000 := by
    have h1 := wt_len4 (lsOf u)
    have h2 : wt (.tup (lsOf u)) ≤ 160000 := by
      rw [← e6']
      exact te.s.nth 6
    simp only [wt] at h2
    omega
  have fil := lc_D (K := K) (w := w) (C := C) (j := 4) (vs := [4]) (t := tTest (tOp (rI0 fun i j => .bl (decide (i > j))) (tOp (rIxT K) (tVar 4) (tC (.int 3))) (tOp (rIxT K) (tVar 0) (tC (.int 3))))) (te := tVar 4) (g := fun l => decide (clkU u < intU (nth l 3))) (f := fun l => l) f6 hpl ll lsz (fun l hl => gLease_pln (List.all_eq_true.mp ga l hl)) (fun _ => rfl) (fun y l G hl eg hy => by
    obtain ⟨q0, i, t', n, rfl⟩ := gLease_is (List.all_eq_true.mp ga l hl)
    obtain ⟨v3, g3, b3⟩ := nth_at (K := K) (te := tVar 4) (σ := [some x, some (.str z), some (.ref pa), some (.int e), some y]) hy (ev_var rfl) 3 (by show (3 : Nat) < 4; decide)
    cases at_int (show At w C G v3 (.int n) from b3)
    obtain ⟨y3, f3, a3⟩ := part 3 (by decide) (e16.trans eg) (τ := [some x, some (.str z), some (.ref pa), some (.int e), some y]) rfl
    rw [e3'] at a3
    cases at_int a3
    exact et_test (ev_op g3 f3 rv_I0)) (fun y l G hl _ eg hy => ed_ev (ev_var rfl) hy)
  rw [List.map_id'] at fil
  have cnt : decide ((((lsOf u).filter fun l => decide (clkU u < intU (nth l 3))).length : Int) > 0) = inF u := by
    unfold inF
    rw [Bool.eq_iff_iff, decide_eq_true_eq, List.any_eq_true]
    constructor
    · intro h
      obtain ⟨l, hl⟩ := List.exists_mem_of_length_pos (l := (lsOf u).filter fun l => decide (clkU u < intU (nth l 3))) (by omega)
      exact ⟨l, (List.mem_filter.mp hl).1, (List.mem_filter.mp hl).2⟩
    · rintro ⟨l, hl, q⟩
      have := List.length_pos_of_mem (List.mem_filter (p := fun l => decide (clkU u < intU (nth l 3))).mpr ⟨hl, q⟩)
      omega
  refine q_when (b := inF u) (et_is (et_test (ev_op (ev_lenLD (K := K) fil) ev_c rv_I0)) cnt) (fun q6 H7 e7 => ?_) (fun q6 H7 e7 => ?_)
  · have e17 := e16.trans e7
    refine ret1 ?_
    refine (told e17 (by simp) (eds_cons eE eds_nil)) H7 (Ex.refl H7) _ fun v H8 e8 a => k v H8 (e17.trans e8) ?_
    unfold sealU
    rw [if_pos q6]
    exact a
  · have e17 := e16.trans e7
    obtain ⟨y4, f4, a4⟩ := part 4 (by decide) e17 (τ := [some x, some (.str z), some (.ref pa), some (.int e), none]) rfl
    obtain ⟨v1, g1, b1⟩ := nth_at (K := K) (te := tVar 2) (σ := [some x, some (.str z), some (.ref pa), some (.int e), none]) (ex_at e17 hy) (ev_var rfl) 1 (by rw [em']; show (1 : Nat) < 2; decide)
    have b1' : At w C H7 v1 m := by
      rw [em'] at b1
      exact b1
    refine ret1 ?_
    refine (ed_tup (C := C) (w := w) (hwG e17) (eds_cons (ed_tup (hwG e17) (eds_cons (ed_tup (hwG e17) (eds_cons (ed_ev (te := tC (.str "seal")) ev_c (.str _)) (eds_cons (ed_ev g1 b1') eds_nil)) (by simp)) eds_nil) (by simp)) (eds_cons (ed_tup (hwG e17) (eds_cons (ed_ev (te := tC (.str "sealed")) ev_c (.str _)) (eds_cons (ed_tup (hwG e17) (eds_cons eE (eds_cons (ed_ev g1 b1') (eds_cons (ed_ev f4 a4) (eds_cons (led e17) eds_nil)))) (by simp)) eds_nil)) (by simp)) eds_nil)) (by simp)) H7 (Ex.refl H7) _ fun v H8 e8 a => k v H8 (e17.trans e8) ?_
    unfold sealU
    rw [if_neg (by rw [q6]; decide)]
    exact a
end
end Hs
namespace Hs
open PySem PySem.Spec PyProof.Rows L2 Hu Evl
abbrev sInst14 : Stmt := topS 76
abbrev sSealed14 : Stmt := topS 84
section
variable {P : Program} {wd : World} {K : PySem.W.Frag} {mg : Str → Option Value} {base : Heap} {C : Addr}
def fInst (us ps : List U) : List U := [ps.getD 0 .non, ps.getD 1 .non, ps.getD 2 .non, us.getD 3 .non, ps.getD 3 .non, ps.getD 4 .non, .tup [], .tup [.int 0, .int 0], .non, .non]
def fSeal (us ps : List U) : List U := us.set 9 (ps.getD 0 .non)
theorem scInst5 : FnScope ["table", "parts", "epoch", "members", "ahead", "heads", "blocks"] ["table", "parts"] (defScope sInst14) := ⟨rfl, rfl, rfl, by decide +kernel, rfl, by decide +kernel, by decide +kernel⟩
theorem ok_inst5 {f : Addr} {fd : FuncData} (D : Df K mg "_installed" sInst14 ["table", "parts"] f fd) (N : Ct mg) : FnOk P wd K mg base CX0 2 f fd ["table", "parts"] (spDg C (fun _ ps => ps.length = 5) fInst) := by
  refine D.F.ok scInst5 lenDg (fun cdv A outer s H vs Q E hr h => ?_)
  obtain ⟨x, y, us, ps, w, rfl, hx, hy, hl, h10, hp, k⟩ := h
  have hw : ∃ o, H w = some o := hl.elim fun l h => ⟨_, h⟩
  refine ⟨_, pss_cons (ps_asg (pv 1) (pg_tup rfl (pgs_cons (pg_name (i := 2) scInst5.nd rfl (.inl rfl)) (pgs_cons (pg_name (i := 3) scInst5.nd rfl (.inl rfl)) (pgs_cons (pg_name (i := 4) scInst5.nd rfl (.inl rfl)) (pgs_cons (pg_name (i := 5) scInst5.nd rfl (.inl rfl)) (pgs_cons (pg_name (i := 6) scInst5.nd rfl (.inl rfl)) pgs_nil)))))))
    (pss_one (ps_ret (pe_tupF (pa_cons (pv 2) (pa_cons (pv 3) (pa_cons (pv 4) (pa_cons (pe_ix ix_tup (pv 0) (pe_gi (by rfl) N.p3) (fun _ _ => rfl)) (pa_cons (pv 5) (pa_cons (pv 6) (pa_cons (pe_tupF pa_nil) (pa_cons (pe_tupF (pa_cons pe_int (pa_cons pe_int pa_nil))) (pa_cons pe_non (pa_cons pe_non pa_nil))))))))))))), ?_⟩
  obtain ⟨pa, ys, rfl, hpa, _, hys⟩ := at_tup hy
  match ps, hp, hys with
  | [p0, p1, p2, p3, p4], _, .cons (v := y0) a0 (.cons (v := y1) a1 (.cons (v := y2) a2 (.cons (v := y3) a3 (.cons (v := y4) a4 .nil)))) =>
    refine ⟨_, rfl, pa, _, rfl, Tu.st hpa, rfl, _, _, rfl, _, _, rfl, _, _, rfl, _, _, rfl, _, _, rfl, rfl, ?_⟩
    dsimp only [gName]
    have i3 := ed_item (K := K) (te := tVar 0) (σ := [some x, some (.ref pa), some y0, some y1, some y2, some y3, some y4]) (ev_var rfl) hx 3 (by omega)
    exact (ed_tup (C := C) (w := w) hw (eds_cons (ed_ev (te := tVar 2) (ev_var rfl) a0) (eds_cons (ed_ev (te := tVar 3) (ev_var rfl) a1) (eds_cons (ed_ev (te := tVar 4) (ev_var rfl) a2) (eds_cons i3 (eds_cons (ed_ev (te := tVar 5) (ev_var rfl) a3) (eds_cons (ed_ev (te := tVar 6) (ev_var rfl) a4) (eds_cons (ed_tup hw eds_nil (by decide)) (eds_cons (ed_tup hw (eds_cons (ed_ev (te := tC (.int 0)) ev_c (.int 0)) (eds_cons (ed_ev (te := tC (.int 0)) ev_c (.int 0)) eds_nil)) (by decide)) (eds_cons (ed_ev (te := tC .non) ev_c .non) (eds_cons (ed_ev (te := tC .non) ev_c .non) eds_nil)))))))))) (by show (10 : Nat) ≤ 100000; decide)) H (Ex.refl H) _ fun v H5 e5 a5 => k v H5 e5 a5
theorem scSealed5 : FnScope ["table", "parts"] ["table", "parts"] (defScope sSealed14) := ⟨rfl, rfl, rfl, by decide +kernel, rfl, by decide +kernel, by decide +kernel⟩
theorem ok_sealed5 {f f3 : Addr} {fd d3 : FuncData} (D : Df K mg "_sealed" sSealed14 ["table", "parts"] f fd) (N : Ct mg) (DC : Df K mg "changed" sChanged3 ["table", "at", "part"] f3 d3) : FnOk P wd K mg base CX0 2 f fd ["table", "parts"] (spDg C (fun us ps => 0 < ps.length) fSeal) := by
  have GC : FnOk P wd K mg base CX0 1 f3 d3 ["table", "at", "part"] (spCh C) := ok_changed DC
  refine D.F.ok scSealed5 lenDg (fun cdv A outer s H vs Q E hr h => ?_)
  obtain ⟨x, y, us, ps, w, rfl, hx, hy, hl, h10, hp, k⟩ := h
  have hw : ∃ o, H w = some o := hl.elim fun l h => ⟨_, h⟩
  refine ⟨_, pss_one (ps_ret (pe_call GC hr (by rfl) DC.g DC.F.kp DC.b .nil pass0 (pa_cons (pv 0) (pa_cons (pe_gi (by rfl) N.p9) (pa_cons (pe_ix ix_tup (pv 1) pe_int (fun _ _ => rfl)) pa_nil))))), ?_⟩
  exact (ed_changed (w := w) (C := C) (us := us) (k := 9) (σ := [some x, some y]) hw (ed_ev (te := tVar 0) (ev_var rfl) hx) ev_c (ed_item (K := K) (te := tVar 1) (ev_var rfl) hy 0 hp) (by omega) (by omega)) H (Ex.refl H) _ fun v H5 e5 a5 => k v H5 e5 a5
def spBehL (C : Addr) (z : Str) (ok : List U → List U → Prop) (F : List U → List U → List U) : Sp := fun vs H Q _ => ∃ (x y : V) (us ps : List U) (w : Addr) (e : Int), vs = [x, y] ∧ At w C H x (.tup us) ∧ At w C H y (.tup (.str z :: ps)) ∧ (∃ l, H w = some (.lst l)) ∧ gTable (.tup us) = true ∧ Fine (.tup us) ∧ Sm (.tup us) ∧ us[0]? = some (.int e) ∧ letsB e z = true ∧ us.length = 10 ∧
  gDeed dT (.tup (.str z :: ps)) = true ∧ Fine (.tup (.str z :: ps)) ∧ Sm (.tup (.str z :: ps)) ∧ ok us ps ∧ ∀ v H', Same H H' → At w C H' v (.tup (F us ps)) → Q v H'
theorem ok_behL {f f1 f2 f3 f4 : Addr} {fd d1 d2 d3 d4 : FuncData} {z : Str} {ok : List U → List U → Prop} {F : List U → List U → List U} (D : Df K mg "behind" sBehind3 ["table", "deed"] f fd) (JT : Jw P wd K mg base C 8 "is_table" "thing" f1 d1 Sm gTable) (JD : Jw P wd K mg base C 10 "is_deed" "thing" f2 d2 Sm (gDeed dT))
    (D3 : Df K mg "lets" sLets3 ["table", "deed"] f3 d3) (G3 : FnOk P wd K mg base CX0 1 f3 d3 ["table", "deed"] (spLets5 K)) (D4 : Df K mg "done" sDone3 ["table", "deed"] f4 d4) (G4 : FnOk P wd K mg base CX0 4 f4 d4 ["table", "deed"] (spDone5 C z ok F)) : FnOk P wd K mg base CX0 11 f fd ["table", "deed"] (spBehL C z ok F) := by
  refine D.F.ok scBehR (fun vs H Q E h => ?_) (fun cdv A outer s H vs Q E hr h => ?_)
  · obtain ⟨x, y, us, ps, w, e, rfl, _⟩ := h
    rfl
  obtain ⟨x, y, us, ps, w, e, rfl, hx, hy, hl, gt, fi, sm, he, lt, h10, gd, fd', sd, hok, k⟩ := h
  refine ⟨_, pss_cons (ps_if (pt_not (pt_val (pe_Jw JT hr (by decide) (by rfl) pass0 (pv 0)))) pss_dead pss_nil)
    (pss_cons (ps_if (PW.pt (pw_or (pt_not (pt_val (pe_Jw JD hr (by decide) (by rfl) pass0 (pv 1)))) (pw_or1 (pt_not (pt_val (pe_call (G3.mono (by decide : 1 ≤ 10)) hr (by rfl) D3.g D3.F.kp D3.b .nil pass0 (pa_cons (pv 0) (pa_cons (pv 1) pa_nil)))))))) pss_dead pss_nil)
    (pss_one (ps_ret (pe_call (G4.mono (by decide : 4 ≤ 10)) hr (by rfl) D4.g D4.F.kp D4.b .nil pass0 (pa_cons (pv 0) (pa_cons (pv 1) pa_nil)))))), ?_⟩
  have hw : ∀ {G : Hp}, Ex H G → ∃ o, G w = some o := fun eg => hl.elim fun l h => ⟨_, eg _ _ h⟩
  refine q_when (b := !gTable (.tup us)) (et_not (et_B (ev_Jw (ev_var rfl) hx fi sm (hw (Ex.refl _))))) (fun q => by rw [gt] at q; cases q) (fun _ H1 e1 => ?_)
  obtain ⟨a, xs, rfl, ha, _, lx⟩ := at_tup (ex_at e1 hx)
  obtain ⟨b, ys, rfl, hb, _, ly⟩ := at_tup (ex_at e1 hy)
  obtain ⟨x0, hx0, ax0⟩ := AtL.get lx he
  obtain rfl := at_int ax0
  obtain ⟨yr, rfl⟩ : ∃ yr, ys = .str z :: yr := by
    cases ly with
    | cons h1 h2 => exact ⟨_, by rw [at_str h1]⟩
  refine q_when (b := !gDeed dT (.tup (.str z :: ps)) || !letsB e z) (et_or (et_not (et_B (ev_Jw (ev_var rfl) (ex_at e1 hy) fd' sd (hw e1)))) fun _ => et_not (et_B (ev_call (ea_cons (ev_var rfl) (ea_cons (ev_var rfl) ea_nil)) fun G eg Q q E => ⟨a, b, xs, _, e, z, rfl, sqt_ex eg (Tu.st ha), hx0, sqt_ex eg (Tu.st hb), rfl, q⟩))) (fun q => by rw [gd, lt] at q; cases q) (fun _ H2 e2 => ?_)
  have e12 := e1.trans e2
  refine ret1 ?_
  exact call1 (ea_cons (ev_var rfl) (ea_cons (ev_var rfl) ea_nil)) fun H3 e3 => ⟨.ref a, .ref b, us, ps, w, rfl, ex_at (e12.trans e3) hx, ex_at (e12.trans e3) hy, hl.imp fun l h => (e12.trans e3) _ _ h, h10, hok, fun v H' s av => k v H' ((e12.trans e3).trans s) av⟩
end
end Hs
namespace Hs
open PySem PySem.Spec PyProof.Rows L2 Hu Evl
open Hk (PZ)
def NxU (u : U) : Prop := u = .non ∨ MmU u
/-- a table, of an epoch or none -/
def TabX (u : U) : Prop := ∃ (e c : Int) (m a hs bs ls p v n : U), u = .tup [.int e, m, a, .int c, hs, bs, ls, p, v, n] ∧ 0 ≤ c ∧ c ≤ 10 ^ 11 ∧ LesU ls ∧ StU p ∧ VtU v ∧ NxU n ∧
  ((e = -1 ∧ m = .tup [] ∧ a = .tup [] ∧ hs = .tup [] ∧ bs = .tup []) ∨ (0 ≤ e ∧ e ≤ 10 ^ 11 + 10 ∧ MmU m ∧ AhU a ∧ HdsU hs ∧ BksU bs))
theorem nx_ok {u : U} (h : NxU u) : (isNon u || gMembers u) = true ∧ Bd u 800 1 0 ∧ pln u := by
  rcases h with rfl | h
  · exact ⟨rfl, ⟨by simp [wt], by simp [dep], by simp [tidy]⟩, trivial⟩
  · exact ⟨by rw [h.1, Bool.or_true], h.2, gMembers_pln h.1⟩
theorem hds_plnU {hs : U} (h : HdsU hs) : pln hs := by
  obtain ⟨L, rfl, h1, _, _⟩ := h
  exact plnL_all.mpr fun x hx => gNamed_pln (hdU_ok (h1 x hx)).1
theorem bks_plnU {bs : U} (h : BksU bs) : pln bs := by
  obtain ⟨L, rfl, h1, _, _⟩ := h
  exact plnL_all.mpr fun x hx => by
    obtain ⟨y, _, rfl⟩ := List.mem_map.mp hx
    exact bzU_pln y
theorem ah_plnU {a : U} (ha : AhU a) : pln a := by
  rcases ha with rfl | h
  · simp [pln, plnL]
  · exact gMembers_pln h.1
theorem vt_plnU {v : U} (h : VtU v) : pln v := by
  rcases h with rfl | ⟨s, m, rfl, hs, hm⟩
  · trivial
  · exact ⟨(stU_ok hs).2.2, gMembers_pln hm.1, trivial⟩
theorem les_plnU {ls : U} (h : LesU ls) : pln ls := by
  obtain ⟨L, rfl, _⟩ := h
  exact plnL_all.mpr fun x hx => by
    obtain ⟨y, _, rfl⟩ := List.mem_map.mp hx
    exact lsU_pln y
theorem nil_bdX {m d : Nat} (hm : 3 ≤ m) (hd : 1 ≤ d) : Bd (.tup []) m d 0 := ⟨by simp only [wt, wtL]; omega, by simp only [dep, depL]; omega, by simp [tidy, tidyL]⟩
theorem tabX_ok {u : U} (h : TabX u) : TabG u ∧ Bd u 113800 5 0 ∧ nth u 0 = .int (epU u) ∧ -1 ≤ epU u ∧ epU u ≤ 10 ^ 11 + 10 ∧ (epU u = -1 ∨ (0 ≤ epU u)) := by
  obtain ⟨e, c, m, a, hs, bs, ls, p, v, n, rfl, c0, c1, hls, hp, hv, hn, hk⟩ := h
  have up : ∀ {u : U} {k d : Nat}, Bd u k d 0 → d ≤ 4 → Bd u k 4 0 := fun h hd => h.mono (Nat.le_refl _) hd (Nat.le_refl _)
  have kb : Bd m 800 4 0 ∧ Bd a 800 4 0 ∧ Bd hs 105800 4 0 ∧ Bd bs 1600 4 0 ∧ pln m ∧ pln a ∧ pln hs ∧ pln bs ∧ -1 ≤ e ∧ e ≤ 10 ^ 11 + 10 ∧ (e = -1 ∨ 0 ≤ e) := by
    have nl : pln (.tup []) := by simp [pln, plnL]
    rcases hk with ⟨rfl, rfl, rfl, rfl, rfl⟩ | ⟨e0, e1, hm, ha, hh, hb⟩
    · exact ⟨nil_bdX (by decide) (by decide), nil_bdX (by decide) (by decide), nil_bdX (by decide) (by decide), nil_bdX (by decide) (by decide), nl, nl, nl, nl, by omega, by omega, .inl rfl⟩
    · exact ⟨up hm.2 (by decide), up (ah_ok ha).2 (by decide), up (hds_ok hh).2 (by decide), up (bks_ok hb).2 (by decide), gMembers_pln hm.1, ah_plnU ha, hds_plnU hh, bks_plnU hb, by omega, by omega, .inr e0⟩
  obtain ⟨b1, b2, b3, b4, p1, p2, p3, p4, e0, e1, ee⟩ := kb
  have b : Bd (.tup [.int e, m, a, .int c, hs, bs, ls, p, v, n]) 113800 5 0 :=
    (Bd.tup (BdL.append (BdL.one (up (int_bdH e (by omega)) (by decide))) (BdL.append (BdL.one b1) (BdL.append (BdL.one b2) (BdL.append (BdL.one (up (int_bdH c (by omega)) (by decide))) (BdL.append (BdL.one b3)
      (BdL.append (BdL.one b4) (BdL.append (BdL.one (up (les_ok hls).2 (by decide))) (BdL.append (BdL.one (up (stU_ok hp).2.1 (by decide))) (BdL.append (BdL.one (up (vt_ok hv).2 (by decide))) (BdL.one (up (nx_ok hn).2.1 (by decide))))))))))))).mono (by decide) (by decide) (Nat.le_refl _)
  refine ⟨⟨?_, b.fine (by decide) (by decide), Nat.le_trans b.w (by decide), ⟨trivial, p1, p2, trivial, p3, p4, les_plnU hls, (stU_ok hp).2.2, vt_plnU hv, (nx_ok hn).2.2, trivial⟩⟩, b, rfl, e0, e1, ee⟩
  show (true && ((decide (0 ≤ c) && gLeases ls) && ((gStamp p && gVote v) && ((isNon n || gMembers n) && (if isM1 (.int e) = true then nilU m && (nilU a && (nilU hs && nilU bs)) else decide (0 ≤ e) && (gMembers m && (gAhead a && (gHeads hs && gBlocks bs)))))))) = true
  rw [decide_eq_true c0, (les_ok hls).1, (stU_ok hp).1, (vt_ok hv).1, (nx_ok hn).1]
  rcases hk with ⟨rfl, rfl, rfl, rfl, rfl⟩ | ⟨e0, e1, hm, ha, hh, hb⟩
  · rfl
  · have ne : isM1 (.int e) = false := by
      show decide (e = -1) = false
      exact decide_eq_false (by omega)
    rw [ne, decide_eq_true e0, hm.1, (ah_ok ha).1, (hds_ok hh).1, (bks_ok hb).1]
    rfl
theorem tabH_X {u : U} (h : TabH u) : TabX u := by
  obtain ⟨e, c, m, a, hs, bs, ls, p, v, rfl, e0, e1, c0, c1, hm, ha, hhs, hbs, hls, hp, hv⟩ := h
  exact ⟨e, c, m, a, hs, bs, ls, p, v, .non, rfl, c0, c1, hls, hp, hv, .inl rfl, .inr ⟨e0, by omega, hm, ha, hhs, hbs⟩⟩
inductive RstX : Str → List U → Prop
  | nm {z n : Str} : (z = "ask" ∨ z = "lease" ∨ z = "free") → gNam (.str n) = true → RstX z [.str n]
  | list : RstX "list" []
  | get {p : U} : IdU p → RstX "get" [p]
  | put {p x : U} : IdU p → PcU x → RstX "put" [p, x]
  | head {n : Str} {s r : U} : gNam (.str n) = true → StU s → RowU r → RstX "head" [.str n, s, r]
  | prep {s : U} : StU s → RstX "prepare" [s]
  | acc {s m : U} : StU s → MmU m → RstX "accept" [s, m]
  | sealX {m : U} : MmU m → RstX "seal" [m]
  | inst {m a h b : U} : MmU m → AhU a → HdsU h → BksU b → RstX "install" [m, a, h, b]
theorem rst_W {z : Str} {rs : List U} (h : RstX z rs) : z ∈ W11 := by
  cases h with
  | nm hz => rcases hz with rfl | rfl | rfl <;> decide +kernel
  | _ => decide +kernel
theorem pcU_okX {u : U} (h : PcU u) : gPiece u = true ∧ Bd u 20 0 0 := by
  obtain ⟨z, rfl, g, t⟩ := h
  refine ⟨g, ?_, Nat.zero_le _, ?_⟩
  · have g' : (okz z && (decide (1 ≤ z.length) && decide (z.length ≤ 8))) = true := g
    rw [Bool.and_eq_true, Bool.and_eq_true, decide_eq_true_eq, decide_eq_true_eq] at g'
    simp only [wt]
    omega
  · simp only [tidy]
    exact fun c hc => .inl (List.all_eq_true.mp t c hc)
theorem rst_look {z : Str} {rs : List U} {e : Int} (h : RstX z rs) (e0 : 0 ≤ e) : lookT toT z (.int e :: rs) = true := by
  cases h with
  | nm hz hn => rcases hz with rfl | rfl | rfl <;> (rw [lookT_pos (ks := ["epoch", "name"]) (by decide +kernel), gParts_cons, gParts_cons, gp_epoch, gp_name, gParts_nn, cnt_ok e0, hn]; rfl)
  | list => rw [lookT_pos (ks := ["epoch"]) (by decide +kernel), gParts_cons, gp_epoch, gParts_nn, cnt_ok e0]; rfl
  | get hp => rw [lookT_pos (ks := ["epoch", "id"]) (by decide +kernel), gParts_cons, gParts_cons, gp_epoch, gp_id, gParts_nn, cnt_ok e0, (idU_ok hp).1]; rfl
  | put hp hx => rw [lookT_pos (ks := ["epoch", "id", "piece"]) (by decide +kernel), gParts_cons, gParts_cons, gParts_cons, gp_epoch, gp_id, gp_piece, gParts_nn, cnt_ok e0, (idU_ok hp).1, (pcU_okX hx).1]; rfl
  | head hn hs hr => rw [lookT_pos (ks := ["epoch", "name", "stamp", "row"]) (by decide +kernel), gParts_cons, gParts_cons, gParts_cons, gParts_cons, gp_epoch, gp_name, gp_stamp, gp_row, gParts_nn, cnt_ok e0, hn, (stU_ok hs).1, hr.1]; rfl
  | prep hs => rw [lookT_pos (ks := ["epoch", "ballot"]) (by decide +kernel), gParts_cons, gParts_cons, gp_epoch, gp_ballot, gParts_nn, cnt_ok e0, (stU_ok hs).1]; rfl
  | acc hs hm => rw [lookT_pos (ks := ["epoch", "ballot", "members"]) (by decide +kernel), gParts_cons, gParts_cons, gParts_cons, gp_epoch, gp_ballot, gp_members, gParts_nn, cnt_ok e0, (stU_ok hs).1, hm.1]; rfl
  | sealX hm => rw [lookT_pos (ks := ["epoch", "members"]) (by decide +kernel), gParts_cons, gParts_cons, gp_epoch, gp_members, gParts_nn, cnt_ok e0, hm.1]; rfl
  | inst hm ha hh hb => rw [lookT_pos (ks := ["epoch", "members", "ahead", "heads", "blocks"]) (by decide +kernel), gParts_cons, gParts_cons, gParts_cons, gParts_cons, gParts_cons, gp_epoch, gp_members, gp_ahead, gp_heads, gp_blocks, gParts_nn, cnt_ok e0, hm.1, (ah_ok ha).1, (hds_ok hh).1, (bks_ok hb).1]; rfl
theorem rst_bd {z : Str} {rs : List U} (h : RstX z rs) : BdL rs 109100 4 0 ∧ plnL rs ∧ rs.length ≤ 4 ∧ Bd (.str z) 20 0 0 := by
  have up : ∀ {u : U} {k d : Nat}, Bd u k d 0 → d ≤ 4 → Bd u k 4 0 := fun h hd => h.mono (Nat.le_refl _) hd (Nat.le_refl _)
  have fin : ∀ {us : List U} {k : Nat}, BdL us k 4 0 → k ≤ 109100 → BdL us 109100 4 0 := fun h hk => h.mono hk (Nat.le_refl _) (Nat.le_refl _)
  cases h with
  | nm hz hn => rcases hz with rfl | rfl | rfl <;> exact ⟨fin (BdL.one (up (nam_bd hn) (by decide))) (by decide), ⟨trivial, trivial⟩, by simp, word_bd (by decide +kernel) (by decide +kernel)⟩
  | list => exact ⟨BdL.nil.mono (Nat.zero_le _) (Nat.zero_le _) (Nat.le_refl _), trivial, by simp, word_bd (by decide +kernel) (by decide +kernel)⟩
  | get hp => exact ⟨fin (BdL.one (up (idU_ok hp).2.1 (by decide))) (by decide), ⟨(idU_ok hp).2.2, trivial⟩, by simp, word_bd (by decide +kernel) (by decide +kernel)⟩
  | put hp hx =>
    refine ⟨fin (BdL.append (BdL.one (up (idU_ok hp).2.1 (by decide))) (BdL.one (up (pcU_okX hx).2 (by decide)))) (by decide), ⟨(idU_ok hp).2.2, ?_, trivial⟩, by simp, word_bd (by decide +kernel) (by decide +kernel)⟩
    obtain ⟨y, rfl, _⟩ := hx
    trivial
  | head hn hs hr => exact ⟨fin (BdL.append (BdL.one (up (nam_bd hn) (by decide))) (BdL.append (BdL.one (up (stU_ok hs).2.1 (by decide))) (BdL.one (up hr.2 (by decide))))) (by decide), ⟨trivial, (stU_ok hs).2.2, gRow_pln hr.1, trivial⟩, by simp, word_bd (by decide +kernel) (by decide +kernel)⟩
  | prep hs => exact ⟨fin (BdL.one (up (stU_ok hs).2.1 (by decide))) (by decide), ⟨(stU_ok hs).2.2, trivial⟩, by simp, word_bd (by decide +kernel) (by decide +kernel)⟩
  | acc hs hm => exact ⟨fin (BdL.append (BdL.one (up (stU_ok hs).2.1 (by decide))) (BdL.one (up hm.2 (by decide)))) (by decide), ⟨(stU_ok hs).2.2, gMembers_pln hm.1, trivial⟩, by simp, word_bd (by decide +kernel) (by decide +kernel)⟩
  | sealX hm => exact ⟨fin (BdL.one (up hm.2 (by decide))) (by decide), ⟨gMembers_pln hm.1, trivial⟩, by simp, word_bd (by decide +kernel) (by decide +kernel)⟩
  | inst hm ha hh hb => exact ⟨fin (BdL.append (BdL.one (up hm.2 (by decide))) (BdL.append (BdL.one (up (ah_ok ha).2 (by decide))) (BdL.append (BdL.one (up (hds_ok hh).2 (by decide))) (BdL.one (up (bks_ok hb).2 (by decide)))))) (by decide), ⟨gMembers_pln hm.1, ah_plnU ha, hds_plnU hh, bks_plnU hb, trivial⟩, by simp, word_bd (by decide +kernel) (by decide +kernel)⟩
theorem let_bdX {h t m e : Int} {z : Str} {rs : List U} (r : RstX z rs) (h2 : h.natAbs < 2 ^ 60) (t0 : t.natAbs < 2 ^ 60) (m0 : m.natAbs < 2 ^ 60) (e0 : e.natAbs < 2 ^ 60) : Bd (.tup (letU h t m z (.int e :: rs))) 110000 6 0 := by
  obtain ⟨b, _, _, bz⟩ := rst_bd r
  have up : ∀ {u : U} {k d : Nat}, Bd u k d 0 → d ≤ 5 → Bd u k 5 0 := fun h hd => h.mono (Nat.le_refl _) hd (Nat.le_refl _)
  have br : Bd (.tup (.int e :: rs)) 109200 5 0 := (Bd.tup (BdL.append (BdL.one ((int_bdH e e0).mono (Nat.le_refl _) (by decide) (Nat.le_refl _))) b)).mono (by decide) (by decide) (Nat.le_refl _)
  exact (Bd.tup (BdL.append (BdL.one (up (mach_bd bd_home m0) (by decide))) (BdL.append (BdL.one (up (mach_bd bd_hand h2) (by decide))) (BdL.append (BdL.one (up (int_bdH t t0) (by decide))) (BdL.append (BdL.one (up bz (by decide))) (BdL.one br)))))).mono (by decide) (by decide) (Nat.le_refl _)
/-- a letter that the law asks of this table -/
theorem pre_of {u : U} {z : Str} {e : Int} {rs : List U} (hu : TabX u) (r : RstX z rs) (hl : isNon (nth u 9) = true → epU u = e → z ≠ "install" → z = "seal") : PreW u z (.int e :: rs) := by
  obtain ⟨te, _, e0, _⟩ := tabX_ok hu
  refine ⟨rst_W r, ⟨e, rs, rfl⟩, e0, by have := (rst_bd r).2.2.1; show rs.length + 1 ≤ 1000; omega, fun hz => ?_, hl, ⟨trivial, (rst_bd r).2.1⟩⟩
  subst hz
  generalize hz : ("seal" : Str) = z at r
  cases r with
  | sealX hm => exact ⟨_, rfl⟩
  | nm h => rcases h with rfl | rfl | rfl <;> exact absurd hz (by decide +kernel)
  | _ => exact absurd hz (by decide +kernel)
end Hs
namespace Hs
open PySem PySem.Spec PyProof.Rows L2 Hu Evl
abbrev lLb14 : Stmt := topS 165
abbrev lBg14 : Stmt := topS 166
abbrev lWd14 : Stmt := topS 167
def setN (u n : U) : U := .tup [nth u 0, nth u 1, nth u 2, nth u 3, nth u 4, nth u 5, nth u 6, nth u 7, nth u 8, n]
/-- a deed, and the table behind it -/
inductive DeX (u : U) : U → U → Prop
  | sealX {m : U} : 0 ≤ epU u → MmU m → DeX u (.tup [.str "seal", m]) (setN u m)
  | inst {e : Int} {m a h b : U} : 0 ≤ e → e ≤ 10 ^ 11 + 10 → MmU m → AhU a → HdsU h → BksU b → DeX u (.tup [.str "install", .int e, m, a, h, b]) (.tup [.int e, m, a, nth u 3, h, b, .tup [], .tup [.int 0, .int 0], .non, .non])
theorem les_nil : LesU (.tup []) := ⟨[], rfl, .nil, Nat.zero_le _, fun l h => nomatch h⟩
theorem st_00 : StU (.tup [.int 0, .int 0]) := ⟨0, 0, rfl, .inl ⟨rfl, rfl⟩⟩
theorem TabX.next {u m : U} (hu : TabX u) (hm : NxU m) : TabX (setN u m) := by
  obtain ⟨e, c, m', a, hs, bs, ls, p, v, n, rfl, c0, c1, hls, hp, hv, hn, hk⟩ := hu
  exact ⟨e, c, m', a, hs, bs, ls, p, v, m, rfl, c0, c1, hls, hp, hv, hm, hk⟩
theorem DeX.tab {u d u' : U} (hu : TabX u) (h : DeX u d u') : TabX u' := by
  cases h with
  | sealX _ hm => exact hu.next (.inr hm)
  | inst e0 e1 hm ha hh hb =>
    obtain ⟨e, c, m', a, hs, bs, ls, p, v, n, rfl, c0, c1, hls, hp, hv, hn, hk⟩ := hu
    exact ⟨_, c, _, _, _, _, _, _, _, _, rfl, c0, c1, les_nil, st_00, .inl rfl, .inl rfl, .inr ⟨e0, e1, hm, ha, hh, hb⟩⟩
section
variable {wl : WA} {C : Addr} {σ : L2.St} {H : Hp} {K : PySem.W.Frag}
theorem ew_catR {ta' tb : TE} {R1 R2 : List U → Prop} (h1' : EvW wl C ta' σ H (fun u => ∃ us, u = .tup us ∧ R1 us)) (h2 : EvW wl C tb σ H (fun u => ∃ us, u = .tup us ∧ R2 us)) (l1 : ∀ us, R1 us → us.length ≤ 1000) (l2 : ∀ us, R2 us → us.length ≤ 1000) :
    EvW wl C (tOp (rCatF K) ta' tb) σ H (fun u => ∃ us vs, u = .tup (us ++ vs) ∧ R1 us ∧ R2 vs) := fun H1 D1 Q q => by
  refine h1' H1 D1 _ fun v1 u1 H2 D2 a1 ⟨us1, e1, r1⟩ => h2 H2 (D1.trans D2) _ fun v2 u2 H3 D3 a2 ⟨us2, e2, r2⟩ => ?_
  subst e1
  subst e2
  have a1' := At.drawn D3 a1
  obtain ⟨p1, x1, rfl, g1, n1, k1⟩ := at_tup a1'
  obtain ⟨p2, x2, rfl, g2, n2, k2⟩ := at_tup a2
  have D13 := D2.trans D3
  refine ⟨p1, p2, x1, x2, rfl, rfl, Tu.st g1, Tu.st g2, sz_of (by have := l1 _ r1; have := l2 _ r2; rw [AtL.length k1, AtL.length k2]; omega), fun z => ?_, fun _ z => ?_, fun _ _ => newT_data D3.well.at (AtL.append k1 k2) fun v H5 e6 a => q v (.tup (us1 ++ us2)) H5 (D13.same e6) a ⟨us1, us2, rfl, r1, r2⟩⟩
  · subst z
    cases k1
    exact q _ _ H3 D13 a2 ⟨[], us2, rfl, r1, r2⟩
  · subst z
    cases k2
    exact q _ _ H3 D13 a1' ⟨us1, [], by rw [List.append_nil], r1, r2⟩
end
section
variable {P : Program} {wd : World} {K : PySem.W.Frag} {mg : Str → Option Value} {base : Heap} {C : Addr} {fD : Addr} {dD : FuncData}
/-- table[:9] + (a value,) -/
theorem ed_next {w : Addr} {σ : L2.St} {H : Hp} {i : Nat} {x : V} {u n : U} {t1 : TE} (hw : ∃ o, H w = some o) (h : σ[i]? = some (some x)) (hu : TabX u) (ha : At w C H x u) (h1 : EvD w C t1 σ H n) :
    EvD w C (tOp (rCatF K) (tSl (rSlF K) (tVar i) tNoPart (tPart (tC (.int 9)))) (tTupF (tCons t1 tNil))) σ H (setN u n) := by
  obtain ⟨e, c, m, a, hs, bs, ls, p, v', n', rfl, _⟩ := hu
  obtain ⟨pa', xs, rfl, hpa, npa, lx⟩ := at_tup ha
  have cut := ed_slice (K := K) (w := w) (C := C) (σ := σ) (te := tVar i) hw (ev_var h) hpa npa lx eo_none (eo_some (te := tC (.int 9)) ev_c)
  rw [show cutU [U.int e, m, a, .int c, hs, bs, ls, p, v', n'] none (some 9) = [U.int e, m, a, .int c, hs, bs, ls, p, v'] from rfl] at cut
  exact ed_cat (K := K) (us2 := [n]) hw cut (ed_tup hw (eds_cons h1 eds_nil) (by simp)) (by simp)
def spLb14 (C : Addr) : Sp := fun vs H Q _ => ∃ (x y : V) (u d u' : U) (w : Addr), vs = [x, y] ∧ At w C H x u ∧ At w C H y d ∧ (∃ o, H w = some o) ∧ TabX u ∧ DeX u d u' ∧ ∀ v H', Same H H' → At w C H' v u' → Q v H'
theorem scLb14 : FnScope ["table", "deed"] ["table", "deed"] (defScope lLb14) := ⟨rfl, rfl, rfl, by decide +kernel, rfl, by decide +kernel, by decide +kernel⟩
theorem ok_lb14 {f : Addr} {fd : FuncData} (F : Fun K "_law_behind" "_law_behind" lLb14 f fd) : FnOk P wd K mg base CX0 1 f fd ["table", "deed"] (spLb14 C) := by
  refine F.ok scLb14 (fun vs H Q E h => ?_) (fun cdv A outer s H vs Q E hr h => ?_)
  · obtain ⟨x, y, u, d, u', w, rfl, _⟩ := h
    rfl
  obtain ⟨x, y, u, d, u', w, rfl, hx, hy, hw, hu, hd, k⟩ := h
  refine ⟨_, pss_cons (ps_if (pt_cmpR op_eq (pe_ix (show IxR _ (rIxT K) from ix_tup) (pv 1) pe_int (fun _ _ => rfl)) pe_str (nomark _)) (pss_one (ps_ret (pe_op (show OpR _ _ (rCatF K) from op_catF) (pe_slice (show SlR _ (rSlF K) from sl_tupF) (pv 0) po_none (po_some pe_int)) (pe_tupF (pa_cons (pe_ix (show IxR _ (rIxT K) from ix_tup) (pv 1) pe_int (fun _ _ => rfl)) pa_nil))))) pss_nil)
    (pss_one (ps_ret (pe_tupF (pa_cons (pe_ix (show IxR _ (rIxT K) from ix_tup) (pv 1) pe_int (fun _ _ => rfl)) (pa_cons (pe_ix (show IxR _ (rIxT K) from ix_tup) (pv 1) pe_int (fun _ _ => rfl)) (pa_cons (pe_ix (show IxR _ (rIxT K) from ix_tup) (pv 1) pe_int (fun _ _ => rfl)) (pa_cons (pe_ix (show IxR _ (rIxT K) from ix_tup) (pv 0) pe_int (fun _ _ => rfl)) (pa_cons (pe_ix (show IxR _ (rIxT K) from ix_tup) (pv 1) pe_int (fun _ _ => rfl)) (pa_cons (pe_ix (show IxR _ (rIxT K) from ix_tup) (pv 1) pe_int (fun _ _ => rfl)) (pa_cons (pe_tupF pa_nil) (pa_cons (pe_tupF (pa_cons pe_int (pa_cons pe_int pa_nil))) (pa_cons pe_non (pa_cons pe_non pa_nil))))))))))))), ?_⟩
  have dw : ∀ {z c : Str} {ps : List U}, At w C H y (.tup (.str z :: ps)) → EvT (tTest (tOp rEq (tOp (rIxT K) (tVar 1) (tC (.int 0))) (tC (.str c)))) [some x, some y] H (decide (z = c)) := fun {z c ps} a => by
    obtain ⟨v0, e0, a0⟩ := nth_at (K := K) (te := tVar 1) (σ := [some x, some y]) a (ev_var rfl) 0 (Nat.zero_lt_succ _)
    cases at_str a0
    exact et_test (ev_is (ev_op e0 ev_c (rv_eq rfl)) (congrArg V.bl (decide_eq_decide.mpr ⟨fun h => V.str.inj h, fun h => by rw [h]⟩)))
  cases hd with
  | @sealX m _ hm =>
    refine q_when (b := true) (et_is (dw hy) (by decide +kernel)) (fun _ H1 e1 => ?_) (fun q => by cases q)
    obtain ⟨v1, f1, a1⟩ := nth_at (K := K) (te := tVar 1) (σ := [some x, some y]) (ex_at e1 hy) (ev_var rfl) 1 (by show (1 : Nat) < 2; decide)
    refine ret1 ?_
    exact (ed_next (K := K) (hw.imp fun o q => e1 _ _ q) (i := 0) rfl hu (ex_at e1 hx) (ed_ev f1 (show At w C H1 v1 m from a1))) H1 (Ex.refl H1) _ fun v H2 e2 a => k v H2 (e1.trans e2) a
  | @inst e m a h b e0 e1' hm ha hh hb =>
    refine q_when (b := false) (et_is (dw hy) (by decide +kernel)) (fun q => by cases q) (fun _ H1 e1 => ?_)
    have hw1 : ∃ o, H1 w = some o := hw.imp fun o q => e1 _ _ q
    have pt : ∀ j : Nat, j < 6 → ∃ v, Ev (tOp (rIxT K) (tVar 1) (tC (.int (j : Int)))) [some x, some y] H1 v ∧ At w C H1 v ([U.str "install", .int e, m, a, h, b].getD j .non) := fun j hj => nth_at (K := K) (te := tVar 1) (σ := [some x, some y]) (ex_at e1 hy) (ev_var rfl) j hj
    obtain ⟨v1, f1, a1⟩ := pt 1 (by decide)
    obtain ⟨v2, f2, a2⟩ := pt 2 (by decide)
    obtain ⟨v3, f3, a3⟩ := pt 3 (by decide)
    obtain ⟨v4, f4, a4⟩ := pt 4 (by decide)
    obtain ⟨v5, f5, a5⟩ := pt 5 (by decide)
    obtain ⟨te, _⟩ := tabX_ok hu
    obtain ⟨hs', bs', T⟩ := gTable_has te.g
    obtain ⟨y3, g3, b3⟩ := tab_part (K := K) (j := 3) (σ := [some x, some y]) rfl (ex_at e1 hx) T (by decide)
    refine ret1 ?_
    exact (ed_tup (C := C) (w := w) hw1 (eds_cons (ed_ev f1 a1) (eds_cons (ed_ev f2 a2) (eds_cons (ed_ev f3 a3) (eds_cons (ed_ev g3 b3) (eds_cons (ed_ev f4 a4) (eds_cons (ed_ev f5 a5) (eds_cons (ed_tup hw1 eds_nil (by simp)) (eds_cons (ed_tup hw1 (eds_cons (ed_ev (te := tC (.int 0)) ev_c (.int 0)) (eds_cons (ed_ev (te := tC (.int 0)) ev_c (.int 0)) eds_nil)) (by simp)) (eds_cons (ed_ev (te := tC .non) ev_c .non) (eds_cons (ed_ev (te := tC .non) ev_c .non) eds_nil)))))))))) (by simp)) H1 (Ex.refl H1) _ fun v H2 e2 a => k v H2 (e1.trans e2) a
theorem scBg14 : FnScope ["hat", "names", "pool", "kind", "table"] ["hat", "names", "pool"] (defScope lBg14) := ⟨rfl, rfl, rfl, by decide +kernel, rfl, by decide +kernel, by decide +kernel⟩
theorem ok_bg14 {f f1 f2 : Addr} {fd d1 d2 : FuncData} (F : Fun K "_law_begin" "_law_begin" lBg14 f fd) (D : Dd P wd K mg base fD dD) (DM : Df K mg "_law_members" lMembers ["hat"] f1 d1) (GM0 : FnOk P wd K mg base CX0 2 f1 d1 ["hat"] (spMk C MmU)) (DT : Df K mg "_law_table" lTableH ["hat", "names", "pool"] f2 d2) (GT : FnOk P wd K mg base CX0 4 f2 d2 ["hat", "names", "pool"] (spMkA C PreNP fun _ => TabH)) :
    FnOk P wd K mg base CX0 5 f fd ["hat", "names", "pool"] (spMkA C PreNP fun _ u => TabX u ∧ epU u ≤ 10 ^ 11) := by
  have GM : FnOk P wd K mg base CX0 4 f1 d1 ["hat"] (spMk C MmU) := GM0.mono (by decide)
  refine F.ok scBg14 (lenMkA preNP_len rfl) (fun cdv A outer s H vs Q E hr h => ?_)
  obtain ⟨wl, xs, us, rfl, W, l, ⟨ns, ps, rfl, hns, hps⟩, k⟩ := h
  refine ⟨_, pss_cons (ps_set (i := 3) scBg14.nd rfl (.inl rfl) (pe_draw D hr (by decide) (by rfl) (pv 0) pe_int))
    (pss_cons (ps_set (i := 4) scBg14.nd rfl (.inl rfl) (pe_call GT hr (by rfl) DT.g DT.F.kp DT.b .nil pass0 (pa_cons (pv 0) (pa_cons (pv 1) (pa_cons (pv 2) pa_nil)))))
    (pss_cons (ps_if (pt_cmpR op_eq (pv 3) pe_int (nomark _)) (pss_one (ps_ret (pe_tupF (pa_cons (pe_un un_neg pe_int) (pa_cons (pe_tupF pa_nil) (pa_cons (pe_tupF pa_nil) (pa_cons (pe_ix (show IxR _ (rIxT K) from ix_tup) (pv 4) pe_int (fun _ _ => rfl)) (pa_cons (pe_tupF pa_nil) (pa_cons (pe_tupF pa_nil) (pa_cons (pe_tupF pa_nil) (pa_cons (pe_tupF (pa_cons pe_int (pa_cons pe_int pa_nil))) (pa_cons pe_non (pa_cons pe_non pa_nil))))))))))))) pss_nil)
    (pss_cons (ps_if (pt_cmpR op_lt (pv 3) pe_int (nomark _)) (pss_one (ps_ret (pe_op (show OpR _ _ (rCatF K) from op_catF) (pe_slice (show SlR _ (rSlF K) from sl_tupF) (pv 4) po_none (po_some pe_int)) (pe_tupF (pa_cons (pe_call GM hr (by rfl) DM.g DM.F.kp DM.b .nil pass0 (pa_cons (pv 0) pa_nil)) pa_nil))))) pss_nil)
    (pss_one (ps_ret (pv 4)))))), ?_⟩
  obtain ⟨x, y, rfl, ax, ay⟩ := atl2 l
  refine q_asgI (wl := wl) (ei_draw rfl (by decide) (by decide)) W fun kd H1 D1 k0 k1 => ?_
  refine q_asgW (wl := wl) (C := C) (R := TabH) (fun G1 g1 Q q => ⟨_, rfl, _, rfl, _, rfl, wl, [x, y], [.lst ns, .lst ps], rfl, g1.well, .cons (At.drawn (D1.trans g1) ax) (.cons (At.drawn (D1.trans g1) ay) .nil), ⟨ns, ps, rfl, hns, hps⟩, fun v u H' d a r => q v u H' d a r⟩) D1.well fun v4 u4 H2 D2 a4 r4 => ?_
  have D12 := D1.trans D2
  have he4 : epU u4 ≤ 10 ^ 11 := by
    obtain ⟨e, c, m, a, hs, bs, ls, p, v, rfl, e0, e1, _⟩ := r4
    exact e1
  show tSeq _ _ _ [some (V.ref wl.w), some x, some y, some (.int kd), some v4] H2
  refine q_when (b := decide (V.int kd = V.int 0)) (et_test (ev_op (ev_var rfl) ev_c (rv_eq rfl))) (fun _ H3 e3 => ?_) (fun _ H3 e3 => ?_)
  · have D13 := D12.same e3
    have hw3 : ∃ o, H3 wl.w = some o := D13.well.at
    obtain ⟨e, c, m, a, hs, bs, ls, p, v, rfl, e0, e1, c0, c1, hrest⟩ := r4
    obtain ⟨y3, f3, a3⟩ := nth_at (K := K) (te := tVar 4) (σ := [some (V.ref wl.w), some x, some y, some (.int kd), some v4]) (ex_at e3 a4) (ev_var rfl) 3 (by show (3 : Nat) < 10; decide)
    refine ret1 ?_
    refine (ed_tup (C := C) (w := wl.w) hw3 (eds_cons (ed_ev (ev_un ev_c ru_neg) (.int (-1))) (eds_cons (ed_tup hw3 eds_nil (by simp)) (eds_cons (ed_tup hw3 eds_nil (by simp)) (eds_cons (ed_ev f3 (show At wl.w C H3 y3 (.int c) from a3)) (eds_cons (ed_tup hw3 eds_nil (by simp)) (eds_cons (ed_tup hw3 eds_nil (by simp)) (eds_cons (ed_tup hw3 eds_nil (by simp)) (eds_cons (ed_tup hw3 (eds_cons (ed_ev (te := tC (.int 0)) ev_c (.int 0)) (eds_cons (ed_ev (te := tC (.int 0)) ev_c (.int 0)) eds_nil)) (by simp)) (eds_cons (ed_ev (te := tC .non) ev_c .non) (eds_cons (ed_ev (te := tC .non) ev_c .non) eds_nil)))))))))) (by simp)) H3 (Ex.refl H3) _ fun v H4 e4 a => k v _ H4 (D13.same e4) a ?_
    exact ⟨⟨-1, c, _, _, _, _, _, _, _, _, rfl, c0, c1, les_nil, st_00, .inl rfl, .inl rfl, .inl ⟨rfl, rfl, rfl, rfl, rfl⟩⟩, by show (-1 : Int) ≤ 10 ^ 11; decide⟩
  refine q_when (b := decide (kd < 4)) (et_test (ev_op (ev_var rfl) ev_c rv_I0)) (fun _ H4 e4 => ?_) (fun _ H4 e4 => ?_)
  · have D14 := (D12.same e3).same e4
    have e34 := e3.trans e4
    have hX := tabH_X r4
    refine ret1 ?_
    obtain ⟨e, c, m, a, hs, bs, ls, p, v, n, rfl, hrest⟩ := hX
    have a44 := ex_at e34 a4
    have hw4 : ∃ o, H4 wl.w = some o := D14.well.at
    refine (ew_catR (K := K) (wl := wl) (C := C) (R1 := fun us => us = [U.int e, m, a, .int c, hs, bs, ls, p, v]) (R2 := fun us => ∃ q, us = [q] ∧ MmU q) (fun G1 g1 Q q => ?_) ((ewr_tup (wl := wl) (ewr_cons (ew_mk (R := MmU) rfl) ewr_nil) len1_le).mono fun u h => by obtain ⟨_, rfl, q, _, rfl, hq, rfl⟩ := h; exact ⟨_, rfl, q, rfl, hq⟩) (fun us h => by subst h; simp) (fun us h => by obtain ⟨q, rfl, _⟩ := h; simp)) H4 (.refl D14.well) _ fun v5 u5 H5 D5 a5 r5 => ?_
    · obtain ⟨pa', xs, rfl, hpa, npa, lx⟩ := at_tup (At.drawn g1 a44)
      have cut := ed_slice (K := K) (w := wl.w) (C := C) (σ := [some (V.ref wl.w), some x, some y, some (.int kd), some (.ref pa')]) (te := tVar 4) g1.well.at (ev_var rfl) hpa npa lx eo_none (eo_some (te := tC (.int 9)) ev_c)
      rw [show cutU [U.int e, m, a, .int c, hs, bs, ls, p, v, n] none (some 9) = [U.int e, m, a, .int c, hs, bs, ls, p, v] from rfl] at cut
      exact cut G1 (Ex.refl G1) _ fun vx G2 g2 ax => q vx _ G2 ((Drawn.refl g1.well).same g2) ax ⟨_, rfl, rfl⟩
    · obtain ⟨_, _, rfl, rfl, q, rfl, hq⟩ := r5
      exact k v5 _ H5 (D14.trans D5) a5 ⟨(show TabX (.tup [.int e, m, a, .int c, hs, bs, ls, p, v, n]) from ⟨e, c, m, a, hs, bs, ls, p, v, n, rfl, hrest⟩).next (.inr hq), he4⟩
  · have D14 := (D12.same e3).same e4
    exact s_ret (ev_var rfl) fun H5 e5 => k v4 _ H5 (D14.same e5) (ex_at ((e3.trans e4).trans e5) a4) ⟨tabH_X r4, he4⟩
def PreWd (us : List U) : Prop := ∃ u e, us = [u, .int e] ∧ TabX u
theorem preWd_len : ∀ us, PreWd us → us.length = 2 := fun us ⟨u, e, h, _⟩ => by rw [h]; rfl
/-- the word, fit for the table -/
def WdX (us : List U) (v : U) : Prop := ∃ z, v = .str z ∧ z ∈ W11 ∧ (isNon (nth (us.getD 0 .non) 9) = true → .int (epU (us.getD 0 .non)) = us.getD 1 .non → z ≠ "install" → z = "seal")
theorem scWd14 : FnScope ["hat", "table", "epoch", "kind"] ["hat", "table", "epoch"] (defScope lWd14) := ⟨rfl, rfl, rfl, by decide +kernel, rfl, by decide +kernel, by decide +kernel⟩
theorem ok_wd14 {f : Addr} {fd : FuncData} (F : Fun K "_law_word" "_law_word" lWd14 f fd) (D : Dd P wd K mg base fD dD) : FnOk P wd K mg base CX0 4 f fd ["hat", "table", "epoch"] (spMkA C PreWd WdX) := by
  refine F.ok scWd14 (lenMkA preWd_len rfl) (fun cdv A outer s H vs Q E hr h => ?_)
  obtain ⟨wl, xs, us, rfl, W, l, ⟨u, e, rfl, hu⟩, k⟩ := h
  refine ⟨_, pss_cons (ps_set (i := 3) scWd14.nd rfl (.inl rfl) (pe_draw D hr (by decide) (by rfl) (pv 0) pe_int))
    (pss_cons (ps_if (pt_cmpR op_eq (pv 3) pe_int (nomark _)) (pss_one (ps_ret pe_str)) pss_nil)
    (pss_cons (ps_if (PW.pt (pw_or (pt_cmpR op_eq (pv 3) pe_int (nomark _)) (pw_or1 (PW.pt (pw_and (pt_cmpR op_isN1 (pe_ix (show IxR _ (rIxT K) from ix_tup) (pv 1) pe_int (fun _ _ => rfl)) pe_non (nomark _)) (pw_and1 (pt_cmpR op_eq (pe_ix (show IxR _ (rIxT K) from ix_tup) (pv 1) pe_int (fun _ _ => rfl)) (pv 2) (nomark _)))))))) (pss_one (ps_ret pe_str)) pss_nil)
    (pss_one (ps_ret (pe_ix (show IxR _ (rIxL K) from ix_list) (pe_lst (pa_cons pe_str (pa_cons pe_str (pa_cons pe_str (pa_cons pe_str (pa_cons pe_str (pa_cons pe_str (pa_cons pe_str (pa_cons pe_str (pa_cons pe_str pa_nil)))))))))) (pe_draw D hr (by decide) (by rfl) (pv 0) pe_int) (fun _ _ => rfl)))))), ?_⟩
  obtain ⟨x, y, rfl, ax, ay⟩ := atl2 l
  cases at_int ay
  obtain ⟨te, _, eu, _⟩ := tabX_ok hu
  obtain ⟨hs, bs, T⟩ := gTable_has te.g
  have fin : ∀ (z : Str) (H' : Hp), Drawn wl H H' → z ∈ W11 → (isNon (nth u 9) = true → epU u = e → z ≠ "install" → z = "seal") → Q (.str z) H' := fun z H' D' hz hq => k (.str z) (.str z) H' D' (.str z) ⟨z, rfl, hz, fun a b c => hq a (U.int.inj b) c⟩
  refine q_asgI (wl := wl) (ei_draw rfl (by decide) (by decide)) W fun kd H1 D1 k0 k1 => ?_
  show tSeq _ _ _ [some (V.ref wl.w), some x, some (.int e), some (.int kd)] H1
  refine q_when (b := decide (V.int kd = V.int 0)) (et_test (ev_op (ev_var rfl) ev_c (rv_eq rfl))) (fun _ H2 e2 => ?_) (fun _ H2 e2 => ?_)
  · exact s_ret ev_c fun H3 e3 => fin "install" H3 ((D1.same e2).same e3) (by decide +kernel) fun _ _ h => absurd rfl h
  have D2 := D1.same e2
  have di : ∀ i j : Int, decide (V.int i = V.int j) = decide (i = j) := fun i j => decide_eq_decide.mpr ⟨fun h => V.int.inj h, fun h => by rw [h]⟩
  have ax2 : At wl.w C H2 x u := At.drawn D2 ax
  obtain ⟨y9, f9, a9⟩ := ev_nth (K := K) (σ := [some (V.ref wl.w), some x, some (.int e), some (.int kd)]) (te := tVar 1) (k := 9) (ev_var rfl) ax2 T.t (by decide)
  obtain ⟨y0, f0, a0⟩ := ev_nth (K := K) (σ := [some (V.ref wl.w), some x, some (.int e), some (.int kd)]) (te := tVar 1) (k := 0) (ev_var rfl) ax2 T.t (by decide)
  rw [eu] at a0
  cases at_int a0
  refine q_when (b := decide (kd = 1) || (isNon (nth u 9) && decide (epU u = e))) (et_or (et_test (ev_is (ev_op (ev_var rfl) ev_c (rv_eq rfl)) (by rw [di]))) fun _ => et_and (et_test (ev_is (ev_isN f9) (by rw [at_non a9]))) fun _ => et_test (ev_is (ev_op f0 (ev_var rfl) (rv_eq rfl)) (by rw [di]))) (fun q H3 e3 => ?_) (fun q H3 e3 => ?_)
  · exact s_ret ev_c fun H4 e4 => fin "seal" H4 ((D2.same e3).same e4) (by decide +kernel) fun _ _ _ => rfl
  have D3 := D2.same e3
  have nq : ¬ (isNon (nth u 9) = true ∧ epU u = e) := fun h => by
    rw [h.1, h.2, decide_eq_true rfl] at q
    simp at q
  refine ret1 ?_
  refine (el_lst (vs := (["ask", "list", "get", "put", "head", "lease", "free", "prepare", "accept"] : List Str).map V.str) (ea_cons ev_c (ea_cons ev_c (ea_cons ev_c (ea_cons ev_c (ea_cons ev_c (ea_cons ev_c (ea_cons ev_c (ea_cons ev_c (ea_cons ev_c ea_nil))))))))) (by simp)) H3 (Ex.refl H3) _ fun p H4 hp e4 h4 => ?_
  have D4 := D3.same e4
  refine ⟨_, rfl, wl, 9, rfl, D4.well, by decide, by decide, fun d H5 d0 d1 D5 => ?_⟩
  obtain ⟨j, rfl⟩ : ∃ j : Nat, d = (j : Int) := ⟨d.toNat, by omega⟩
  have hj : j < (["ask", "list", "get", "put", "head", "lease", "free", "prepare", "accept"] : List Str).length := by show j < 9; omega
  have np := (D3.well.ne hp).1
  refine ⟨p, _, _, .str ((["ask", "list", "get", "put", "head", "lease", "free", "prepare", "accept"] : List Str)[j]), rfl, rfl, sq_of (D5.keep _ _ np h4), atI_nat (by rw [List.getElem?_map, List.getElem?_eq_getElem hj]; rfl), ?_⟩
  refine fin _ H5 (D4.trans D5) ?_ fun a b _ => absurd ⟨a, b⟩ nq
  have hm := List.getElem_mem hj
  have sub : ∀ z ∈ (["ask", "list", "get", "put", "head", "lease", "free", "prepare", "accept"] : List Str), z ∈ W11 := by decide +kernel
  exact sub _ hm
end
end Hs
namespace Hs
open PySem PySem.Spec PyProof.Rows L2 Hu Evl
abbrev lRs14 : Stmt := topS 162
def PreRs (us : List U) : Prop := ∃ z ns ps, us = [.str z, .lst ns, .lst ps] ∧ z ∈ W11 ∧ NmsU ns ∧ PoolU ps
theorem preRs_len : ∀ us, PreRs us → us.length = 3 := fun us ⟨z, ns, ps, e, _⟩ => by rw [e]; rfl
def RsU (us : List U) (v : U) : Prop := ∃ rs, v = .tup rs ∧ RstX (zOf us) rs
section
variable {P : Program} {wd : World} {K : PySem.W.Frag} {mg : Str → Option Value} {base : Heap} {C : Addr} {fD : Addr} {dD : FuncData}
theorem scRs14 : FnScope ["hat", "word", "names", "pool", "ahead"] ["hat", "word", "names", "pool"] (defScope lRs14) := ⟨rfl, rfl, rfl, by decide +kernel, rfl, by decide +kernel, by decide +kernel⟩
set_option maxHeartbeats 2000000 in
theorem ok_rs14 {f f1 f2 f3 f4 f5 f6 : Addr} {fd d1 d2 d3 d4 d5 d6 : FuncData} (F : Fun K "_law_rest" "_law_rest" lRs14 f fd) (B : Bt mg) (D : Dd P wd K mg base fD dD) (DP : Df K mg "_law_piece" lPieceL ["hat"] f1 d1) (GP0 : FnOk P wd K mg base CX0 2 f1 d1 ["hat"] (spMk C PcU)) (DS : Df K mg "_law_stamp" lStamp ["hat"] f2 d2) (GS0 : FnOk P wd K mg base CX0 2 f2 d2 ["hat"] (spMk C StU))
    (DR : Df K mg "_law_row" lRow ["hat", "pool"] f3 d3) (GR0 : FnOk P wd K mg base CX0 2 f3 d3 ["hat", "pool"] (spMkA C PreP fun _ => RowU)) (DM : Df K mg "_law_members" lMembers ["hat"] f4 d4) (GM0 : FnOk P wd K mg base CX0 2 f4 d4 ["hat"] (spMk C MmU)) (DH : Df K mg "_law_heads" lHeads ["hat", "names", "pool"] f5 d5) (GH : FnOk P wd K mg base CX0 3 f5 d5 ["hat", "names", "pool"] (spMkA C PreNP fun _ => HdsU))
    (DB : Df K mg "_law_blocks" lBlocks ["hat", "pool"] f6 d6) (GB : FnOk P wd K mg base CX0 3 f6 d6 ["hat", "pool"] (spMkA C PreP fun _ => BksU)) : FnOk P wd K mg base CX0 4 f fd ["hat", "word", "names", "pool"] (spMkA C PreRs RsU) := by
  have GP : FnOk P wd K mg base CX0 3 f1 d1 ["hat"] (spMk C PcU) := GP0.mono (by decide)
  have GS : FnOk P wd K mg base CX0 3 f2 d2 ["hat"] (spMk C StU) := GS0.mono (by decide)
  have GR : FnOk P wd K mg base CX0 3 f3 d3 ["hat", "pool"] (spMkA C PreP fun _ => RowU) := GR0.mono (by decide)
  have GM : FnOk P wd K mg base CX0 3 f4 d4 ["hat"] (spMk C MmU) := GM0.mono (by decide)
  refine F.ok scRs14 (lenMkA preRs_len rfl) (fun cdv A outer s H vs Q E hr h => ?_)
  obtain ⟨wl, xs, us, rfl, W, l, ⟨z, ns, ps, rfl, hz, hns, hps⟩, k⟩ := h
  refine ⟨_, pss_cons (ps_if (pt_cmpR (show OpR _ _ (rIn K false) from op_in_seq) (pv 1) (pe_tup (pa_cons pe_str (pa_cons pe_str (pa_cons pe_str pa_nil)))) (by rfl)) (pss_one (ps_ret (pe_tupF (pa_cons (pe_ix (show IxR _ (rIxL K) from ix_list) (pv 2) (pe_draw D hr (by decide) (by rfl) (pv 0) (pe_callB (show CallR _ _ (rLenQ K) from call_len_seq) (by rfl) B.len PySem.boot_len (pa_cons (pv 2) pa_nil))) (fun _ _ => rfl)) pa_nil)))) pss_nil)
    (pss_cons (ps_if (pt_cmpR op_eq (pv 1) pe_str (nomark _)) (pss_one (ps_ret (pe_tupF pa_nil))) pss_nil)
    (pss_cons (ps_if (pt_cmpR op_eq (pv 1) pe_str (nomark _)) (pss_one (ps_ret (pe_tupF (pa_cons (pe_ix (show IxR _ (rIxL K) from ix_list) (pv 3) (pe_draw D hr (by decide) (by rfl) (pv 0) (pe_callB (show CallR _ _ (rLenQ K) from call_len_seq) (by rfl) B.len PySem.boot_len (pa_cons (pv 3) pa_nil))) (fun _ _ => rfl)) pa_nil)))) pss_nil)
    (pss_cons (ps_if (pt_cmpR op_eq (pv 1) pe_str (nomark _)) (pss_one (ps_ret (pe_tupF (pa_cons (pe_ix (show IxR _ (rIxL K) from ix_list) (pv 3) (pe_draw D hr (by decide) (by rfl) (pv 0) (pe_callB (show CallR _ _ (rLenQ K) from call_len_seq) (by rfl) B.len PySem.boot_len (pa_cons (pv 3) pa_nil))) (fun _ _ => rfl)) (pa_cons (pe_call GP hr (by rfl) DP.g DP.F.kp DP.b .nil pass0 (pa_cons (pv 0) pa_nil)) pa_nil))))) pss_nil)
    (pss_cons (ps_if (pt_cmpR op_eq (pv 1) pe_str (nomark _)) (pss_one (ps_ret (pe_tupF (pa_cons (pe_ix (show IxR _ (rIxL K) from ix_list) (pv 2) (pe_draw D hr (by decide) (by rfl) (pv 0) (pe_callB (show CallR _ _ (rLenQ K) from call_len_seq) (by rfl) B.len PySem.boot_len (pa_cons (pv 2) pa_nil))) (fun _ _ => rfl)) (pa_cons (pe_call GS hr (by rfl) DS.g DS.F.kp DS.b .nil pass0 (pa_cons (pv 0) pa_nil)) (pa_cons (pe_call GR hr (by rfl) DR.g DR.F.kp DR.b .nil pass0 (pa_cons (pv 0) (pa_cons (pv 3) pa_nil))) pa_nil)))))) pss_nil)
    (pss_cons (ps_if (pt_cmpR op_eq (pv 1) pe_str (nomark _)) (pss_one (ps_ret (pe_tupF (pa_cons (pe_call GS hr (by rfl) DS.g DS.F.kp DS.b .nil pass0 (pa_cons (pv 0) pa_nil)) pa_nil)))) pss_nil)
    (pss_cons (ps_if (pt_cmpR op_eq (pv 1) pe_str (nomark _)) (pss_one (ps_ret (pe_tupF (pa_cons (pe_call GS hr (by rfl) DS.g DS.F.kp DS.b .nil pass0 (pa_cons (pv 0) pa_nil)) (pa_cons (pe_call GM hr (by rfl) DM.g DM.F.kp DM.b .nil pass0 (pa_cons (pv 0) pa_nil)) pa_nil))))) pss_nil)
    (pss_cons (ps_if (pt_cmpR op_eq (pv 1) pe_str (nomark _)) (pss_one (ps_ret (pe_tupF (pa_cons (pe_call GM hr (by rfl) DM.g DM.F.kp DM.b .nil pass0 (pa_cons (pv 0) pa_nil)) pa_nil)))) pss_nil)
    (pss_cons (ps_set (i := 4) scRs14.nd rfl (.inl rfl) (pe_tupF pa_nil))
    (pss_cons (ps_if (pt_cmpR op_gt (pe_draw D hr (by decide) (by rfl) (pv 0) pe_int) pe_int (nomark _)) (pss_one (ps_set (i := 4) scRs14.nd rfl (.inl rfl) (pe_call GM hr (by rfl) DM.g DM.F.kp DM.b .nil pass0 (pa_cons (pv 0) pa_nil)))) pss_nil)
    (pss_one (ps_ret (pe_tupF (pa_cons (pe_call GM hr (by rfl) DM.g DM.F.kp DM.b .nil pass0 (pa_cons (pv 0) pa_nil)) (pa_cons (pv 4) (pa_cons (pe_call GH hr (by rfl) DH.g DH.F.kp DH.b .nil pass0 (pa_cons (pv 0) (pa_cons (pv 2) (pa_cons (pv 3) pa_nil)))) (pa_cons (pe_call GB hr (by rfl) DB.g DB.F.kp DB.b .nil pass0 (pa_cons (pv 0) (pa_cons (pv 3) pa_nil))) pa_nil)))))))))))))))), ?_⟩
  obtain ⟨x, y, v, rfl, ax, ay, av⟩ := atl3 l
  cases at_str ax
  have dz : ∀ y : Str, decide (V.str z = V.str y) = decide (z = y) := fun y => decide_eq_decide.mpr ⟨fun h => V.str.inj h, fun h => by rw [h]⟩
  have tS : ∀ {G : Hp} {c : Str} {a : Option V}, EvT (tTest (tOp rEq (tVar 1) (tC (.str c)))) [some (V.ref wl.w), some (.str z), some y, some v, a] G (decide (z = c)) := fun {G c a} => et_test (ev_is (ev_op (ev_var rfl) ev_c (rv_eq rfl)) (by rw [dz]))
  have nm : ∀ {G : Hp} {a : Option V}, Drawn wl H G → EvW wl C (tOp (rIxL K) (tVar 2) (tCall spDraw [] E0 (tCons (tVar 0) (tCons (tCB (rLenQ K) (tCons (tVar 2) tNil)) tNil)))) [some (V.ref wl.w), some (.str z), some y, some v, a] G NmU := fun {G a} d => ew_any rfl (At.drawn d ay) rfl hns.1 (by have := hns.2.1; omega) hns.2.2
  have id_ : ∀ {G : Hp} {a : Option V}, Drawn wl H G → EvW wl C (tOp (rIxL K) (tVar 3) (tCall spDraw [] E0 (tCons (tVar 0) (tCons (tCB (rLenQ K) (tCons (tVar 3) tNil)) tNil)))) [some (V.ref wl.w), some (.str z), some y, some v, a] G IdU := fun {G a} d => ew_any rfl (At.drawn d av) rfl hps.1.1 (by have := hps.1.2; omega) hps.2
  have fin : ∀ {v : V} {u : U} {H' : Hp} {rs : List U}, Drawn wl H H' → At wl.w C H' v u → u = .tup rs → RstX z rs → Q v H' := fun d a e r => k _ _ _ d a ⟨_, e, r⟩
  have D0 := Drawn.refl W
  show tSeq _ _ _ [some (V.ref wl.w), some (.str z), some y, some v, none] H
  have inV3 : inV (.str z) [.str "ask", .str "lease", .str "free"] = (decide (z = "ask") || (decide (z = "lease") || decide (z = "free"))) := by
    have ev : ∀ c : Str, eqV (V.str c) (V.str z) = decide (z = c) := fun c => by
      show (c == z) = _
      rw [Bool.eq_iff_iff, beq_iff_eq, decide_eq_true_eq]
      exact ⟨fun h => h.symm, fun h => h.symm⟩
    simp only [inV, List.any_cons, List.any_nil, Bool.or_false]
    rw [ev, ev, ev]
  refine q_when (b := inV (.str z) [.str "ask", .str "lease", .str "free"]) (et_test (ev_opU (ev_var rfl) (eu_tup (ea_cons ev_c (ea_cons ev_c (ea_cons ev_c ea_nil))) (by show (3 : Nat) ≤ 100000; decide)) fun q H1 hq e1 => rv_isT (st_of hq) rfl rfl)) (fun q H1 e1 => ?_) (fun q1 H1 e1 => ?_)
  · rw [inV3, Bool.or_eq_true, Bool.or_eq_true, decide_eq_true_eq, decide_eq_true_eq, decide_eq_true_eq] at q
    have D1 := D0.same e1
    exact s_retW (wl := wl) (C := C) (ewr_tup (ewr_cons (nm D1) ewr_nil) len1_le) D1.well fun v u H2 D2 a r => by
      obtain ⟨_, rfl, n, _, rfl, ⟨nn, rfl, hn⟩, rfl⟩ := r
      exact fin (D1.trans D2) a rfl (.nm q hn)
  have D1 := D0.same e1
  refine q_when (b := decide (z = "list")) tS (fun q H2 e2 => ?_) (fun q2 H2 e2 => ?_)
  · have D2 := D1.same e2
    exact s_retW (wl := wl) (C := C) (ewr_tup ewr_nil (fun us e => by rw [e]; exact Nat.zero_le _)) D2.well fun v u H3 D3 a r => by
      obtain ⟨_, rfl, rfl⟩ := r
      refine fin (D2.trans D3) a rfl ?_
      rw [of_decide_eq_true q]
      exact .list
  have D2 := D1.same e2
  refine q_when (b := decide (z = "get")) tS (fun q H3 e3 => ?_) (fun q3 H3 e3 => ?_)
  · have D3 := D2.same e3
    exact s_retW (wl := wl) (C := C) (ewr_tup (ewr_cons (id_ D3) ewr_nil) len1_le) D3.well fun v u H4 D4 a r => by
      obtain ⟨_, rfl, p, _, rfl, hp, rfl⟩ := r
      refine fin (D3.trans D4) a rfl ?_
      rw [of_decide_eq_true q]
      exact .get hp
  have D3 := D2.same e3
  refine q_when (b := decide (z = "put")) tS (fun q H4 e4 => ?_) (fun q4 H4 e4 => ?_)
  · have D4 := D3.same e4
    exact s_retW (wl := wl) (C := C) (ewr_tup (ewr_cons (id_ D4) (ewr_cons (ew_mk (R := PcU) rfl) ewr_nil)) len2_le) D4.well fun v u H5 D5 a r => by
      obtain ⟨_, rfl, p, _, rfl, hp, x, _, rfl, hx, rfl⟩ := r
      refine fin (D4.trans D5) a rfl ?_
      rw [of_decide_eq_true q]
      exact .put hp hx
  have D4 := D3.same e4
  refine q_when (b := decide (z = "head")) tS (fun q H5 e5 => ?_) (fun q5 H5 e5 => ?_)
  · have D5 := D4.same e5
    have row : EvW wl C (tCall (spMkA C PreP fun _ => RowU) [] E0 (tCons (tVar 0) (tCons (tVar 3) tNil))) [some (V.ref wl.w), some (.str z), some y, some v, none] H5 RowU := fun G1 g1 Q q => ⟨_, rfl, _, rfl, wl, [v], [.lst ps], rfl, g1.well, .cons (At.drawn (D5.trans g1) av) .nil, ⟨ps, rfl, hps⟩, fun v u H' d a r => q v u H' d a r⟩
    exact s_retW (wl := wl) (C := C) (ewr_tup (ewr_cons (nm D5) (ewr_cons (ew_mk (R := StU) rfl) (ewr_cons row ewr_nil))) (fun us h => by obtain ⟨_, _, rfl, _, _, _, rfl, _, _, _, rfl, _, rfl⟩ := h; show (3 : Nat) ≤ 100000; decide)) D5.well fun v u H6 D6 a r => by
      obtain ⟨_, rfl, n, _, rfl, ⟨nn, rfl, hn⟩, s, _, rfl, hs, r, _, rfl, hr', rfl⟩ := r
      refine fin (D5.trans D6) a rfl ?_
      rw [of_decide_eq_true q]
      exact .head hn hs hr'
  have D5 := D4.same e5
  refine q_when (b := decide (z = "prepare")) tS (fun q H6 e6 => ?_) (fun q6 H6 e6 => ?_)
  · have D6 := D5.same e6
    exact s_retW (wl := wl) (C := C) (ewr_tup (ewr_cons (ew_mk (R := StU) rfl) ewr_nil) len1_le) D6.well fun v u H7 D7 a r => by
      obtain ⟨_, rfl, p, _, rfl, hp, rfl⟩ := r
      refine fin (D6.trans D7) a rfl ?_
      rw [of_decide_eq_true q]
      exact .prep hp
  have D6 := D5.same e6
  refine q_when (b := decide (z = "accept")) tS (fun q H7 e7 => ?_) (fun q7 H7 e7 => ?_)
  · have D7 := D6.same e7
    exact s_retW (wl := wl) (C := C) (ewr_tup (ewr_cons (ew_mk (R := StU) rfl) (ewr_cons (ew_mk (R := MmU) rfl) ewr_nil)) len2_le) D7.well fun v u H8 D8 a r => by
      obtain ⟨_, rfl, p, _, rfl, hp, x, _, rfl, hx, rfl⟩ := r
      refine fin (D7.trans D8) a rfl ?_
      rw [of_decide_eq_true q]
      exact .acc hp hx
  have D7 := D6.same e7
  refine q_when (b := decide (z = "seal")) tS (fun q H8 e8 => ?_) (fun q8 H8 e8 => ?_)
  · have D8 := D7.same e8
    exact s_retW (wl := wl) (C := C) (ewr_tup (ewr_cons (ew_mk (R := MmU) rfl) ewr_nil) len1_le) D8.well fun v u H9 D9 a r => by
      obtain ⟨_, rfl, p, _, rfl, hp, rfl⟩ := r
      refine fin (D8.trans D9) a rfl ?_
      rw [of_decide_eq_true q]
      exact .sealX hp
  have D8 := D7.same e8
  have zi : z = "install" := by
    rw [inV3, Bool.or_eq_false_iff, Bool.or_eq_false_iff, decide_eq_false_iff_not, decide_eq_false_iff_not, decide_eq_false_iff_not] at q1
    rw [decide_eq_false_iff_not] at q2 q3 q4 q5 q6 q7 q8
    unfold W11 at hz
    simp only [List.mem_cons, List.not_mem_nil, or_false] at hz
    rcases hz with h | h | h | h | h | h | h | h | h | h | h
    · exact absurd h q1.1
    · exact absurd h q2
    · exact absurd h q3
    · exact absurd h q4
    · exact absurd h q5
    · exact absurd h q1.2.1
    · exact absurd h q1.2.2
    · exact absurd h q6
    · exact absurd h q7
    · exact absurd h q8
    · exact h
  refine q_asgW (wl := wl) (C := C) (R := AhU) ((ewr_tup ewr_nil (fun us e => by rw [e]; exact Nat.zero_le _)).mono fun u h => by obtain ⟨us, rfl, rfl⟩ := h; exact .inl rfl) D8.well fun va0 ua0 H9 D9 aa0 ra0 => ?_
  refine q_ifW (wl := wl) (C := C) (Ra := AhU) (fun i H Q q => ⟨_, _, rfl, rfl, q _⟩) (ei_draw rfl (by decide) (by decide)) D9.well rfl aa0 ra0 ((ew_mk (R := MmU) rfl).mono fun u h => .inr h) fun va ua HA DA aa ra => ?_
  have D8A := (D8.trans D9).trans DA
  show tRet _ _ [some (V.ref wl.w), some (.str z), some y, some v, some va] HA
  have heads : EvW wl C (tCall (spMkA C PreNP fun _ => HdsU) [] E0 (tCons (tVar 0) (tCons (tVar 2) (tCons (tVar 3) tNil)))) [some (V.ref wl.w), some (.str z), some y, some v, some va] HA HdsU := fun G1 g1 Q q => ⟨_, rfl, _, rfl, _, rfl, wl, [y, v], [.lst ns, .lst ps], rfl, g1.well, .cons (At.drawn (D8A.trans g1) ay) (.cons (At.drawn (D8A.trans g1) av) .nil), ⟨ns, ps, rfl, hns, hps⟩, fun v u H' d a r => q v u H' d a r⟩
  have blocks : EvW wl C (tCall (spMkA C PreP fun _ => BksU) [] E0 (tCons (tVar 0) (tCons (tVar 3) tNil))) [some (V.ref wl.w), some (.str z), some y, some v, some va] HA BksU := fun G1 g1 Q q => ⟨_, rfl, _, rfl, wl, [v], [.lst ps], rfl, g1.well, .cons (At.drawn (D8A.trans g1) av) .nil, ⟨ps, rfl, hps⟩, fun v u H' d a r => q v u H' d a r⟩
  exact s_retW (wl := wl) (C := C) (ewr_tup (ewr_cons (ew_mk (R := MmU) rfl) (ewr_cons (ew_var (R := AhU) rfl aa ra) (ewr_cons heads (ewr_cons blocks ewr_nil)))) (fun us h => by obtain ⟨_, _, rfl, _, _, _, rfl, _, _, _, rfl, _, _, _, rfl, _, rfl⟩ := h; show (4 : Nat) ≤ 100000; decide)) DA.well fun v u HB DB a r => by
    obtain ⟨_, rfl, m, _, rfl, hm, aa', _, rfl, ha, h, _, rfl, hh, b, _, rfl, hb, rfl⟩ := r
    refine fin (D8A.trans DB) a rfl ?_
    rw [zi]
    exact .inst hm ha hh hb
end
end Hs
namespace Hs
open PySem PySem.Spec PyProof.Rows L2 Hu Evl
open Hk (PZ)
abbrev lAk14 : Stmt := topS 168
theorem bdl_filter {us : List U} {m d b : Nat} {p : U → Bool} (h : BdL us m d b) : BdL (us.filter p) m d b := by
  induction us generalizing m with
  | nil => exact h
  | cons u us ih =>
    have hw := h.w
    have hd := h.d
    have hc := h.c
    simp only [wtL] at hw
    simp only [depL] at hd
    simp only [tidyL] at hc
    have t : BdL us (wtL us) d b := ⟨Nat.le_refl _, by omega, hc.2⟩
    have f := ih t
    by_cases q : p u = true
    · rw [List.filter_cons_of_pos q]
      refine ⟨?_, ?_, ?_⟩
      · have := f.w
        simp only [wtL]
        omega
      · have := f.d
        simp only [depL]
        omega
      · simp only [tidyL]
        exact ⟨hc.1, f.c⟩
    · rw [List.filter_cons_of_neg q]
      exact f.mono (by omega) (Nat.le_refl _) (Nat.le_refl _)
theorem led_bd {u : U} {m d : Nat} (h : Bd (nth u 5) m d 0) : Bd (ledU u) (m + 3) (d + 1) 0 := by
  unfold ledU bsOf
  cases e : nth u 5 with
  | tup us =>
    rw [e] at h
    have hl : BdL us m d 0 := by
      have h1 := h.w
      have h2 := h.d
      have h3 := h.c
      simp only [wt] at h1
      simp only [dep] at h2
      simp only [tidy] at h3
      exact ⟨by omega, by omega, h3⟩
    exact (Bd.tup (bdl_filter hl)).mono (by omega) (Nat.le_refl _) (Nat.le_refl _)
  | _ => exact nil_bdX (by omega) (by omega)
/-- the parts of a table that keeps an epoch -/
theorem tabX_kept {u : U} (hu : TabX u) (h : 0 ≤ epU u) : MmU (nth u 1) ∧ AhU (nth u 2) ∧ HdsU (nth u 4) ∧ BksU (nth u 5) ∧ NxU (nth u 9) := by
  obtain ⟨e, c, m, a, hs, bs, ls, p, v, n, rfl, c0, c1, hls, hp, hv, hn, hk⟩ := hu
  rcases hk with ⟨rfl, _⟩ | ⟨e0, e1, hm, ha, hh, hb⟩
  · exact absurd h (by show ¬ (0 : Int) ≤ -1; decide)
  · exact ⟨hm, ha, hh, hb, hn⟩
theorem wd30 {z : Str} (h : z.length ≤ 9) (c : ∀ c ∈ TL.tl z, okS c = true ∨ c = 10) : Bd (.str z) 30 0 0 := ⟨by simp only [wt]; omega, Nat.zero_le _, by simpa only [tidy] using c⟩
theorem car_bd {u m : U} {z : Str} {e : Int} (he : e.natAbs < 2 ^ 60) (hm : MmU m) (hh : HdsU (nth u 4)) (hb : BksU (nth u 5)) : ∃ ts, carU z e m u = .tup [.str z, .tup ts] ∧ Bd (.tup ts) 108400 5 0 := by
  have up : ∀ {u : U} {k d : Nat}, Bd u k d 0 → d ≤ 4 → Bd u k 4 0 := fun h hd => h.mono (Nat.le_refl _) hd (Nat.le_refl _)
  exact ⟨_, rfl, (Bd.tup (BdL.append (BdL.one (up (int_bdH e he) (by decide))) (BdL.append (BdL.one (up hm.2 (by decide))) (BdL.append (BdL.one (up (hds_ok hh).2 (by decide))) (BdL.one (up (led_bd (bks_ok hb).2) (by decide))))))).mono (by decide) (by decide) (Nat.le_refl _)⟩
structure OutX (u : U) (z : Str) (rest ds : List U) (y : Str) (ts : List U) (k1 k2 : Nat) : Prop where
  e : outW u z rest = toldU ds y ts
  b1 : Bd (.tup ds) k1 6 0
  b2 : Bd (.tup ts) k2 5 0
  by_ : Bd (.str y) 30 0 0
  k : k1 + k2 ≤ 125000
  d : ds = [] ∨ ∃ d u', ds = [d] ∧ DeX u d u' ∧ PreW u' z rest
theorem out_x {u : U} {z : Str} {e : Int} {rs : List U} (hu : TabX u) (r : RstX z rs) (e0 : 0 ≤ e) (e1 : e ≤ 10 ^ 11 + 10) (pre : PreW u z (.int e :: rs)) : ∃ ds y ts k1 k2, OutX u z (.int e :: rs) ds y ts k1 k2 := by
  have ee : intU (fE (.int e :: rs)) = e := rfl
  obtain ⟨te, _, eu, em1, emx, _⟩ := tabX_ok hu
  have nil6 : Bd (.tup []) 10 6 0 := nil_bdX (by decide) (by decide)
  have bE : Bd (.int e) 80 4 0 := (int_bdH e (by omega)).mono (Nat.le_refl _) (by decide) (Nat.le_refl _)
  have one : Bd (.tup [.int e]) 200 5 0 := (Bd.tup (BdL.one bE)).mono (by decide) (by decide) (Nat.le_refl _)
  have up : ∀ {u : U} {k d : Nat}, Bd u k d 0 → d ≤ 4 → Bd u k 4 0 := fun h hd => h.mono (Nat.le_refl _) hd (Nat.le_refl _)
  have wd : ∀ {z : Str}, z.length ≤ 9 → (∀ c ∈ TL.tl z, okS c = true ∨ c = 10) → Bd (.str z) 30 0 0 := wd30
  by_cases c1 : (decide (z = "install") && decide (epU u ≤ e)) = true
  · have eo : outW u z (.int e :: rs) = toldU (if decide (epU u < e) = true then [.tup (.str "install" :: .int e :: rs)] else []) "installed" [.int e] := by
      unfold outW
      rw [ee, if_pos c1]
    rw [Bool.and_eq_true, decide_eq_true_eq, decide_eq_true_eq] at c1
    obtain ⟨zi, cle⟩ := c1
    by_cases c2 : epU u < e
    · rw [if_pos (decide_eq_true c2)] at eo
      obtain ⟨b, _, _, _⟩ := rst_bd r
      have bd : Bd (.tup [.tup (.str "install" :: .int e :: rs)]) 109500 6 0 := (Bd.tup (BdL.one (Bd.tup (BdL.append (BdL.one (up (wd (z := "install") (by decide +kernel) (by decide +kernel)) (by decide))) (BdL.append (BdL.one bE) b))))).mono (by decide) (by decide) (Nat.le_refl _)
      have hd : ∃ u', DeX u (.tup (.str "install" :: .int e :: rs)) u' := by
        subst zi
        generalize hz : ("install" : Str) = z at r
        cases r with
        | inst hm ha hh hb => exact ⟨_, .inst e0 e1 hm ha hh hb⟩
        | nm h => rcases h with rfl | rfl | rfl <;> exact absurd hz (by decide +kernel)
        | _ => exact absurd hz (by decide +kernel)
      obtain ⟨u', hd⟩ := hd
      exact ⟨_, _, _, 109500, 200, eo, bd, one, wd (by decide +kernel) (by decide +kernel), by decide, .inr ⟨_, u', rfl, hd, pre_of (hd.tab hu) r fun _ _ h => absurd zi h⟩⟩
    · rw [if_neg (by rw [decide_eq_false c2]; decide)] at eo
      exact ⟨_, _, _, 10, 200, eo, nil6, one, wd (by decide +kernel) (by decide +kernel), by decide, .inl rfl⟩
  rw [Bool.not_eq_true] at c1
  by_cases c2 : epU u > e
  · obtain ⟨hm, ha, hh, hb, hn⟩ := tabX_kept hu (by omega)
    have eo : outW u z (.int e :: rs) = .tup [.tup [], ahU z e (epU u) u] := by
      unfold outW
      rw [ee, if_neg (by rw [c1]; decide), if_pos (decide_eq_true c2)]
    unfold ahU at eo
    by_cases c3 : (decide (z = "seal") && decide (epU u = e + 1)) = true
    · rw [if_pos c3] at eo
      obtain ⟨ts, et, bt⟩ := car_bd (u := u) (z := "stood") (e := e) (by omega) hm hh hb
      rw [et] at eo
      exact ⟨[], "stood", ts, 10, 108400, eo, nil6, bt, wd (by decide +kernel) (by decide +kernel), by decide, .inl rfl⟩
    · rw [if_neg c3] at eo
      have bt : Bd (.tup [.int e, .int (epU u), nth u 1, nth u 2]) 2000 5 0 := (Bd.tup (BdL.append (BdL.one bE) (BdL.append (BdL.one (up (int_bdH (epU u) (by omega)) (by decide))) (BdL.append (BdL.one (up hm.2 (by decide))) (BdL.one (up (ah_ok ha).2 (by decide))))))).mono (by decide) (by decide) (Nat.le_refl _)
      exact ⟨[], "moved", _, 10, 2000, eo, nil6, bt, wd (by decide +kernel) (by decide +kernel), by decide, .inl rfl⟩
  by_cases c3 : epU u < e
  · have eo : outW u z (.int e :: rs) = toldU [] "behind" [.int e] := by
      unfold outW
      rw [ee, if_neg (by rw [c1]; decide), if_neg (by rw [decide_eq_false c2]; decide), if_pos (decide_eq_true c3)]
    exact ⟨_, _, _, 10, 200, eo, nil6, one, wd (by decide +kernel) (by decide +kernel), by decide, .inl rfl⟩
  have ep : epU u = e := by omega
  obtain ⟨hm, ha, hh, hb, hn⟩ := tabX_kept hu (by omega)
  by_cases c4 : isNon (nth u 9) = true
  · have zi : z ≠ "install" := fun h => by
      rw [h, ep, decide_eq_true rfl, decide_eq_true (Int.le_refl e)] at c1
      cases c1
    have zs : z = "seal" := pre.l c4 (by rw [ee]; exact ep) zi
    have hr : ∃ m, rs = [m] ∧ MmU m := by
      clear pre
      subst zs
      generalize hz : ("seal" : Str) = z at r
      cases r with
      | sealX hm => exact ⟨_, rfl, hm⟩
      | nm h => rcases h with rfl | rfl | rfl <;> exact absurd hz (by decide +kernel)
      | _ => exact absurd hz (by decide +kernel)
    obtain ⟨m, rfl, hmm⟩ := hr
    have eo : outW u z [.int e, m] = sealU e m u := by
      unfold outW
      rw [ee, if_neg (by rw [c1]; decide), if_neg (by rw [decide_eq_false c2]; decide), if_neg (by rw [decide_eq_false c3]; decide), if_neg (by rw [c4]; simp), if_neg (by rw [c4]; decide)]
      rfl
    unfold sealU at eo
    by_cases c5 : inF u = true
    · rw [if_pos c5] at eo
      exact ⟨_, _, _, 10, 200, eo, nil6, one, wd (by decide +kernel) (by decide +kernel), by decide, .inl rfl⟩
    · rw [if_neg c5] at eo
      obtain ⟨ts, et, bt⟩ := car_bd (u := u) (z := "sealed") (e := e) (by omega) hmm hh hb
      rw [et] at eo
      have bd : Bd (.tup [.tup [.str "seal", m]]) 1000 6 0 := (Bd.tup (BdL.one (Bd.tup (BdL.append (BdL.one (up (wd (z := "seal") (by decide +kernel) (by decide +kernel)) (by decide))) (BdL.one (up hmm.2 (by decide))))))).mono (by decide) (by decide) (Nat.le_refl _)
      have hd : DeX u (.tup [.str "seal", m]) (setN u m) := .sealX (by omega) hmm
      refine ⟨[.tup [.str "seal", m]], "sealed", ts, 1000, 108400, eo, bd, bt, wd (by decide +kernel) (by decide +kernel), by decide, .inr ⟨_, _, rfl, hd, pre_of (hd.tab hu) r fun h _ _ => ?_⟩⟩
      have h' : isNon m = true := h
      cases m with
      | non => exact absurd hmm.1 (by decide)
      | _ => cases h'
  · rw [Bool.not_eq_true] at c4
    have hn' : MmU (nth u 9) := by
      rcases hn with h | h
      · rw [h] at c4
        cases c4
      · exact h
    by_cases c5 : z = "seal"
    · have eo : outW u z (.int e :: rs) = .tup [.tup [], carU "sealed" e (nth u 9) u] := by
        unfold outW
        rw [ee, if_neg (by rw [c1]; decide), if_neg (by rw [decide_eq_false c2]; decide), if_neg (by rw [decide_eq_false c3]; decide), if_pos (by rw [c4, decide_eq_true c5]; rfl)]
      obtain ⟨ts, et, bt⟩ := car_bd (u := u) (z := "sealed") (e := e) (by omega) hn' hh hb
      rw [et] at eo
      exact ⟨[], "sealed", ts, 10, 108400, eo, nil6, bt, wd (by decide +kernel) (by decide +kernel), by decide, .inl rfl⟩
    · have eo : outW u z (.int e :: rs) = toldU [] "moved" [.int e, .int (e + 1), nth u 9, nth u 1] := by
        unfold outW
        rw [ee, if_neg (by rw [c1]; decide), if_neg (by rw [decide_eq_false c2]; decide), if_neg (by rw [decide_eq_false c3]; decide), if_neg (by rw [decide_eq_false c5, Bool.and_false]; decide), if_pos (by rw [c4]; rfl)]
      have bt : Bd (.tup [.int e, .int (e + 1), nth u 9, nth u 1]) 2000 5 0 := (Bd.tup (BdL.append (BdL.one bE) (BdL.append (BdL.one (up (int_bdH (e + 1) (by omega)) (by decide))) (BdL.append (BdL.one (up hn'.2 (by decide))) (BdL.one (up hm.2 (by decide))))))).mono (by decide) (by decide) (Nat.le_refl _)
      exact ⟨[], "moved", _, 10, 2000, eo, nil6, bt, wd (by decide +kernel) (by decide +kernel), by decide, .inl rfl⟩
/-- the answer as data: small and plain -/
theorem ans_x {u : U} {z : Str} {rest ds ts : List U} {y : Str} {k1 k2 : Nat} {h t m : Int} (o : OutX u z rest ds y ts k1 k2) (te : TabG u) (pre : PreW u z rest) (h2 : h.natAbs < 2 ^ 60) (t0 : t.natAbs < 2 ^ 60) (m0 : m.natAbs < 2 ^ 60) : wt (ansU h t m (outW u z rest)) ≤ 160000 ∧ pln (ansU h t m (outW u z rest)) ∧ dep (ansU h t m (outW u z rest)) < 10 := by
  have hp := outW_pln te pre
  rw [o.e] at hp ⊢
  obtain ⟨p1, ⟨_, p2, _⟩, _⟩ := hp
  have up : ∀ {u : U} {k d : Nat}, Bd u k d 0 → d ≤ 5 → Bd u k 5 0 := fun h hd => h.mono (Nat.le_refl _) hd (Nat.le_refl _)
  have bl : Bd (.tup [.tup [.str "hand", .int h], .tup [.str "home", .int m], .int t, .str y, .tup ts]) (k2 + 500) 6 0 :=
    (Bd.tup (BdL.append (BdL.one (up (mach_bd bd_hand h2) (by decide))) (BdL.append (BdL.one (up (mach_bd bd_home m0) (by decide))) (BdL.append (BdL.one (up (int_bdH t t0) (by decide))) (BdL.append (BdL.one (up o.by_ (by decide))) (BdL.one o.b2)))))).mono (by omega) (by decide) (Nat.le_refl _)
  have b := (Bd.tup (BdL.append (BdL.one (o.b1.mono (Nat.le_refl _) (show 6 ≤ 7 by decide) (Nat.le_refl _))) (BdL.one (Bd.tup (BdL.one bl)))))
  have hk := o.k
  refine ⟨?_, ?_, ?_⟩
  · have := b.w
    show wt (.tup ([.tup ds] ++ [.tup [.tup [.tup [.str "hand", .int h], .tup [.str "home", .int m], .int t, .str y, .tup ts]]])) ≤ 160000
    omega
  · simp only [ansU, toldU, pln, plnL, and_true, true_and]
    exact ⟨p1, p2⟩
  · have := b.d
    show dep (.tup ([.tup ds] ++ [.tup [.tup [.tup [.str "hand", .int h], .tup [.str "home", .int m], .int t, .str y, .tup ts]]])) < 10
    omega
end Hs
namespace Hs
open PySem PySem.Spec PyProof.Rows L2 Hu Evl
theorem q_asgEd {w C : Addr} {σ : L2.St} {H : Hp} {te : TE} {tz : TS} {D : Ends} {i : Nat} {u : U} (h : EvD w C te σ H u) (k : ∀ v H1, Ex H H1 → At w C H1 v u → tz D (σ.set i (some v)) H1) : tSeq (tAsg te (gName i)) tz D σ H := h H (Ex.refl H) _ k
def spAk (C : Addr) : Sp := fun vs H Q _ => ∃ (x r : V) (m h t e : Int) (u : U) (z : Str) (rs : List U) (w : Addr), vs = [.int m, x, .int h, .int t, .str z, r] ∧ At w C H x u ∧ At w C H r (.tup (.int e :: rs)) ∧ (∃ o, H w = some o) ∧ TabX u ∧ RstX z rs ∧ PreW u z (.int e :: rs) ∧ 0 ≤ e ∧ e ≤ 10 ^ 11 + 10 ∧ 0 ≤ m ∧ m < 9 ∧ 1 ≤ h ∧ h ≤ 99 ∧ 0 ≤ t ∧ t ≤ 10 ^ 11 ∧
  ∀ H', Same H H' → Q (.bl true) H'
section
variable {P : Program} {wd : World} {K : PySem.W.Frag} {mg : Str → Option Value} {base : Heap} {C : Addr}
abbrev nmAk : List Str := ["home", "table", "hand", "talk", "word", "rest", "to", "by", "deeds", "told", "due"]
theorem scAk14 : FnScope nmAk ["home", "table", "hand", "talk", "word", "rest"] (defScope lAk14) := ⟨rfl, rfl, rfl, by decide +kernel, rfl, by decide +kernel, by decide +kernel⟩
set_option maxHeartbeats 2000000 in
theorem ok_ak14 {f f1 f2 f3 : Addr} {fd d1 d2 d3 : FuncData} (F : Fun K "_law_asked" "_law_asked" lAk14 f fd) (DD : Df K mg "_law_due" lDu14 ["table", "word", "rest"] f1 d1) (GD0 : FnOk P wd K mg base CX0 2 f1 d1 ["table", "word", "rest"] (spDu14 C))
    (DS : Df K mg "_law_same" lSameH ["actual", "due"] f2 d2) (GS0 : FnOk P wd K mg base CX0 10 f2 d2 ["actual", "due"] (spAl K C 10))
    (DA : Df K mg "answer" sAnswer ["home", "table", "letter"] f3 d3) (GA : FnOk P wd K mg base CX0 12 f3 d3 ["home", "table", "letter"] (spAnswer4 K C thT toT amT)) : FnOk P wd K mg base CX0 13 f fd ["home", "table", "hand", "talk", "word", "rest"] (spAk C) := by
  have GD : FnOk P wd K mg base CX0 12 f1 d1 ["table", "word", "rest"] (spDu14 C) := GD0.mono (by decide)
  have GS : FnOk P wd K mg base CX0 12 f2 d2 ["actual", "due"] (spAl K C 10) := GS0.mono (by decide)
  refine F.ok scAk14 (fun vs H Q E h => ?_) (fun cdv A outer s H vs Q E hr h => ?_)
  · obtain ⟨x, r, m, h, t, e, u, z, rs, w, rfl, _⟩ := h
    rfl
  obtain ⟨x, r, m, h, t, e, u, z, rs, w, rfl, hx, hy, hw, hu, rx, pre, e0, e1, m0, m9, h1, h99, t0, t1, k⟩ := h
  refine ⟨_, pss_cons (ps_set (i := 6) scAk14.nd rfl (.inl rfl) (pe_tupF (pa_cons pe_str (pa_cons (pv 0) pa_nil))))
    (pss_cons (ps_set (i := 7) scAk14.nd rfl (.inl rfl) (pe_tupF (pa_cons pe_str (pa_cons (pv 2) pa_nil))))
    (pss_cons (ps_asg (pe_call GD hr (by rfl) DD.g DD.F.kp DD.b .nil pass0 (pa_cons (pv 1) (pa_cons (pv 4) (pa_cons (pv 5) pa_nil)))) (pg_tup rfl (pgs_cons (pg_name (i := 8) scAk14.nd rfl (.inl rfl)) (pgs_cons (pg_name (i := 9) scAk14.nd rfl (.inl rfl)) pgs_nil))))
    (pss_cons (ps_set (i := 10) scAk14.nd rfl (.inl rfl) (pe_tupF (pa_cons (pv 8) (pa_cons (pe_tupF (pa_cons (pe_op (show OpR _ _ (rCatF K) from op_catF) (pe_tupF (pa_cons (pv 7) (pa_cons (pv 6) (pa_cons (pv 3) pa_nil)))) (pv 9)) pa_nil)) pa_nil))))
    (pss_one (ps_ret (pe_call GS hr (by rfl) DS.g DS.F.kp DS.b .nil pass0 (pa_cons (pe_call GA hr (by rfl) DA.g DA.F.kp DA.b .nil pass0 (pa_cons (pv 0) (pa_cons (pv 1) (pa_cons (pe_tupF (pa_cons (pv 6) (pa_cons (pv 7) (pa_cons (pv 3) (pa_cons (pv 4) (pa_cons (pv 5) pa_nil)))))) pa_nil)))) (pa_cons (pv 10) pa_nil)))))))), ?_⟩
  have hw0 : ∀ {G : Hp}, Ex H G → ∃ o, G w = some o := fun eg => hw.imp fun _ q => eg _ _ q
  have two : (2 : Nat) ≤ 100000 := by decide
  have one : (1 : Nat) ≤ 100000 := by decide
  obtain ⟨te, _, _, _, _, _⟩ := tabX_ok hu
  obtain ⟨ds, y, ts, k1, k2, o⟩ := out_x hu rx e0 e1 pre
  refine q_asgEd (w := w) (C := C) (u := .tup [.str "home", .int m]) (ed_tup hw (eds_cons (ed_ev (te := tC (.str "home")) ev_c (.str _)) (eds_cons (ed_ev (te := tVar 0) (ev_var rfl) (.int m)) eds_nil)) two) fun v6 H1 e1' a6 => ?_
  refine q_asgEd (w := w) (C := C) (u := .tup [.str "hand", .int h]) (ed_tup (hw0 e1') (eds_cons (ed_ev (te := tC (.str "hand")) ev_c (.str _)) (eds_cons (ed_ev (te := tVar 2) (ev_var rfl) (.int h)) eds_nil)) two) fun v7 H2 e2' a7 => ?_
  show tSeq _ _ _ [some (.int m), some x, some (.int h), some (.int t), some (.str z), some r, some v6, some v7, none, none, none] H2
  have e12 := e1'.trans e2'
  refine call1 (ea_cons (ev_var rfl) (ea_cons (ev_var rfl) (ea_cons (ev_var rfl) ea_nil))) fun H3 e3 => ⟨x, r, u, z, _, w, rfl, ex_at (e12.trans e3) hx, ex_at (e12.trans e3) hy, hw0 (e12.trans e3), te, pre, fun vd H4 e4 ad => ?_⟩
  rw [o.e] at ad
  have e14 := (e12.trans e3).trans e4
  have e24 := e3.trans e4
  obtain ⟨pd, zs, rfl, hpd, _, lpd⟩ := at_tup ad
  obtain ⟨w0, w1, rfl, c0, c1⟩ := atl2 lpd
  refine ⟨pd, _, rfl, Tu.st hpd, rfl, _, _, rfl, _, _, rfl, rfl, ?_⟩
  dsimp only [gName]
  show tSeq _ _ _ [some (.int m), some x, some (.int h), some (.int t), some (.str z), some r, some v6, some v7, some w0, some w1, none] H4
  have a6' := ex_at (e2'.trans e24) a6
  have a7' := ex_at e24 a7
  refine q_asgEd (w := w) (C := C) (u := ansU h t m (toldU ds y ts)) (ed_tup (hw0 e14) (eds_cons (ed_ev (te := tVar 8) (ev_var rfl) c0) (eds_cons (ed_tup (hw0 e14) (eds_cons (ed_cat (K := K) (us1 := [.tup [.str "hand", .int h], .tup [.str "home", .int m], .int t]) (us2 := [.str y, .tup ts]) (hw0 e14) (ed_tup (hw0 e14) (eds_cons (ed_ev (te := tVar 7) (ev_var rfl) a7') (eds_cons (ed_ev (te := tVar 6) (ev_var rfl) a6') (eds_cons (ed_ev (te := tVar 3) (ev_var rfl) (.int t)) eds_nil))) (by show (3 : Nat) ≤ 100000; decide)) (ed_ev (te := tVar 9) (ev_var rfl) c1) (by show (5 : Nat) ≤ 100000; decide)) eds_nil) one) eds_nil)) two) fun v10 H5 e5 a10 => ?_
  have e15 := e14.trans e5
  show tRet _ _ [some (.int m), some x, some (.int h), some (.int t), some (.str z), some r, some v6, some v7, some w0, some w1, some v10] H5
  refine ret1 ?_
  have bl : Bd (.tup (letU h t m z (.int e :: rs))) 110000 6 0 := let_bdX rx (by omega) (by omega) (by omega) (by omega)
  have gl : gLetter thT toT amT (.tup (letU h t m z (.int e :: rs))) = true := letter_okG h1 h99 t0 m0 m9 (rst_look rx e0)
  have gm : gHome (.int m) = true := by
    show (decide (0 ≤ m) && decide (m < 9)) = true
    rw [decide_eq_true m0, decide_eq_true m9]
    rfl
  obtain ⟨q1, q2, q3⟩ := ans_x (h := h) (t := t) (m := m) o te pre (by omega) (by omega) (by omega)
  rw [o.e] at q1 q2 q3
  refine ⟨_, rfl, _, rfl, ?_⟩
  refine (ed_tup (w := w) (C := C) (us := letU h t m z (.int e :: rs)) (hw0 e15) (eds_cons (ed_ev (te := tVar 6) (ev_var rfl) (ex_at e5 a6')) (eds_cons (ed_ev (te := tVar 7) (ev_var rfl) (ex_at e5 a7')) (eds_cons (ed_ev (te := tVar 3) (ev_var rfl) (.int t)) (eds_cons (ed_ev (te := tVar 4) (ev_var rfl) (.str z)) (eds_cons (ed_ev (te := tVar 5) (ev_var rfl) (ex_at e15 hy)) eds_nil))))) (by show (5 : Nat) ≤ 100000; decide)) H5 (Ex.refl _) _ fun vl G2 g2 al => ?_
  have e16 := e15.trans g2
  refine ⟨x, vl, m, h, t, u, z, _, w, rfl, ex_at e16 hx, al, hw0 e16, te, pre, gm, gl, bl.fine (by decide) (by decide), Nat.le_trans bl.w (by decide), fun va G3 s3 lk => ?_⟩
  rw [o.e] at lk
  exact ⟨_, rfl, va, v10, _, w, rfl, lk, ex_at (g2.trans s3) a10, q1, q2, q3, fun H' s => k H' ((e16.trans s3).trans s)⟩
end
end Hs
namespace Hs
open PySem PySem.Spec PyProof.Rows L2 Hu Evl
theorem gDeed_look {tab : List (Str × List Str)} {z : Str} {ps : List U} (h : z ≠ "stand") : gDeed tab (.tup (.str z :: ps)) = lookT tab z ps := by
  show (if z = "stand" then (match ps with | [t] => gTable t | _ => false) else lookT tab z ps) = _
  rw [if_neg h]
theorem deX_pln {u d u' : U} (h : DeX u d u') : Bd d 109500 6 0 := by
  have up : ∀ {u : U} {k d : Nat}, Bd u k d 0 → d ≤ 4 → Bd u k 4 0 := fun h hd => h.mono (Nat.le_refl _) hd (Nat.le_refl _)
  cases h with
  | sealX _ hm => exact (Bd.tup (BdL.append (BdL.one (up (wd30 (z := "seal") (by decide +kernel) (by decide +kernel)) (by decide))) (BdL.one (up hm.2 (by decide))))).mono (by decide) (by decide) (Nat.le_refl _)
  | @inst e m a h b e0 e1 hm ha hh hb =>
    have bE : Bd (.int e) 80 4 0 := (int_bdH e (by omega)).mono (Nat.le_refl _) (by decide) (Nat.le_refl _)
    obtain ⟨bb, _, _, _⟩ := rst_bd (RstX.inst hm ha hh hb)
    exact (Bd.tup (BdL.append (BdL.one (up (wd30 (z := "install") (by decide +kernel) (by decide +kernel)) (by decide))) (BdL.append (BdL.one bE) bb))).mono (by decide) (by decide) (Nat.le_refl _)
section
variable {P : Program} {wd : World} {K : PySem.W.Frag} {mg : Str → Option Value} {base : Heap} {C : Addr}
def spBeh14 (C : Addr) : Sp := fun vs H Q _ => ∃ (x y : V) (u d u' : U) (w : Addr), vs = [x, y] ∧ At w C H x u ∧ At w C H y d ∧ (∃ l, H w = some (.lst l)) ∧ TabX u ∧ DeX u d u' ∧ ∀ v H', Same H H' → At w C H' v u' → Q v H'
theorem ok_beh14 {f : Addr} {fd : FuncData} (G1 : FnOk P wd K mg base CX0 11 f fd ["table", "deed"] (spBehL C "install" (fun _ ps => ps.length = 5) fInst)) (G2 : FnOk P wd K mg base CX0 11 f fd ["table", "deed"] (spBehL C "seal" (fun us ps => 0 < ps.length) fSeal)) :
    FnOk P wd K mg base CX0 11 f fd ["table", "deed"] (spBeh14 C) := FnOk.casesH fun vs H Q E h => by
  obtain ⟨x, y, u, d, u', w, rfl, hx, hy, hl, hu, hd, k⟩ := h
  obtain ⟨te, _, e0, _⟩ := tabX_ok hu
  have bd := deX_pln hd
  have te1 := te.g
  have te2 := te.f
  have te3 := te.s
  obtain ⟨e', c, m, a, hs, bs, ls, p, v, n, rfl, _⟩ := hu
  cases hd with
  | @sealX m' h0 hm =>
    refine ⟨_, G2, x, y, _, [_], w, e', rfl, hx, hy, hl, te1, te2, te3, rfl, ?_, rfl, ?_, bd.fine (by decide) (by decide), Nat.le_trans bd.w (by decide), Nat.zero_lt_one, fun v' H' s av => k v' H' s av⟩
    · have : (0 : Int) ≤ e' := h0
      unfold letsB
      rw [decide_eq_true (by omega : e' ≥ 0)]
      rfl
    · rw [gDeed_look (by decide +kernel), lookT_pos (ks := ["members"]) (by decide +kernel), gParts_cons, gp_members, gParts_nn, hm.1]
      rfl
  | inst i0 i1 hm ha hh hb =>
    refine ⟨_, G1, x, y, _, [_, _, _, _, _], w, e', rfl, hx, hy, hl, te1, te2, te3, rfl, ?_, rfl, ?_, bd.fine (by decide) (by decide), Nat.le_trans bd.w (by decide), rfl, fun v' H' s av => k v' H' s av⟩
    · unfold letsB
      rw [show inV (.str "install") (bareDs.map V.str) = true by decide +kernel, Bool.or_true]
    · rw [gDeed_look (by decide +kernel), lookT_pos (ks := ["epoch", "members", "ahead", "heads", "blocks"]) (by decide +kernel), gParts_cons, gParts_cons, gParts_cons, gParts_cons, gParts_cons, gp_epoch, gp_members, gp_ahead, gp_heads, gp_blocks, gParts_nn, cnt_ok i0, hm.1, (ah_ok ha).1, (hds_ok hh).1, (bks_ok hb).1]
      rfl
end
end Hs
namespace Hs
open PySem PySem.Spec PyProof.Rows L2 Hu Evl
abbrev lOne14 : Stmt := topS 169
def spOne : Sp := fun vs H Q _ => ∃ wl : WA, vs = [.ref wl.w] ∧ Well H wl ∧ ∀ H', Drawn wl H H' → Q (.bl true) H'
section
variable {wl : WA} {C : Addr} {σ : L2.St} {H : Hp} {te : TE} {t : TT} {K : PySem.W.Frag} {E : XK} {D : Ends} {ts : TS} {i : Nat} {v v0 : V}
theorem ew_name (h0 : σ[0]? = some (some (.ref wl.w))) : EvW wl C (tCall spName [] E (tCons (tVar 0) tNil)) σ H NmU := fun H1 D1 Q q => ⟨_, h0, wl, rfl, D1.well, fun z H2 g D2 => q (.str z) (.str z) H2 D2 (.str z) ⟨z, rfl, g⟩⟩
theorem ei_up {lo hi hi' : Int} (h : EvI wl te σ H lo hi) (hh : hi ≤ hi') : EvI wl te σ H lo hi' := fun H1 D1 Q q => h H1 D1 _ fun j H2 D2 b1 b2 => q j H2 D2 b1 (by omega)
theorem ei_ix0 {x : V} {u : U} (h : σ[i]? = some (some x)) (a : At wl.w C H x u) (te : TabG u) (eu : nth u 0 = .int (epU u)) : EvI wl (tOp (rIxT K) (tVar i) (tC (.int 0))) σ H (epU u) (epU u + 1) := fun H1 D1 Q q => by
  obtain ⟨hs, bs, T⟩ := gTable_has te.g
  obtain ⟨y0, f0, b0⟩ := ev_nth (K := K) (σ := σ) (te := tVar i) (k := 0) (ev_var h) (At.drawn D1 a) T.t (by decide)
  rw [eu] at b0
  cases at_int b0
  exact f0 H1 (Ex.refl _) _ fun H2 e2 => q _ H2 ((Drawn.refl D1.well).same e2) (Int.le_refl _) (by omega)
end
section
variable {P : Program} {wd : World} {K : PySem.W.Frag} {mg : Str → Option Value} {base : Heap} {C : Addr} {fD : Addr} {dD : FuncData}
abbrev nmO14 : List Str := ["hat", "home", "shift", "names", "pool", "table", "epoch", "word", "rest", "hand", "talk", "deed", "later", "k"]
theorem scOne14 : FnScope nmO14 ["hat"] (defScope lOne14) := ⟨rfl, rfl, rfl, by decide +kernel, rfl, by decide +kernel, by decide +kernel⟩
set_option maxHeartbeats 2000000 in
theorem ok_one14 {f f1 f2 f3 f4 f5 f7 f8 f9 f10 f11 : Addr} {fd d1 d2 d3 d4 d5 d7 d8 d9 d10 d11 : FuncData} (F : Fun K "_law_one" "_law_one" lOne14 f fd) (B : Bt mg) (bm : mg "max" = none) (D : Dd P wd K mg base fD dD)
    (E1 : Df K mg "_law_name" lName ["hat"] f1 d1) (G1' : FnOk P wd K mg base CX0 2 f1 d1 ["hat"] spName)
    (E2 : Df K mg "_law_id" lId ["hat"] f2 d2) (G2' : FnOk P wd K mg base CX0 2 f2 d2 ["hat"] (spMk C IdU))
    (E3 : Df K mg "_law_begin" lBg14 ["hat", "names", "pool"] f3 d3) (G3' : FnOk P wd K mg base CX0 5 f3 d3 ["hat", "names", "pool"] (spMkA C PreNP fun _ u => TabX u ∧ epU u ≤ 10 ^ 11))
    (E4 : Df K mg "_law_word" lWd14 ["hat", "table", "epoch"] f4 d4) (G4' : FnOk P wd K mg base CX0 4 f4 d4 ["hat", "table", "epoch"] (spMkA C PreWd WdX))
    (E5 : Df K mg "_law_rest" lRs14 ["hat", "word", "names", "pool"] f5 d5) (G5' : FnOk P wd K mg base CX0 4 f5 d5 ["hat", "word", "names", "pool"] (spMkA C PreRs RsU))
    (E7 : Df K mg "_law_asked" lAk14 ["home", "table", "hand", "talk", "word", "rest"] f7 d7) (G7 : FnOk P wd K mg base CX0 13 f7 d7 ["home", "table", "hand", "talk", "word", "rest"] (spAk C))
    (E8 : Df K mg "_law_due" lDu14 ["table", "word", "rest"] f8 d8) (G8' : FnOk P wd K mg base CX0 2 f8 d8 ["table", "word", "rest"] (spDu14 C))
    (E9 : Df K mg "_law_behind" lLb14 ["table", "deed"] f9 d9) (G9' : FnOk P wd K mg base CX0 1 f9 d9 ["table", "deed"] (spLb14 C))
    (E10 : Df K mg "_law_same" lSameH ["actual", "due"] f10 d10) (G10' : FnOk P wd K mg base CX0 10 f10 d10 ["actual", "due"] (spAl K C 10))
    (E11 : Df K mg "behind" sBehind3 ["table", "deed"] f11 d11) (G11' : FnOk P wd K mg base CX0 11 f11 d11 ["table", "deed"] (spBeh14 C)) :
    FnOk P wd K mg base CX0 14 f fd ["hat"] spOne := by
  have G1 := G1'.mono (by decide : 2 ≤ 13)
  have G2 := G2'.mono (by decide : 2 ≤ 13)
  have G3 := G3'.mono (by decide : 5 ≤ 13)
  have G4 := G4'.mono (by decide : 4 ≤ 13)
  have G5 := G5'.mono (by decide : 4 ≤ 13)
  have G8 := G8'.mono (by decide : 2 ≤ 13)
  have G9 := G9'.mono (by decide : 1 ≤ 13)
  have G10 := G10'.mono (by decide : 10 ≤ 13)
  have G11 := G11'.mono (by decide : 11 ≤ 13)
  refine F.ok scOne14 (fun vs H Q E h => ?_) (fun cdv A outer s H vs Q E hr h => ?_)
  · obtain ⟨wl, rfl, _⟩ := h
    rfl
  obtain ⟨wl, rfl, W, k⟩ := h
  refine ⟨_, pss_cons (ps_set (i := 1) scOne14.nd rfl (.inl rfl) (pe_draw D hr (by decide) (by rfl) (pv 0) pe_int))
    (pss_cons (ps_set (i := 2) scOne14.nd rfl (.inl rfl) (pe_ix (show IxR _ (rIxL K) from ix_list) (pe_lst (pa_cons (pe_un un_neg pe_int) (pa_cons (pe_un un_neg pe_int) (pa_cons (pe_un un_neg pe_int) (pa_cons pe_int (pa_cons pe_int (pa_cons pe_int (pa_cons pe_int (pa_cons pe_int pa_nil))))))))) (pe_draw D hr (by decide) (by rfl) (pv 0) pe_int) (fun _ _ => rfl)))
    (pss_cons (ps_setLc (i := 3) (own := [("k", 13)]) (g := gName 13) (tt := tYes) rfl scOne14.nd rfl rfl rfl (pi_range1 (by rfl) B.range (pa_cons pe_int pa_nil)) (blkOk_by (N := nmO14) (sc := defScope lOne14) (by decide +kernel))
      (fun _ _ _ _ _ => pg_name (i := 13) scOne14.nd rfl (Or.inl rfl)) (fun _ _ _ _ _ => pts_nil) (fun _ _ _ _ _ => pe_call G1 hr (by rfl) E1.g E1.F.kp E1.b .nil pass0 (pa_cons (pv 0) pa_nil)))
    (pss_cons (ps_setLc (i := 4) (own := [("k", 13)]) (g := gName 13) (tt := tYes) rfl scOne14.nd rfl rfl rfl (pi_range1 (by rfl) B.range (pa_cons pe_int pa_nil)) (blkOk_by (N := nmO14) (sc := defScope lOne14) (by decide +kernel))
      (fun _ _ _ _ _ => pg_name (i := 13) scOne14.nd rfl (Or.inl rfl)) (fun _ _ _ _ _ => pts_nil) (fun _ _ _ _ _ => pe_call G2 hr (by rfl) E2.g E2.F.kp E2.b .nil pass0 (pa_cons (pv 0) pa_nil)))
    (pss_cons (ps_set (i := 5) scOne14.nd rfl (.inl rfl) (pe_call G3 hr (by rfl) E3.g E3.F.kp E3.b .nil pass0 (pa_cons (pv 0) (pa_cons (pv 3) (pa_cons (pv 4) pa_nil)))))
    (pss_cons (ps_set (i := 6) scOne14.nd rfl (.inl rfl) (pe_callB (call_max2 rfl) (by rfl) bm boot_max' (pa_cons pe_int (pa_cons (pe_op op_add (pe_ix (show IxR _ (rIxT K) from ix_tup) (pv 5) pe_int (fun _ _ => rfl)) (pv 2)) pa_nil))))
    (pss_cons (ps_set (i := 7) scOne14.nd rfl (.inl rfl) (pe_call G4 hr (by rfl) E4.g E4.F.kp E4.b .nil pass0 (pa_cons (pv 0) (pa_cons (pv 5) (pa_cons (pv 6) pa_nil)))))
    (pss_cons (ps_set (i := 8) scOne14.nd rfl (.inl rfl) (pe_op (show OpR _ _ (rCatF K) from op_catF) (pe_tupF (pa_cons (pv 6) pa_nil)) (pe_call G5 hr (by rfl) E5.g E5.F.kp E5.b .nil pass0 (pa_cons (pv 0) (pa_cons (pv 7) (pa_cons (pv 3) (pa_cons (pv 4) pa_nil)))))))
    (pss_cons (ps_set (i := 9) scOne14.nd rfl (.inl rfl) (pe_op op_add pe_int (pe_draw D hr (by decide) (by rfl) (pv 0) pe_int)))
    (pss_cons (ps_set (i := 10) scOne14.nd rfl (.inl rfl) (pe_draw D hr (by decide) (by rfl) (pv 0) (pe_op op_pow pe_int pe_int)))
    (pss_cons (ps_if (pt_not (pt_val (pe_call G7 hr (by rfl) E7.g E7.F.kp E7.b .nil pass0 (pa_cons (pv 1) (pa_cons (pv 5) (pa_cons (pv 9) (pa_cons (pv 10) (pa_cons (pv 7) (pa_cons (pv 8) pa_nil))))))))) (pss_one (ps_ret pe_bl)) pss_nil)
    (pss_cons (ps_for PassesOwn.never rfl (pi_tup (pe_ix (show IxR _ (rIxT K) from ix_tup) (pe_call G8 hr (by rfl) E8.g E8.F.kp E8.b .nil pass0 (pa_cons (pv 5) (pa_cons (pv 7) (pa_cons (pv 8) pa_nil)))) pe_int (fun _ _ => rfl))) (pg_name (i := 11) scOne14.nd rfl (Or.inl rfl)) (pss_cons (ps_set (i := 12) scOne14.nd rfl (.inl rfl) (pe_call G9 hr (by rfl) E9.g E9.F.kp E9.b .nil pass0 (pa_cons (pv 5) (pa_cons (pv 11) pa_nil))))
    (pss_cons (ps_if (pt_not (pt_val (pe_call G10 hr (by rfl) E10.g E10.F.kp E10.b .nil pass0 (pa_cons (pe_call G11 hr (by rfl) E11.g E11.F.kp E11.b .nil pass0 (pa_cons (pv 5) (pa_cons (pv 11) pa_nil))) (pa_cons (pv 12) pa_nil))))) (pss_one (ps_ret pe_bl)) pss_nil)
    (pss_one (ps_set (i := 5) scOne14.nd rfl (.inl rfl) (pv 12))))))
    (pss_one (ps_ret (pe_call G7 hr (by rfl) E7.g E7.F.kp E7.b .nil pass0 (pa_cons (pv 1) (pa_cons (pv 5) (pa_cons (pv 9) (pa_cons (pv 10) (pa_cons (pv 7) (pa_cons (pv 8) pa_nil)))))))))))))))))))), ?_⟩
  have one : (1 : Nat) ≤ 100000 := by decide
  refine q_asgI (wl := wl) (ei_draw (m := 9) rfl (by decide) (by decide)) W fun m H1 D1 m0 m9 => ?_
  refine q_asgI (wl := wl) (ei_pickE (xs := [-2, -1, -1, 0, 0, 0, 1, 5]) (lo := -2) (hi := 6) (fun G => ea_cons (ev_un ev_c ru_neg) (ea_cons (ev_un ev_c ru_neg) (ea_cons (ev_un ev_c ru_neg) (ea_cons ev_c (ea_cons ev_c (ea_cons ev_c (ea_cons ev_c (ea_cons ev_c ea_nil)))))))) (ei_draw rfl (by decide) (by decide)) (by decide) (by decide)) D1.well fun sf H2 D2 sf0 sf1 => ?_
  refine q_asgW (wl := wl) (C := C) (ew_lstQ (R := NmU) (lo := 3) (hi := 4) (eq_lc (ei_of (j := 3) (fun G => ev_c) (by decide) (by decide)) (by decide) (by decide) (fun u h => (nmU_ok h).2) (fun _ => rfl) fun x G DG => ew_name rfl)) D2.well fun v3 u3 H3 D3 a3 r3 => ?_
  obtain ⟨ns, rfl, n1, n2, hns⟩ := r3
  refine q_asgW (wl := wl) (C := C) (ew_lstQ (R := IdU) (lo := 5) (hi := 6) (eq_lc (ei_of (j := 5) (fun G => ev_c) (by decide) (by decide)) (by decide) (by decide) (fun u h => (idU_ok h).2.2) (fun _ => rfl) fun x G DG => ew_mk rfl)) D3.well fun v4 u4 H4 D4 a4 r4 => ?_
  obtain ⟨ps, rfl, p1, p2, hps⟩ := r4
  have a3' := At.drawn D4 a3
  have hN : NmsU ns := ⟨by omega, by omega, hns⟩
  have hP : PoolU ps := ⟨by omega, hps⟩
  refine q_asgW (wl := wl) (C := C) (R := fun u => TabX u ∧ epU u ≤ 10 ^ 11) (fun G1 g1 Q q => ⟨_, rfl, _, rfl, _, rfl, wl, [v3, v4], [.lst ns, .lst ps], rfl, g1.well, .cons (At.drawn g1 a3') (.cons (At.drawn g1 a4) .nil), ⟨ns, ps, rfl, hN, hP⟩, fun v u H' d a r => q v u H' d a r⟩) D4.well fun v5 u5 H5 D5 a5 r5 => ?_
  obtain ⟨hu, he5⟩ := r5
  have D15 := (((D1.trans D2).trans D3).trans D4).trans D5
  have a3 := At.drawn D5 a3'
  have a4 := At.drawn D5 a4
  show tSeq _ _ _ [some (V.ref wl.w), some (.int m), some (.int sf), some v3, some v4, some v5, none, none, none, none, none, none, none, none] H5
  obtain ⟨te, _, eu, em1, emx, _⟩ := tabX_ok hu
  refine q_asgI (wl := wl) (lo := 0) (hi := 10 ^ 11 + 6) (i := 6) (ei_max0 (ei_up (hi' := 10 ^ 11 + 6) (ei_addI (ei_ix0 (K := K) rfl a5 te eu) (ei_var (lo := sf) (hi := sf + 1) rfl (by omega) (by omega))) (by omega)) (by decide)) D5.well fun ep H6 D6 ep0 ep1 => ?_
  refine q_asgW (wl := wl) (C := C) (R := WdX [u5, .int ep]) (fun G1 g1 Q q => ⟨_, rfl, _, rfl, _, rfl, wl, [v5, .int ep], [u5, .int ep], rfl, g1.well, .cons (At.drawn (D6.trans g1) a5) (.cons (.int _) .nil), ⟨u5, ep, rfl, hu⟩, fun v u H' d a r => q v u H' d a r⟩) D6.well fun v7 u7 H7 D7 a7 r7 => ?_
  obtain ⟨z, rfl, hz, hl⟩ := r7
  cases at_str a7
  have D57 := D6.trans D7
  show tSeq _ _ _ [some (V.ref wl.w), some (.int m), some (.int sf), some v3, some v4, some v5, some (.int ep), some (.str z), none, none, none, none, none, none] H7
  refine q_asgW (wl := wl) (C := C) (R := fun u => ∃ rs, u = .tup (.int ep :: rs) ∧ RstX z rs) ((ew_catR (K := K) (R1 := fun us => us = [U.int ep]) (R2 := fun us => RstX z us)
    ((ewr_tup (wl := wl) (ewr_cons (ew_intR (ei_var (lo := ep) (hi := ep + 1) rfl (by omega) (by omega))) ewr_nil) len1_le).mono fun u h => by
      obtain ⟨_, rfl, q, _, rfl, ⟨j, rfl, j0, j1⟩, rfl⟩ := h
      obtain rfl : j = ep := by omega
      exact ⟨_, rfl, rfl⟩)
    (fun G1 g1 Q q => ⟨_, rfl, _, rfl, _, rfl, _, rfl, wl, [.str z, v3, v4], [.str z, .lst ns, .lst ps], rfl, g1.well, .cons (.str z) (.cons (At.drawn (D57.trans g1) a3) (.cons (At.drawn (D57.trans g1) a4) .nil)), ⟨z, ns, ps, rfl, hz, hN, hP⟩, fun v u H' d a r => q v u H' d a r⟩)
    (fun us h => by rw [h]; show (1 : Nat) ≤ 1000; decide) (fun us h => by have := (rst_bd h).2.2.1; omega)).mono fun u h => by
      obtain ⟨us, vs, rfl, rfl, h⟩ := h
      exact ⟨vs, rfl, h⟩) D7.well fun v8 u8 H8 D8 a8 r8 => ?_
  obtain ⟨rs, rfl, rx⟩ := r8
  have pre : PreW u5 z (.int ep :: rs) := pre_of hu rx fun h1 h2 => hl h1 (congrArg U.int h2)
  refine q_asgI (wl := wl) (ei_add (ei_draw (m := 99) rfl (by decide) (by decide))) D8.well fun hh H9 D9 h0 h1 => ?_
  refine q_asgI (wl := wl) (ei_drawI (ei_of (lo := 10 ^ 11) (hi := 10 ^ 11 + 1) (ec_pow ⟨by decide, by decide, by decide⟩) (by decide) (by decide)) rfl (by decide) (by decide)) D9.well fun tt H10 D10 t0 t1 => ?_
  show tSeq _ _ _ [some (V.ref wl.w), some (.int m), some (.int sf), some v3, some v4, some v5, some (.int ep), some (.str z), some v8, some (.int hh), some (.int tt), none, none, none] H10
  have D810 := (D57.trans D8).trans (D9.trans D10)
  have DD := D15.trans D810
  have a5 := At.drawn D810 a5
  have a8 := At.drawn (D9.trans D10) a8
  obtain ⟨wx, wy, hwl, _⟩ := D10.well.ex
  have hw0 : ∀ {G : Hp}, Ex H10 G → ∃ o, G wl.w = some o := fun eg => ⟨_, eg _ _ hwl⟩
  have hwL : ∀ {G : Hp}, Ex H10 G → ∃ l, G wl.w = some (.lst l) := fun eg => ⟨_, eg _ _ hwl⟩
  have ask : ∀ {v : V} {u : U} {G : Hp} {x11 x12 x13 : Option V}, Ex H10 G → At wl.w C G v u → TabX u → PreW u z (.int ep :: rs) → Ev (tCall (spAk C) [] E0 (tCons (tVar 1) (tCons (tVar 5) (tCons (tVar 9) (tCons (tVar 10) (tCons (tVar 7) (tCons (tVar 8) tNil))))))) [some (V.ref wl.w), some (.int m), some (.int sf), some v3, some v4, some v, some (.int ep), some (.str z), some v8, some (.int hh), some (.int tt), x11, x12, x13] G (.bl true) := fun {v u G x11 x12 x13} eG av hu pre G1 g1 Q q =>
    ⟨_, rfl, _, rfl, _, rfl, _, rfl, _, rfl, _, rfl, v, v8, m, hh, tt, ep, u, z, rs, wl.w, rfl, ex_at g1 av, ex_at (eG.trans g1) a8, hw0 (eG.trans g1), hu, rx, pre, by omega, by omega, by omega, by omega, by omega, by omega, by omega, by omega, fun H' s => q H' s⟩
  refine q_when (b := !true) (et_not (et_B (ask (Ex.refl _) a5 hu pre))) (fun q => by cases q) (fun _ H11 e11 => ?_)
  obtain ⟨ds, y, ts, k1, k2, o⟩ := out_x hu rx (by omega) (by omega) pre
  have hdue : EvD wl.w C (tOp (rIxT K) (tCall (spDu14 C) [] E0 (tCons (tVar 5) (tCons (tVar 7) (tCons (tVar 8) tNil)))) (tC (.int 0))) [some (V.ref wl.w), some (.int m), some (.int sf), some v3, some v4, some v5, some (.int ep), some (.str z), some v8, some (.int hh), some (.int tt), none, none, none] H11 (.tup ds) := fun G eg Q q => call1 (ea_cons (ev_var rfl) (ea_cons (ev_var rfl) (ea_cons (ev_var rfl) ea_nil))) fun G1 g1 => ⟨v5, v8, u5, z, _, wl.w, rfl, ex_at ((e11.trans eg).trans g1) a5, ex_at ((e11.trans eg).trans g1) a8, hw0 ((e11.trans eg).trans g1), te, pre, fun vd G2 g2 ad => by
    rw [o.e] at ad
    obtain ⟨pd, zs, rfl, hpd, _, lpd⟩ := at_tup ad
    obtain ⟨w0, w1, rfl, c0, c1⟩ := atl2 lpd
    exact ⟨pd, _, 0, w0, rfl, rfl, Tu.st hpd, rfl, q w0 G2 (g1.trans g2) c0⟩⟩
  refine hdue H11 (Ex.refl _) _ fun vd H12 e12 ad => ?_
  obtain ⟨pd, xsd, rfl, hds, nds, lds⟩ := at_tup ad
  have eC := e11.trans e12
  have lenD := AtL.length lds
  refine ⟨pd, rfl, ⟨_, Tu.st hds⟩, for_tup (xs := xsd) (fun i σ' H' => ∃ (x11 x12 : Option V) (v5 : V) (u : U), σ' = [some (V.ref wl.w), some (.int m), some (.int sf), some v3, some v4, some v5, some (.int ep), some (.str z), some v8, some (.int hh), some (.int tt), x11, x12, none] ∧ Ex H12 H' ∧ At wl.w C H' v5 u ∧ TabX u ∧ PreW u z (.int ep :: rs) ∧ (i = 0 → u = u5)) ⟨_, _, v5, u5, rfl, Ex.refl _, ex_at eC a5, hu, pre, fun _ => rfl⟩ (fun i σ' H' _ ⟨_, _, _, _, _, e', _⟩ => Tu.st (Tu.ex e' hds)) (fun i x σ' H' hi p => ?_) (fun σ' H' p => ?_)⟩
  · obtain ⟨x11, x12, v5, u, rfl, e', av, hu', _, hi0⟩ := p
    have hj' : i < ds.length := by
      have := (List.getElem?_eq_some_iff.mp hi).1
      omega
    obtain ⟨y', hy', ay⟩ := AtL.get lds (List.getElem?_eq_getElem hj')
    rw [hi] at hy'
    cases hy'
    rcases o.d with hd | ⟨d, u', hd, dX, preu⟩
    · rw [hd] at hj'
      cases hj'
    have i0 : i = 0 := by
      rw [hd] at hj'
      have : i < 1 := hj'
      omega
    obtain rfl := hi0 i0
    have ed : ds[i] = d := by
      subst i0
      simp only [hd, List.getElem_cons_zero]
    rw [ed] at ay
    have ayx := ex_at e' ay
    have eX := eC.trans e'
    have tu' := dX.tab hu
    obtain ⟨te', bu', _⟩ := tabX_ok tu'
    show tSeq _ _ _ [some (V.ref wl.w), some (.int m), some (.int sf), some v3, some v4, some v5, some (.int ep), some (.str z), some v8, some (.int hh), some (.int tt), some x, x12, none] H'
    refine q_asgEd (w := wl.w) (C := C) (u := u') (fun G eg Q q => call1 (ea_cons (ev_var rfl) (ea_cons (ev_var rfl) ea_nil)) fun G1 g1 => ⟨v5, x, u, d, u', wl.w, rfl, ex_at (eg.trans g1) av, ex_at (eg.trans g1) ayx, hw0 ((eX.trans eg).trans g1), hu, dX, fun v H' s a => q v H' (g1.trans s) a⟩) fun v12 H13 e13 a12 => ?_
    show tSeq _ _ _ [some (V.ref wl.w), some (.int m), some (.int sf), some v3, some v4, some v5, some (.int ep), some (.str z), some v8, some (.int hh), some (.int tt), some x, some v12, none] H13
    refine q_when (b := !true) (et_not (et_B fun G1 g1 Q q => ⟨_, rfl, _, rfl, v5, x, u, d, u', wl.w, rfl, ex_at (e13.trans g1) av, ex_at (e13.trans g1) ayx, hwL ((eX.trans e13).trans g1), hu, dX, fun vb G2 s2 ab => ⟨_, rfl, vb, v12, u', wl.w, rfl, lk_at te'.p ab, ex_at (g1.trans s2) a12, Nat.le_trans bu'.w (by decide), te'.p, Nat.lt_of_le_of_lt bu'.d (by decide), fun H' s => q H' (s2.trans s)⟩⟩)) (fun q => by cases q) (fun _ H14 e14 => ?_)
    exact ⟨_, rfl, _, _, v12, u', rfl, (e'.trans e13).trans e14, ex_at e14 a12, tu', preu, fun h => by cases h⟩
  · obtain ⟨x11, x12, v5, u, rfl, e', av, hu', pre', _⟩ := p
    exact ask (eC.trans e') av hu' pre' H' (Ex.refl _) _ fun H'' s => k H'' (DD.same ((eC.trans e').trans s))
end
end Hs
namespace Hs
open PySem PySem.Spec PyProof.Rows L2 Hu Evl
abbrev lLawH : Stmt := topS 170
def iL (ns : List Int) : List V := ns.map V.int
theorem iL_of {ns : List Int} {i : Nat} {x : V} (h : (iL ns)[i]? = some x) : ∃ n, ns[i]? = some n ∧ x = .int n := by
  unfold iL at h
  rw [List.getElem?_map] at h
  obtain ⟨n, h1, h2⟩ := Option.map_eq_some_iff.mp h
  exact ⟨n, h1, h2.symm⟩
theorem iL_len (ns : List Int) : (iL ns).length = ns.length := List.length_map ..
theorem el_catLL {σ : L2.St} {H : Hp} {ta tb : TE} {xs ys : List V} (ha : EvL ta σ H xs) (hb : EvL tb σ H ys) (hl : xs.length + ys.length ≤ 100000) : EvL (tOp rCat ta tb) σ H (xs ++ ys) := fun H1 e Q q => ha H1 e _ fun p H2 hp e2 h2 => hb H2 (e.trans e2) _ fun p' H3 hp' e3 h3 =>
  ⟨p, p', xs, ys, rfl, rfl, e3 _ _ h2, h3, sz_of hl, fun r hr => q r _ (fresh_back (e2.trans e3) hr) ((e2.trans e3).trans (Ex.new hr)) upd_same⟩
theorem boot_listH : bootBuiltins "list" = some (.type "list") := by decide +kernel
section
variable {P : Program} {wd : World} {K : PySem.W.Frag} {mg : Str → Option Value} {base : Heap} {C : Addr} {fD : Addr} {dD : FuncData}
def spLawH (K : PySem.W.Frag) : Sp := fun vs H Q _ => ∃ (a : Addr) (ns : List Int), vs = [.ref a] ∧ SqL K H a (ns.map V.int) ∧ ns.length ≤ 63 ∧ ∀ H', Q (.bl true) H'
theorem scLawH : FnScope ["script", "k", "cell"] ["script"] (defScope lLawH) := ⟨rfl, rfl, rfl, by decide +kernel, rfl, by decide +kernel, by decide +kernel⟩
theorem ok_lawH {f f1 f2 : Addr} {fd d1 d2 : FuncData} (F : Fun K "law" "law" lLawH f fd) (B : Bt mg) (E1 : Df K mg "_law_hat" lHat ["cell", "k"] f1 d1) (G1 : FnOk P wd K mg base CX0 1 f1 d1 ["cell", "k"] spHat) (E2 : Df K mg "_law_one" lOne14 ["hat"] f2 d2) (G2 : FnOk P wd K mg base CX0 14 f2 d2 ["hat"] spOne) :
    FnOk P wd K mg base CX0 15 f fd ["script"] (spLawH K) := by
  refine F.ok scLawH (fun vs H Q E h => ?_) (fun cdv A outer s H vs Q E hr h => ?_)
  · obtain ⟨a, ns, rfl, _⟩ := h
    rfl
  obtain ⟨a, ns, rfl, hS, hl, k⟩ := h
  have hS' : SqL K H a (iL ns) := hS
  refine ⟨_, pss_cons (ps_for PassesOwn.never rfl (pi_enum (by rfl) B.enu (pa_cons (pe_op op_cat (pe_callTy call_list_of (by rfl) B.lst boot_listH (pa_cons (pv 0) pa_nil)) (pe_lst (pa_cons pe_int (pa_cons pe_int (pa_cons pe_int pa_nil))))) pa_nil)) (pg_tup rfl (pgs_cons (pg_name (i := 1) scLawH.nd rfl (.inl rfl)) (pgs_cons (pg_name (i := 2) scLawH.nd rfl (.inl rfl)) pgs_nil)))
      (pss_one (ps_if (pt_not (pt_val (pe_call G2 hr (by rfl) E2.g E2.F.kp E2.b .nil pass0 (pa_cons (pe_call (G1.mono (by decide : 1 ≤ 14)) hr (by rfl) E1.g E1.F.kp E1.b .nil pass0 (pa_cons (pv 2) (pa_cons (pv 1) pa_nil))) pa_nil)))) (pss_one (ps_ret pe_bl)) pss_nil)))
    (pss_one (ps_ret pe_bl)), ?_⟩
  have hE : EvL (tOp rCat (tCB (rListS K) (tCons (tVar 0) tNil)) (tLst (tCons (tC (.int 6)) (tCons (tC (.int 18)) (tCons (tC (.int 41)) tNil))))) [some (V.ref a), none, none] H (iL ns ++ iL [6, 18, 41]) :=
    el_catLL (el_list (ev_var rfl) hS') (el_lst (ea_cons ev_c (ea_cons ev_c (ea_cons ev_c ea_nil))) (by show (3 : Nat) ≤ 100000; decide)) (by rw [iL_len]; show ns.length + 3 ≤ _; omega)
  have happ : iL ns ++ iL [6, 18, 41] = iL (ns ++ [6, 18, 41]) := (List.map_append ..).symm
  rw [happ] at hE
  refine hE H (Ex.refl H) _ fun La H1 hLa e1 h1 => ⟨La, _, rfl, sq_of h1, ?_⟩
  refine for_it walk_enum (fun i σ' H' => (∃ x1 x2 : Option V, σ' = [some (V.ref a), x1, x2]) ∧ H' La = some (.lst (iL (ns ++ [6, 18, 41])))) ⟨⟨none, none, rfl⟩, h1⟩ (fun i σ' H' _ p => sq_of p.2) ?_ ?_
  · rintro i x σ' H2 H2' hi ⟨⟨x1, x2, rfl⟩, h2⟩ ⟨T, y1, y2, rfl, hT, rfl, hy1, hy2⟩
    cases hy1
    obtain ⟨c, hc, rfl⟩ := iL_of hy2
    have e2 : Ex H2 (upd H2 T (.tup [.int ((i : Nat) : Int), .int c])) := Ex.new hT
    refine ⟨T, _, rfl, st_of upd_same, rfl, .int ((i : Nat) : Int), _, rfl, .int c, _, rfl, rfl, ?_⟩
    refine ⟨_, rfl, _, rfl, c, ((i : Nat) : Int), rfl, by omega, fun wl H5 hwl s5 W5 => ⟨wl, rfl, W5, fun H6 D6 => ⟨true, rfl, ?_⟩⟩⟩
    have nL : La ≠ wl.w := fun e => by
      have := e2 _ _ h2
      rw [e, hwl] at this
      cases this
    exact ⟨⟨_, _, rfl⟩, D6.keep La _ nL (s5 _ _ (e2 _ _ h2))⟩
  · rintro σ' H2 ⟨⟨x1, x2, rfl⟩, h2⟩
    exact k H2
end
end Hs
namespace Hs
open PySem PySem.Spec PyProof.Rows L2 Hu Evl
/-- all that the law's run reaches -/
structure La (K : PySem.W.Frag) (w : World) (mg : Str → Option Value) : Prop where
  B : Bt mg
  Z : Bz mg
  N : Cn mg
  N2 : Ct mg
  bany : mg "any" = none
  P64 : ∃ t, mg "MOST_PLACES_forms" = some (.int 64 t)
  E : ∃ C, Xc K mg "NoTable" C "NoTable" ∧ Eqx K C
  Bd : ∃ a, mg "BARE_DEEDS" = some (.ref a) ∧ TupK K a bareDs
  dg : ∃ a, mg "WORDS_answers" = some (.ref a) ∧ (∃ (f : Addr) (d : FuncData), KDct K w a "seal" (.ref f) ∧ Df K mg "_seal" sSeal ["table", "hand", "talk", "rest"] f d)
  dn : ∃ a, mg "DOINGS" = some (.ref a) ∧ (∃ (f : Addr) (d : FuncData), KDct K w a "install" (.ref f) ∧ Df K mg "_installed" sInst14 ["table", "parts"] f d) ∧ (∃ (f : Addr) (d : FuncData), KDct K w a "seal" (.ref f) ∧ Df K mg "_sealed" sSealed14 ["table", "parts"] f d)
  tTO_HANDS : ∃ (a : Addr) (es : Array DictEntry) (n : Nat), KTab K w mg "TO_HANDS" thT a es n
  tTO_HOMES : ∃ (a : Addr) (es : Array DictEntry) (n : Nat), KTab K w mg "TO_HOMES" toT a es n
  tAMONG_HOMES : ∃ (a : Addr) (es : Array DictEntry) (n : Nat), KTab K w mg "AMONG_HOMES" amT a es n
  tDEEDS : ∃ (a : Addr) (es : Array DictEntry) (n : Nat), KTab K w mg "DEEDS" dT a es n
  dis_integer : ∃ (f : Addr) (d : FuncData), Df K mg "is_integer" sIsInt ["thing"] f d
  dis_from_one : ∃ (f : Addr) (d : FuncData), Df K mg "is_from_one" sFromOne ["thing"] f d
  dis_pair : ∃ (f : Addr) (d : FuncData), Df K mg "is_pair" sPair ["thing"] f d
  dis_signs : ∃ (f : Addr) (d : FuncData), Df K mg "is_signs" sIsSigns ["thing"] f d
  dis_ascending : ∃ (f : Addr) (d : FuncData), Df K mg "is_ascending" sAscending ["things"] f d
  dis_home : ∃ (f : Addr) (d : FuncData), Df K mg "is_home" sHome ["thing"] f d
  dis_hand : ∃ (f : Addr) (d : FuncData), Df K mg "is_hand" sHand ["thing"] f d
  dis_name : ∃ (f : Addr) (d : FuncData), Df K mg "is_name" sName ["thing"] f d
  dis_piece : ∃ (f : Addr) (d : FuncData), Df K mg "is_piece" sPiece ["thing"] f d
  dis_block_id : ∃ (f : Addr) (d : FuncData), Df K mg "is_block_id" sBlockId ["thing"] f d
  dis_row : ∃ (f : Addr) (d : FuncData), Df K mg "is_row" sRow ["thing"] f d
  dis_stamp : ∃ (f : Addr) (d : FuncData), Df K mg "is_stamp" sStamp ["thing"] f d
  dis_members : ∃ (f : Addr) (d : FuncData), Df K mg "is_members" sMembers ["thing"] f d
  dis_count : ∃ (f : Addr) (d : FuncData), Df K mg "is_count" sCount ["thing"] f d
  dis_tuple_of : ∃ (f : Addr) (d : FuncData), Df K mg "is_tuple_of" sTO ["many", "thing"] f d
  dis_ahead : ∃ (f : Addr) (d : FuncData), Df K mg "is_ahead" sAhead ["thing"] f d
  dis_vote : ∃ (f : Addr) (d : FuncData), Df K mg "is_vote" sVote ["thing"] f d
  dis_heads : ∃ (f : Addr) (d : FuncData), Df K mg "is_heads" sHeads ["thing"] f d
  d_is_named_head : ∃ (f : Addr) (d : FuncData), Df K mg "_is_named_head" sNamed ["thing"] f d
  dis_blocks : ∃ (f : Addr) (d : FuncData), Df K mg "is_blocks" sBlocks ["thing"] f d
  d_is_block : ∃ (f : Addr) (d : FuncData), Df K mg "_is_block" sBlk ["thing"] f d
  dis_names : ∃ (f : Addr) (d : FuncData), Df K mg "is_names" sNames ["thing"] f d
  dis_ids : ∃ (f : Addr) (d : FuncData), Df K mg "is_ids" sIds ["thing"] f d
  dis_counts : ∃ (f : Addr) (d : FuncData), Df K mg "is_counts" sCounts ["thing", "most"] f d
  dis_part : ∃ (f : Addr) (d : FuncData), Df K mg "is_part" sPart ["kind", "thing"] f d
  d_is_lot : ∃ (f : Addr) (d : FuncData), Df K mg "_is_lot" sLot ["kind", "thing"] f d
  dare_parts : ∃ (f : Addr) (d : FuncData), Df K mg "are_parts" sParts ["kinds", "things"] f d
  dis_machine : ∃ (f : Addr) (d : FuncData), Df K mg "is_machine" sMachine ["thing"] f d
  d_is_told : ∃ (f : Addr) (d : FuncData), Df K mg "_is_told" sTold ["to", "by", "word", "rest"] f d
  dis_letter : ∃ (f : Addr) (d : FuncData), Df K mg "is_letter" sLetter ["thing"] f d
  d_are_leases : ∃ (f : Addr) (d : FuncData), Df K mg "_are_leases" sLeases ["thing"] f d
  d_is_lease : ∃ (f : Addr) (d : FuncData), Df K mg "_is_lease" sLease ["thing"] f d
  d_are_kept : ∃ (f : Addr) (d : FuncData), Df K mg "_are_kept" sKept ["parts"] f d
  dis_table : ∃ (f : Addr) (d : FuncData), Df K mg "is_table" sTable ["thing"] f d
  dis_deed : ∃ (f : Addr) (d : FuncData), Df K mg "is_deed" sDeed3 ["thing"] f d
  dchanged : ∃ (f : Addr) (d : FuncData), Df K mg "changed" sChanged3 ["table", "at", "part"] f d
  dlets : ∃ (f : Addr) (d : FuncData), Df K mg "lets" sLets3 ["table", "deed"] f d
  ddone : ∃ (f : Addr) (d : FuncData), Df K mg "done" sDone3 ["table", "deed"] f d
  dbehind : ∃ (f : Addr) (d : FuncData), Df K mg "behind" sBehind3 ["table", "deed"] f d
  dled_ids : ∃ (f : Addr) (d : FuncData), Df K mg "led_ids" sLedIds ["heads"] f d
  dled_by : ∃ (f : Addr) (d : FuncData), Df K mg "led_by" sLedBy ["heads", "blocks"] f d
  dis_leased : ∃ (f : Addr) (d : FuncData), Df K mg "is_leased" sIsLeased ["table", "name", "but"] f d
  d_carried : ∃ (f : Addr) (d : FuncData), Df K mg "_carried" sCarried ["table", "word", "epoch", "members"] f d
  d_ahead_of_hand : ∃ (f : Addr) (d : FuncData), Df K mg "_ahead_of_hand" sAhOf ["table", "word", "epoch"] f d
  d_with_hand : ∃ (f : Addr) (d : FuncData), Df K mg "_with_hand" sWithHand ["table", "hand", "talk", "word", "rest"] f d
  danswered : ∃ (f : Addr) (d : FuncData), Df K mg "answered" sAnswered ["home", "table", "letter"] f d
  danswer : ∃ (f : Addr) (d : FuncData), Df K mg "answer" sAnswer ["home", "table", "letter"] f d
  d_law_hat : ∃ (f : Addr) (d : FuncData), Df K mg "_law_hat" lHat ["cell", "k"] f d
  d_law_draw : ∃ (f : Addr) (d : FuncData), Df K mg "_law_draw" sDraw ["hat", "many"] f d
  d_law_same : ∃ (f : Addr) (d : FuncData), Df K mg "_law_same" lSameH ["actual", "due"] f d
  d_law_name : ∃ (f : Addr) (d : FuncData), Df K mg "_law_name" lName ["hat"] f d
  d_law_id : ∃ (f : Addr) (d : FuncData), Df K mg "_law_id" lId ["hat"] f d
  d_law_piece : ∃ (f : Addr) (d : FuncData), Df K mg "_law_piece" lPieceL ["hat"] f d
  d_law_stamp : ∃ (f : Addr) (d : FuncData), Df K mg "_law_stamp" lStamp ["hat"] f d
  d_law_members : ∃ (f : Addr) (d : FuncData), Df K mg "_law_members" lMembers ["hat"] f d
  d_law_row : ∃ (f : Addr) (d : FuncData), Df K mg "_law_row" lRow ["hat", "pool"] f d
  d_law_heads : ∃ (f : Addr) (d : FuncData), Df K mg "_law_heads" lHeads ["hat", "names", "pool"] f d
  d_law_blocks : ∃ (f : Addr) (d : FuncData), Df K mg "_law_blocks" lBlocks ["hat", "pool"] f d
  d_law_leases : ∃ (f : Addr) (d : FuncData), Df K mg "_law_leases" lLeases ["hat", "names", "clock"] f d
  d_law_table : ∃ (f : Addr) (d : FuncData), Df K mg "_law_table" lTableH ["hat", "names", "pool"] f d
  d_law_rest : ∃ (f : Addr) (d : FuncData), Df K mg "_law_rest" lRs14 ["hat", "word", "names", "pool"] f d
  d_law_led : ∃ (f : Addr) (d : FuncData), Df K mg "_law_led" lLed ["table"] f d
  d_law_due : ∃ (f : Addr) (d : FuncData), Df K mg "_law_due" lDu14 ["table", "word", "rest"] f d
  d_law_behind : ∃ (f : Addr) (d : FuncData), Df K mg "_law_behind" lLb14 ["table", "deed"] f d
  d_law_begin : ∃ (f : Addr) (d : FuncData), Df K mg "_law_begin" lBg14 ["hat", "names", "pool"] f d
  d_law_word : ∃ (f : Addr) (d : FuncData), Df K mg "_law_word" lWd14 ["hat", "table", "epoch"] f d
  d_law_asked : ∃ (f : Addr) (d : FuncData), Df K mg "_law_asked" lAk14 ["home", "table", "hand", "talk", "word", "rest"] f d
  d_law_one : ∃ (f : Addr) (d : FuncData), Df K mg "_law_one" lOne14 ["hat"] f d
section
variable {P : Program} {wd : World} {K : PySem.W.Frag} {mg : Str → Option Value} {base : Heap}
theorem jw_sm5 {C : Addr} {k : Nat} {x p : Str} {f : Addr} {fd : FuncData} {g : U → Bool} (J : Jw P wd K mg base C k x p f fd OkT g) : Jw P wd K mg base C k x p f fd Sm g :=
  ⟨J.ok.imp fun vs H Q E ⟨v, u, w, h1, h2, h3, h4, h5⟩ => ⟨v, u, w, h1, h2, h3, ⟨h4⟩, h5⟩, J.g, J.kp, J.b⟩
set_option maxHeartbeats 4000000 in
theorem ok_all {f : Addr} {fd : FuncData} (F : Fun K "law" "law" lLawH f fd) (L : La K wd mg) : FnOk P wd K mg base CX0 15 f fd ["script"] (spLawH K) := by
  obtain ⟨f_is_integer, d_is_integer, D_is_integer⟩ := L.dis_integer
  have F_is_integer := D_is_integer.F
  obtain ⟨f_is_from_one, d_is_from_one, D_is_from_one⟩ := L.dis_from_one
  have F_is_from_one := D_is_from_one.F
  obtain ⟨f_is_pair, d_is_pair, D_is_pair⟩ := L.dis_pair
  have F_is_pair := D_is_pair.F
  obtain ⟨f_is_signs, d_is_signs, D_is_signs⟩ := L.dis_signs
  have F_is_signs := D_is_signs.F
  obtain ⟨f_is_ascending, d_is_ascending, D_is_ascending⟩ := L.dis_ascending
  have F_is_ascending := D_is_ascending.F
  obtain ⟨f_is_home, d_is_home, D_is_home⟩ := L.dis_home
  have F_is_home := D_is_home.F
  obtain ⟨f_is_hand, d_is_hand, D_is_hand⟩ := L.dis_hand
  have F_is_hand := D_is_hand.F
  obtain ⟨f_is_name, d_is_name, D_is_name⟩ := L.dis_name
  have F_is_name := D_is_name.F
  obtain ⟨f_is_piece, d_is_piece, D_is_piece⟩ := L.dis_piece
  have F_is_piece := D_is_piece.F
  obtain ⟨f_is_block_id, d_is_block_id, D_is_block_id⟩ := L.dis_block_id
  have F_is_block_id := D_is_block_id.F
  obtain ⟨f_is_row, d_is_row, D_is_row⟩ := L.dis_row
  have F_is_row := D_is_row.F
  obtain ⟨f_is_stamp, d_is_stamp, D_is_stamp⟩ := L.dis_stamp
  have F_is_stamp := D_is_stamp.F
  obtain ⟨f_is_members, d_is_members, D_is_members⟩ := L.dis_members
  have F_is_members := D_is_members.F
  obtain ⟨f_is_count, d_is_count, D_is_count⟩ := L.dis_count
  have F_is_count := D_is_count.F
  obtain ⟨f_is_tuple_of, d_is_tuple_of, D_is_tuple_of⟩ := L.dis_tuple_of
  have F_is_tuple_of := D_is_tuple_of.F
  obtain ⟨f_is_ahead, d_is_ahead, D_is_ahead⟩ := L.dis_ahead
  have F_is_ahead := D_is_ahead.F
  obtain ⟨f_is_vote, d_is_vote, D_is_vote⟩ := L.dis_vote
  have F_is_vote := D_is_vote.F
  obtain ⟨f_is_heads, d_is_heads, D_is_heads⟩ := L.dis_heads
  have F_is_heads := D_is_heads.F
  obtain ⟨f__is_named_head, d__is_named_head, D__is_named_head⟩ := L.d_is_named_head
  have F__is_named_head := D__is_named_head.F
  obtain ⟨f_is_blocks, d_is_blocks, D_is_blocks⟩ := L.dis_blocks
  have F_is_blocks := D_is_blocks.F
  obtain ⟨f__is_block, d__is_block, D__is_block⟩ := L.d_is_block
  have F__is_block := D__is_block.F
  obtain ⟨f_is_names, d_is_names, D_is_names⟩ := L.dis_names
  have F_is_names := D_is_names.F
  obtain ⟨f_is_ids, d_is_ids, D_is_ids⟩ := L.dis_ids
  have F_is_ids := D_is_ids.F
  obtain ⟨f_is_counts, d_is_counts, D_is_counts⟩ := L.dis_counts
  have F_is_counts := D_is_counts.F
  obtain ⟨f_is_part, d_is_part, D_is_part⟩ := L.dis_part
  have F_is_part := D_is_part.F
  obtain ⟨f__is_lot, d__is_lot, D__is_lot⟩ := L.d_is_lot
  have F__is_lot := D__is_lot.F
  obtain ⟨f_are_parts, d_are_parts, D_are_parts⟩ := L.dare_parts
  have F_are_parts := D_are_parts.F
  obtain ⟨f_is_machine, d_is_machine, D_is_machine⟩ := L.dis_machine
  have F_is_machine := D_is_machine.F
  obtain ⟨f__is_told, d__is_told, D__is_told⟩ := L.d_is_told
  have F__is_told := D__is_told.F
  obtain ⟨f_is_letter, d_is_letter, D_is_letter⟩ := L.dis_letter
  have F_is_letter := D_is_letter.F
  obtain ⟨f__are_leases, d__are_leases, D__are_leases⟩ := L.d_are_leases
  have F__are_leases := D__are_leases.F
  obtain ⟨f__is_lease, d__is_lease, D__is_lease⟩ := L.d_is_lease
  have F__is_lease := D__is_lease.F
  obtain ⟨f__are_kept, d__are_kept, D__are_kept⟩ := L.d_are_kept
  have F__are_kept := D__are_kept.F
  obtain ⟨f_is_table, d_is_table, D_is_table⟩ := L.dis_table
  have F_is_table := D_is_table.F
  obtain ⟨f_is_deed, d_is_deed, D_is_deed⟩ := L.dis_deed
  have F_is_deed := D_is_deed.F
  obtain ⟨f_changed, d_changed, D_changed⟩ := L.dchanged
  have F_changed := D_changed.F
  obtain ⟨f_lets, d_lets, D_lets⟩ := L.dlets
  have F_lets := D_lets.F
  obtain ⟨f_done, d_done, D_done⟩ := L.ddone
  have F_done := D_done.F
  obtain ⟨f_behind, d_behind, D_behind⟩ := L.dbehind
  have F_behind := D_behind.F
  obtain ⟨f_led_ids, d_led_ids, D_led_ids⟩ := L.dled_ids
  have F_led_ids := D_led_ids.F
  obtain ⟨f_led_by, d_led_by, D_led_by⟩ := L.dled_by
  have F_led_by := D_led_by.F
  obtain ⟨f_is_leased, d_is_leased, D_is_leased⟩ := L.dis_leased
  have F_is_leased := D_is_leased.F
  obtain ⟨f__carried, d__carried, D__carried⟩ := L.d_carried
  have F__carried := D__carried.F
  obtain ⟨f__ahead_of_hand, d__ahead_of_hand, D__ahead_of_hand⟩ := L.d_ahead_of_hand
  have F__ahead_of_hand := D__ahead_of_hand.F
  obtain ⟨f__with_hand, d__with_hand, D__with_hand⟩ := L.d_with_hand
  have F__with_hand := D__with_hand.F
  obtain ⟨f_answered, d_answered, D_answered⟩ := L.danswered
  have F_answered := D_answered.F
  obtain ⟨f_answer, d_answer, D_answer⟩ := L.danswer
  have F_answer := D_answer.F
  obtain ⟨f__law_hat, d__law_hat, D__law_hat⟩ := L.d_law_hat
  have F__law_hat := D__law_hat.F
  obtain ⟨f__law_draw, d__law_draw, D__law_draw⟩ := L.d_law_draw
  have F__law_draw := D__law_draw.F
  obtain ⟨f__law_same, d__law_same, D__law_same⟩ := L.d_law_same
  have F__law_same := D__law_same.F
  obtain ⟨f__law_name, d__law_name, D__law_name⟩ := L.d_law_name
  have F__law_name := D__law_name.F
  obtain ⟨f__law_id, d__law_id, D__law_id⟩ := L.d_law_id
  have F__law_id := D__law_id.F
  obtain ⟨f__law_piece, d__law_piece, D__law_piece⟩ := L.d_law_piece
  have F__law_piece := D__law_piece.F
  obtain ⟨f__law_stamp, d__law_stamp, D__law_stamp⟩ := L.d_law_stamp
  have F__law_stamp := D__law_stamp.F
  obtain ⟨f__law_members, d__law_members, D__law_members⟩ := L.d_law_members
  have F__law_members := D__law_members.F
  obtain ⟨f__law_row, d__law_row, D__law_row⟩ := L.d_law_row
  have F__law_row := D__law_row.F
  obtain ⟨f__law_heads, d__law_heads, D__law_heads⟩ := L.d_law_heads
  have F__law_heads := D__law_heads.F
  obtain ⟨f__law_blocks, d__law_blocks, D__law_blocks⟩ := L.d_law_blocks
  have F__law_blocks := D__law_blocks.F
  obtain ⟨f__law_leases, d__law_leases, D__law_leases⟩ := L.d_law_leases
  have F__law_leases := D__law_leases.F
  obtain ⟨f__law_table, d__law_table, D__law_table⟩ := L.d_law_table
  have F__law_table := D__law_table.F
  obtain ⟨f__law_rest, d__law_rest, D__law_rest⟩ := L.d_law_rest
  have F__law_rest := D__law_rest.F
  obtain ⟨f__law_led, d__law_led, D__law_led⟩ := L.d_law_led
  have F__law_led := D__law_led.F
  obtain ⟨f__law_due, d__law_due, D__law_due⟩ := L.d_law_due
  have F__law_due := D__law_due.F
  obtain ⟨f__law_behind, d__law_behind, D__law_behind⟩ := L.d_law_behind
  have F__law_behind := D__law_behind.F
  obtain ⟨f__law_begin, d__law_begin, D__law_begin⟩ := L.d_law_begin
  have F__law_begin := D__law_begin.F
  obtain ⟨f__law_word, d__law_word, D__law_word⟩ := L.d_law_word
  have F__law_word := D__law_word.F
  obtain ⟨f__law_asked, d__law_asked, D__law_asked⟩ := L.d_law_asked
  have F__law_asked := D__law_asked.F
  obtain ⟨f__law_one, d__law_one, D__law_one⟩ := L.d_law_one
  have F__law_one := D__law_one.F
  obtain ⟨a0, es0, n0, T0⟩ := L.tTO_HANDS
  obtain ⟨a1, es1, n1, T1⟩ := L.tTO_HOMES
  obtain ⟨a2, es2, n2, T2⟩ := L.tAMONG_HOMES
  obtain ⟨a3, es3, n3, T3⟩ := L.tDEEDS
  obtain ⟨aW, gW, ⟨f__seal, d__seal, k__seal, D__seal⟩⟩ := L.dg
  obtain ⟨aG, gG, ⟨f__installed, d__installed, k__installed, D__installed⟩, ⟨f__sealed, d__sealed, k__sealed, D__sealed⟩⟩ := L.dn
  obtain ⟨C, XE, XQ⟩ := L.E
  obtain ⟨aB, gB, tB⟩ := L.Bd
  have B := L.B
  have Z := L.Z
  have N := L.N
  have N2 := L.N2
  have N64 := L.P64
  have S : Bs K mg C := ⟨B, XE, XQ⟩
  have hZ := Z.zip
  have JI : Jd P wd K mg base C 1 "is_integer" "thing" f_is_integer d_is_integer gInt := jd_int D_is_integer S
  have JF := jd_from D_is_from_one S JI
  have JH := jd_home D_is_home S N JI
  have JHa := jd_hand D_is_hand S N JI
  have JP : Jd P wd K mg base C 1 "is_pair" "thing" f_is_pair d_is_pair gPair := jd_pair D_is_pair S
  have JS : Jd P wd K mg base C 1 "is_signs" "thing" f_is_signs d_is_signs gSigns := jd_signs D_is_signs S
  have JPc := jd_piece D_is_piece S N JS
  have JN : Jd P wd K mg base C 2 "is_name" "thing" f_is_name d_is_name gNam := jd_name D_is_name S N
  have JId := jd_id D_is_block_id S JP JHa JF
  have JR := jd_row D_is_row S N JId
  have JSt := jd_stamp D_is_stamp S JP JI JF JHa
  have JM := jd_members D_is_members S N JH D_is_ascending
  have JC := jd_cnt D_is_count S JI
  have JT : JTO P wd K mg base C f_is_tuple_of d_is_tuple_of := ⟨D_is_tuple_of, ok_TO D_is_tuple_of S⟩
  have JA := jw_ahead D_is_ahead S JM
  have JV := jd_vote D_is_vote S JP JSt JM
  have JNd := jd_named D__is_named_head S JT JN JSt JR
  have JBk := jd_blk D__is_block S JP JId JPc
  have JHs := jw_heads D_is_heads S JNd D_is_ascending
  have JBs := jw_blocks D_is_blocks S JBk D_is_ascending
  have JLe := jd_lease D__is_lease S JT JN JHa JC
  have JLs := jw_leases D__are_leases S JLe D_is_ascending
  have JK := jw_kept D__are_kept S JM JA JHs JBs
  have JTb0 := jw_table D_is_table S N2 JT JC JLs JSt JV JM JK
  have JTb := jw_sm5 JTb0
  have JNs := jw_names D_is_names S JN D_is_ascending
  have JIs := jw_ids D_is_ids S JId D_is_ascending
  have GCs := ok_counts D_is_counts S JC
  have GLot : FnOk P wd K mg base CX0 7 f__is_lot d__is_lot ["kind", "thing"] (spPk C gLot) := by apply ok_lot <;> assumption
  have GPk : FnOk P wd K mg base CX0 8 f_is_part d_is_part ["kind", "thing"] (spPk C gPart) := by apply ok_partK <;> assumption
  have GPs : FnOk P wd K mg base CX0 9 f_are_parts d_are_parts ["kinds", "things"] (spPks K C) := by apply ok_partsK <;> assumption
  have JMa : Jd P wd K mg base C 3 "is_machine" "thing" f_is_machine d_is_machine gMach := by apply jd_machine <;> assumption
  have GTold : FnOk P wd K mg base CX0 10 f__is_told d__is_told ["to", "by", "word", "rest"] (spTold C thT toT amT) := ok_told D__is_told T0 T1 T2 (by decide +kernel) (by decide +kernel) (by decide +kernel) D_are_parts GPs
  have JLet : Jw P wd K mg base C 11 "is_letter" "thing" f_is_letter d_is_letter Sm (gLetter thT toT amT) := jw_letter D_is_letter S JT JMa JC D__is_told GTold
  -- what the home answers
  have GCa : FnOk P wd K mg base CX0 3 f__carried d__carried ["table", "word", "epoch", "members"] (spCar C) := ok_carried D__carried N2 B D_led_by D_led_ids
  have GAh : FnOk P wd K mg base CX0 4 f__ahead_of_hand d__ahead_of_hand ["table", "word", "epoch"] (spAh C) := ok_ahead D__ahead_of_hand N2 D__carried GCa
  have GSe : FnOk P wd K mg base CX0 4 f__seal d__seal ["table", "hand", "talk", "rest"] (spDoA C PreSe oSeal) := ok_seal D__seal N2 L.bany D_is_leased D__carried GCa
  have GWH : FnOk P wd K mg base CX0 5 f__with_hand d__with_hand ["table", "hand", "talk", "word", "rest"] (spWH4 C) := ok_withHand4 D__with_hand N2 gW k__seal D__seal.F.kp D__seal.b GSe D__ahead_of_hand GAh D__carried GCa
  have GAd : FnOk P wd K mg base CX0 6 f_answered d_answered ["home", "table", "letter"] (spAns4 K C) := ok_answered4 D_answered B T2.g T2.kd (fun z hz => (T2.ns z).2 (by
    revert z
    decide +kernel)) D__with_hand GWH
  have GAn : FnOk P wd K mg base CX0 12 f_answer d_answer ["home", "table", "letter"] (spAnswer4 K C thT toT amT) := ok_answer4 D_answer JH JTb JLet D_answered GAd
  -- behind
  have JDe : Jw P wd K mg base C 10 "is_deed" "thing" f_is_deed d_is_deed Sm (gDeed dT) := jw_deed D_is_deed S T3 (by decide +kernel) JTb D_are_parts GPs
  have GLe : FnOk P wd K mg base CX0 1 f_lets d_lets ["table", "deed"] (spLets5 K) := ok_lets5 D_lets N2 gB tB
  have GD1 := ok_done5 D_done gG k__installed D__installed.F.kp D__installed.b ((ok_inst5 (P := P) (wd := wd) (base := base) (C := C) D__installed N2).mono (by decide))
  have GD2 := ok_done5 D_done gG k__sealed D__sealed.F.kp D__sealed.b ((ok_sealed5 (P := P) (wd := wd) (base := base) (C := C) D__sealed N2 D_changed).mono (by decide))
  have GBe : FnOk P wd K mg base CX0 11 f_behind d_behind ["table", "deed"] (spBeh14 C) := ok_beh14 (ok_behL D_behind JTb JDe D_lets GLe D_done GD1) (ok_behL D_behind JTb JDe D_lets GLe D_done GD2)
  -- the law's makers
  have D : Dd P wd K mg base f__law_draw d__law_draw := ⟨ok_draw D__law_draw.F B, D__law_draw.g, D__law_draw.F.kp, D__law_draw.b⟩
  have GH : FnOk P wd K mg base CX0 1 f__law_hat d__law_hat ["cell", "k"] spHat := ok_hat D__law_hat.F B
  have GSa : FnOk P wd K mg base CX0 10 f__law_same d__law_same ["actual", "due"] (spAl K C 10) := ok_sameH D__law_same S Z 10
  have GNm := ok_nameH D__law_name.F B D
  have GId := ok_idH (C := C) D__law_id.F D
  have GPi := ok_pieceH (C := C) D__law_piece.F B D
  have GSt := ok_stampH (C := C) D__law_stamp.F D
  have GMe := ok_memH (C := C) D__law_members.F B D
  have GRw := ok_rowH (C := C) D__law_row.F B D
  have GHs := ok_headsH D__law_heads.F B Z D D__law_stamp GSt D__law_row GRw
  have GBl := ok_blocksH D__law_blocks.F B Z D D__law_piece GPi
  have GLs := ok_leasesH (C := C) D__law_leases.F B Z B.max D
  have GTa := ok_tableH D__law_table.F B D D__law_members GMe D__law_stamp GSt D__law_leases GLs D__law_heads GHs D__law_blocks GBl
  have GRs := ok_rs14 D__law_rest.F B D D__law_piece GPi D__law_stamp GSt D__law_row GRw D__law_members GMe D__law_heads GHs D__law_blocks GBl
  have GDu := ok_du14 (P := P) (wd := wd) (K := K) (mg := mg) (base := base) (C := C) D__law_due.F B D__law_led
  have GLb := ok_lb14 (P := P) (wd := wd) (K := K) (mg := mg) (base := base) (C := C) D__law_behind.F
  have GBg := ok_bg14 D__law_begin.F D D__law_members GMe D__law_table GTa
  have GWd := ok_wd14 (C := C) D__law_word.F D
  have GAk := ok_ak14 D__law_asked.F D__law_due GDu D__law_same GSa D_answer GAn
  have GOn := ok_one14 D__law_one.F B B.max D D__law_name GNm D__law_id GId D__law_begin GBg D__law_word GWd D__law_rest GRs D__law_asked GAk D__law_due GDu D__law_behind GLb D__law_same GSa D_behind GBe
  exact ok_lawH F B D__law_hat GH D__law_one GOn
end
end Hs
namespace Hs
open PySem PySem.Spec PyProof.Rows L2
section
variable {K : PySem.W.Frag} {h : Heap} {mg : Str → Option Value}
theorem df_mk {x : Str} {st : Stmt} {ps : List Str} {f : Addr} {oc : Value} {od an : Option Addr} {sl : Array (Option Value)} {kV dc pm cd ct : Value} (X : K.In h) (G : h.Ns mainGlobals mg)
    (a : PySem.W.nsIn K mainGlobals x = some (some (.ref f))) (l : K.lookup f = some ⟨oc, od, .func (PySem.W.fnOf x x (defArgs st) (defBody st) (defScope st) .none kV dc pm an cd ct), sl⟩) (c : PySem.W.codeIn K cd x = true) (k : PySem.W.keepIn K (.ref f) = true)
    (b : ∀ (kV doc pm : Value) (an : Option Addr) (cdv ct : Value) (us : List Value), us.length = ps.length → bindArgs (PySem.W.fnOf x x (defArgs st) (defBody st) (defScope st) .none kV doc pm an cdv ct) ⟨us, []⟩ = pure (ps.zip us)) :
    Df K mg x st ps f (PySem.W.fnOf x x (defArgs st) (defBody st) (defScope st) .none kV dc pm an cd ct) := by
  have F := fun_mk (st := st) l c k
  exact ⟨F, F.binds b, PySem.W.mg_of X G a⟩
theorem gh_mk {x : Str} {C : Addr} (X : K.In h) (G : h.Ns mainGlobals mg) (a : PySem.W.nsIn K mainGlobals x = some (some (.ref C))) : mg x = some (.ref C) := PySem.W.mg_of X G a
theorem gi_mk {x : Str} {n : Int} {t : Tok} (X : K.In h) (G : h.Ns mainGlobals mg) (a : PySem.W.nsIn K mainGlobals x = some (some (.int n t))) : ∃ t, mg x = some (.int n t) := ⟨t, PySem.W.mg_of X G a⟩
theorem gn_mk {x : Str} (X : K.In h) (G : h.Ns mainGlobals mg) (a : PySem.W.nsIn K mainGlobals x = some none) : mg x = none := PySem.W.mg_none_of X G a
theorem xc_mk {x : Str} {C : Addr} {nm : Str} {oc : Obj} {cd : ClassData} (X : K.In h) (G : h.Ns mainGlobals mg) (a : PySem.W.nsIn K mainGlobals x = some (some (.ref C)))
    (q : PySem.W.excIn K C [.type "ValueError", .type "Exception", .type "BaseException", .type "object"] "ValueError.__new__" = true) (k : PySem.W.keepIn K (.ref C) = true)
    (c1 : PySem.W.findIn K (.ref C) "__getattribute__" = some (some (.builtin "BaseException.__getattribute__"))) (c2 : PySem.W.findIn K (.ref C) "__getattr__" = some none) (c3 : PySem.W.subIn K (.ref C) (.type "BaseException") = some true) (c4 : PySem.W.hasDictIn K C = true)
    (c5 : PySem.W.findIn K (.ref C) "__class__" = some (some (.builtin "object.__class__"))) (c6 : PySem.W.specialIn K (.builtin "object.__class__") "__get__" = some (some (.builtin "getset_descriptor.__get__"))) (c7 : PySem.W.takesIn K (.builtin "object.__class__") = some true) (c8 : PySem.W.mroIn K C (.type "object") = some true)
    (r1 : K.lookup C = some oc) (r2 : oc.data = .cls cd) (r3 : Str.ofString ((cd.name.toString.cutAt '.').getLastD "") = nm) (r4 : PySem.W.findIn K (.ref C) "__repr__" = some (some (.builtin "BaseException.__repr__")))
    (ki : PySem.W.kitOne K (.ref C) (.type "int") = some false) (kb : PySem.W.kitOne K (.ref C) (.type "bool") = some false) (ks : PySem.W.kitOne K (.ref C) (.type "str") = some false) (kt : PySem.W.kitOne K (.ref C) (.type "tuple") = some false) : Hu.Xc K mg x C nm :=
  ⟨PySem.W.mg_of X G a, q, k, ⟨c1, c2, c3, c4, c5, c6, c7, c8⟩, ⟨⟨oc, cd, r1, r2, r3⟩, r4, c3⟩, ki, kb, ks, kt⟩
theorem tk0_mk {p : Addr} {od : Option Addr} {n : Nat} {sl : Array (Option Value)} (l : K.lookup p = some ⟨.type "tuple", od, .seq #[] n, sl⟩) : TupK K p [] :=
  fun H => .inr ⟨_, _, _, l, rfl, rfl, by show (0 : Nat) ≤ sizeLine; decide, .nil⟩
theorem tk1_mk {p : Addr} {od : Option Addr} {z0 : Str} {t0 : Tok} {n : Nat} {sl : Array (Option Value)} (l : K.lookup p = some ⟨.type "tuple", od, .seq #[.str z0 t0] n, sl⟩) : TupK K p [z0] :=
  fun H => .inr ⟨_, _, _, l, rfl, rfl, by show (1 : Nat) ≤ sizeLine; decide, .cons ⟨_, rfl⟩ (.nil)⟩
theorem tk2_mk {p : Addr} {od : Option Addr} {z0 z1 : Str} {t0 t1 : Tok} {n : Nat} {sl : Array (Option Value)} (l : K.lookup p = some ⟨.type "tuple", od, .seq #[.str z0 t0, .str z1 t1] n, sl⟩) : TupK K p [z0, z1] :=
  fun H => .inr ⟨_, _, _, l, rfl, rfl, by show (2 : Nat) ≤ sizeLine; decide, .cons ⟨_, rfl⟩ (.cons ⟨_, rfl⟩ (.nil))⟩
theorem tk3_mk {p : Addr} {od : Option Addr} {z0 z1 z2 : Str} {t0 t1 t2 : Tok} {n : Nat} {sl : Array (Option Value)} (l : K.lookup p = some ⟨.type "tuple", od, .seq #[.str z0 t0, .str z1 t1, .str z2 t2] n, sl⟩) : TupK K p [z0, z1, z2] :=
  fun H => .inr ⟨_, _, _, l, rfl, rfl, by show (3 : Nat) ≤ sizeLine; decide, .cons ⟨_, rfl⟩ (.cons ⟨_, rfl⟩ (.cons ⟨_, rfl⟩ (.nil)))⟩
theorem tk4_mk {p : Addr} {od : Option Addr} {z0 z1 z2 z3 : Str} {t0 t1 t2 t3 : Tok} {n : Nat} {sl : Array (Option Value)} (l : K.lookup p = some ⟨.type "tuple", od, .seq #[.str z0 t0, .str z1 t1, .str z2 t2, .str z3 t3] n, sl⟩) : TupK K p [z0, z1, z2, z3] :=
  fun H => .inr ⟨_, _, _, l, rfl, rfl, by show (4 : Nat) ≤ sizeLine; decide, .cons ⟨_, rfl⟩ (.cons ⟨_, rfl⟩ (.cons ⟨_, rfl⟩ (.cons ⟨_, rfl⟩ (.nil))))⟩
theorem tk5_mk {p : Addr} {od : Option Addr} {z0 z1 z2 z3 z4 : Str} {t0 t1 t2 t3 t4 : Tok} {n : Nat} {sl : Array (Option Value)} (l : K.lookup p = some ⟨.type "tuple", od, .seq #[.str z0 t0, .str z1 t1, .str z2 t2, .str z3 t3, .str z4 t4] n, sl⟩) : TupK K p [z0, z1, z2, z3, z4] :=
  fun H => .inr ⟨_, _, _, l, rfl, rfl, by show (5 : Nat) ≤ sizeLine; decide, .cons ⟨_, rfl⟩ (.cons ⟨_, rfl⟩ (.cons ⟨_, rfl⟩ (.cons ⟨_, rfl⟩ (.cons ⟨_, rfl⟩ (.nil)))))⟩
theorem ktab_mk {w : World} {a : Addr} {es : Array DictEntry} {n : Nat} {x : Str} {tab : List (Str × List Str)} (X : K.In h) (G : h.Ns mainGlobals mg) (g : PySem.W.nsIn K mainGlobals x = some (some (.ref a))) (l : K.lookup a = some ⟨.type "dict", none, .dict es n, #[]⟩)
    (lit : PySem.W.KeysLit w.params es.toList) (low : (a == sysModules) = false) (r : Rws K es.toList tab) : ∃ (a : Addr) (es : Array DictEntry) (n : Nat), KTab K w mg x tab a es n :=
  ⟨a, es, n, PySem.W.mg_of X G g, ⟨l, lit, low⟩, r⟩
theorem kd_mk {w : World} {a f : Addr} {x : Str} {es : Array DictEntry} {n : Nat} (X : K.In h) (l : K.lookup a = some ⟨.type "dict", none, .dict es n, #[]⟩) (lit : PySem.W.KeysLit w.params es.toList) (e : PySem.W.nsIn K a x = some (some (.ref f))) : KDct K w a x (.ref f) :=
  ⟨es, n, _, l, lit, e, rfl⟩
theorem bd_mk {p : Addr} (X : K.In h) (G : h.Ns mainGlobals mg) (g : PySem.W.nsIn K mainGlobals "BARE_DEEDS" = some (some (.ref p))) (t : TupK K p bareDs) : ∃ a, mg "BARE_DEEDS" = some (.ref a) ∧ TupK K a bareDs := ⟨p, PySem.W.mg_of X G g, t⟩
theorem eqx_mk {C : Addr} (X : K.In h) (m : PySem.W.mroIn K C (.type "object") = some true) (e : PySem.W.findIn K (.ref C) "__eq__" = some (some (.builtin "object.__eq__"))) (t : PySem.W.subIn K (.ref C) (.type "tuple") = some false) : Eqx K C := ⟨m, e, t⟩
theorem law_mkH {l : PySem.W.OpenLaw} {w : World} {f fa : Addr} {oc : Value} {od an : Option Addr} {sl : Array (Option Value)} {kV dc pm cd ct : Value} (X : K.In h) (G : h.Ns mainGlobals mg) (hfa : mg "law" = some (.ref fa))
    (a : PySem.W.nsIn K mainGlobals "law" = some (some (.ref f))) (lk : K.lookup f = some ⟨oc, od, .func (PySem.W.fnOf "law" "law" (defArgs lLawH) (defBody lLawH) (defScope lLawH) .none kV dc pm an cd ct), sl⟩) (c : PySem.W.codeIn K cd "law" = true) (k : PySem.W.keepIn K (.ref f) = true)
    (A0 : La K w mg) :
    ∃ fd : FuncData, (∀ (s : Shared) (v : Value), BindsTo s fd ⟨[v], []⟩ [("script", v)]) ∧ ∀ base : Heap, K.In base → base.Ns mainGlobals mg → FnOk l.prog w K mg base CX0 15 fa fd ["script"] (spLawH K) := by
  have e := hfa.symm.trans (PySem.W.mg_of X G a)
  cases e
  exact ⟨PySem.W.fnOf "law" "law" (defArgs lLawH) (defBody lLawH) (defScope lLawH) .none kV dc pm an cd ct, fun s v => .of_eq rfl, fun base _ _ => ok_all (fun_mk (st := lLawH) lk c k) A0⟩
end
end Hs
open PySem PySem.W PyProof.Rows
set_option maxRecDepth 100000 in
set_option maxHeartbeats 0 in
theorem PySem.Challenge.cw_homeshold_k14_epochs_and_seals_holds : PySem.Challenge.rw_homeshold_k14_epochs_and_seals.Holds := by
  refine TOP ?_
  k_fill
  refine L2.walk_of (l := PySem.Challenge.rw_homeshold_k14_epochs_and_seals) (n := 63) (k := 15) (x := "script") (CX := fun _ => L2.CX0) (sp := fun w => Hs.spLawH _) rfl (by decide) rfl ⟨rfl, by decide, by decide⟩ (fun w h Y => PySem.W.kIn_of Y) ?F (fun _ _ a ns hl _ hS => ⟨a, ns, rfl, hS, hl, fun _ => rfl⟩) (fun _ _ _ _ _ h => h)
  case F =>
    intro w mg fa h KX G hmg
    obtain his_integer : ∃ f fd, Hs.Df _ mg "is_integer" Hs.sIsInt ["thing"] f fd := by
      refine' ⟨_, _, Hs.df_mk KX G ?a ?l ?c ?k (fun _ _ _ _ _ _ us hl => match us, hl with | [_], _ => rfl)⟩
      (case a => k_is); (case l => k_is); (case c => k_is); (case k => k_is)
    obtain his_from_one : ∃ f fd, Hs.Df _ mg "is_from_one" Hs.sFromOne ["thing"] f fd := by
      refine' ⟨_, _, Hs.df_mk KX G ?a ?l ?c ?k (fun _ _ _ _ _ _ us hl => match us, hl with | [_], _ => rfl)⟩
      (case a => k_is); (case l => k_is); (case c => k_is); (case k => k_is)
    obtain his_pair : ∃ f fd, Hs.Df _ mg "is_pair" Hs.sPair ["thing"] f fd := by
      refine' ⟨_, _, Hs.df_mk KX G ?a ?l ?c ?k (fun _ _ _ _ _ _ us hl => match us, hl with | [_], _ => rfl)⟩
      (case a => k_is); (case l => k_is); (case c => k_is); (case k => k_is)
    obtain his_signs : ∃ f fd, Hs.Df _ mg "is_signs" Hs.sIsSigns ["thing"] f fd := by
      refine' ⟨_, _, Hs.df_mk KX G ?a ?l ?c ?k (fun _ _ _ _ _ _ us hl => match us, hl with | [_], _ => rfl)⟩
      (case a => k_is); (case l => k_is); (case c => k_is); (case k => k_is)
    obtain his_ascending : ∃ f fd, Hs.Df _ mg "is_ascending" Hs.sAscending ["things"] f fd := by
      refine' ⟨_, _, Hs.df_mk KX G ?a ?l ?c ?k (fun _ _ _ _ _ _ us hl => match us, hl with | [_], _ => rfl)⟩
      (case a => k_is); (case l => k_is); (case c => k_is); (case k => k_is)
    obtain his_home : ∃ f fd, Hs.Df _ mg "is_home" Hs.sHome ["thing"] f fd := by
      refine' ⟨_, _, Hs.df_mk KX G ?a ?l ?c ?k (fun _ _ _ _ _ _ us hl => match us, hl with | [_], _ => rfl)⟩
      (case a => k_is); (case l => k_is); (case c => k_is); (case k => k_is)
    obtain his_hand : ∃ f fd, Hs.Df _ mg "is_hand" Hs.sHand ["thing"] f fd := by
      refine' ⟨_, _, Hs.df_mk KX G ?a ?l ?c ?k (fun _ _ _ _ _ _ us hl => match us, hl with | [_], _ => rfl)⟩
      (case a => k_is); (case l => k_is); (case c => k_is); (case k => k_is)
    obtain his_name : ∃ f fd, Hs.Df _ mg "is_name" Hs.sName ["thing"] f fd := by
      refine' ⟨_, _, Hs.df_mk KX G ?a ?l ?c ?k (fun _ _ _ _ _ _ us hl => match us, hl with | [_], _ => rfl)⟩
      (case a => k_is); (case l => k_is); (case c => k_is); (case k => k_is)
    obtain his_piece : ∃ f fd, Hs.Df _ mg "is_piece" Hs.sPiece ["thing"] f fd := by
      refine' ⟨_, _, Hs.df_mk KX G ?a ?l ?c ?k (fun _ _ _ _ _ _ us hl => match us, hl with | [_], _ => rfl)⟩
      (case a => k_is); (case l => k_is); (case c => k_is); (case k => k_is)
    obtain his_block_id : ∃ f fd, Hs.Df _ mg "is_block_id" Hs.sBlockId ["thing"] f fd := by
      refine' ⟨_, _, Hs.df_mk KX G ?a ?l ?c ?k (fun _ _ _ _ _ _ us hl => match us, hl with | [_], _ => rfl)⟩
      (case a => k_is); (case l => k_is); (case c => k_is); (case k => k_is)
    obtain his_row : ∃ f fd, Hs.Df _ mg "is_row" Hs.sRow ["thing"] f fd := by
      refine' ⟨_, _, Hs.df_mk KX G ?a ?l ?c ?k (fun _ _ _ _ _ _ us hl => match us, hl with | [_], _ => rfl)⟩
      (case a => k_is); (case l => k_is); (case c => k_is); (case k => k_is)
    obtain his_stamp : ∃ f fd, Hs.Df _ mg "is_stamp" Hs.sStamp ["thing"] f fd := by
      refine' ⟨_, _, Hs.df_mk KX G ?a ?l ?c ?k (fun _ _ _ _ _ _ us hl => match us, hl with | [_], _ => rfl)⟩
      (case a => k_is); (case l => k_is); (case c => k_is); (case k => k_is)
    obtain his_members : ∃ f fd, Hs.Df _ mg "is_members" Hs.sMembers ["thing"] f fd := by
      refine' ⟨_, _, Hs.df_mk KX G ?a ?l ?c ?k (fun _ _ _ _ _ _ us hl => match us, hl with | [_], _ => rfl)⟩
      (case a => k_is); (case l => k_is); (case c => k_is); (case k => k_is)
    obtain his_count : ∃ f fd, Hs.Df _ mg "is_count" Hs.sCount ["thing"] f fd := by
      refine' ⟨_, _, Hs.df_mk KX G ?a ?l ?c ?k (fun _ _ _ _ _ _ us hl => match us, hl with | [_], _ => rfl)⟩
      (case a => k_is); (case l => k_is); (case c => k_is); (case k => k_is)
    obtain his_tuple_of : ∃ f fd, Hs.Df _ mg "is_tuple_of" Hs.sTO ["many", "thing"] f fd := by
      refine' ⟨_, _, Hs.df_mk KX G ?a ?l ?c ?k (fun _ _ _ _ _ _ us hl => match us, hl with | [_, _], _ => rfl)⟩
      (case a => k_is); (case l => k_is); (case c => k_is); (case k => k_is)
    obtain his_ahead : ∃ f fd, Hs.Df _ mg "is_ahead" Hs.sAhead ["thing"] f fd := by
      refine' ⟨_, _, Hs.df_mk KX G ?a ?l ?c ?k (fun _ _ _ _ _ _ us hl => match us, hl with | [_], _ => rfl)⟩
      (case a => k_is); (case l => k_is); (case c => k_is); (case k => k_is)
    obtain his_vote : ∃ f fd, Hs.Df _ mg "is_vote" Hs.sVote ["thing"] f fd := by
      refine' ⟨_, _, Hs.df_mk KX G ?a ?l ?c ?k (fun _ _ _ _ _ _ us hl => match us, hl with | [_], _ => rfl)⟩
      (case a => k_is); (case l => k_is); (case c => k_is); (case k => k_is)
    obtain his_heads : ∃ f fd, Hs.Df _ mg "is_heads" Hs.sHeads ["thing"] f fd := by
      refine' ⟨_, _, Hs.df_mk KX G ?a ?l ?c ?k (fun _ _ _ _ _ _ us hl => match us, hl with | [_], _ => rfl)⟩
      (case a => k_is); (case l => k_is); (case c => k_is); (case k => k_is)
    obtain h_is_named_head : ∃ f fd, Hs.Df _ mg "_is_named_head" Hs.sNamed ["thing"] f fd := by
      refine' ⟨_, _, Hs.df_mk KX G ?a ?l ?c ?k (fun _ _ _ _ _ _ us hl => match us, hl with | [_], _ => rfl)⟩
      (case a => k_is); (case l => k_is); (case c => k_is); (case k => k_is)
    obtain his_blocks : ∃ f fd, Hs.Df _ mg "is_blocks" Hs.sBlocks ["thing"] f fd := by
      refine' ⟨_, _, Hs.df_mk KX G ?a ?l ?c ?k (fun _ _ _ _ _ _ us hl => match us, hl with | [_], _ => rfl)⟩
      (case a => k_is); (case l => k_is); (case c => k_is); (case k => k_is)
    obtain h_is_block : ∃ f fd, Hs.Df _ mg "_is_block" Hs.sBlk ["thing"] f fd := by
      refine' ⟨_, _, Hs.df_mk KX G ?a ?l ?c ?k (fun _ _ _ _ _ _ us hl => match us, hl with | [_], _ => rfl)⟩
      (case a => k_is); (case l => k_is); (case c => k_is); (case k => k_is)
    obtain his_names : ∃ f fd, Hs.Df _ mg "is_names" Hs.sNames ["thing"] f fd := by
      refine' ⟨_, _, Hs.df_mk KX G ?a ?l ?c ?k (fun _ _ _ _ _ _ us hl => match us, hl with | [_], _ => rfl)⟩
      (case a => k_is); (case l => k_is); (case c => k_is); (case k => k_is)
    obtain his_ids : ∃ f fd, Hs.Df _ mg "is_ids" Hs.sIds ["thing"] f fd := by
      refine' ⟨_, _, Hs.df_mk KX G ?a ?l ?c ?k (fun _ _ _ _ _ _ us hl => match us, hl with | [_], _ => rfl)⟩
      (case a => k_is); (case l => k_is); (case c => k_is); (case k => k_is)
    obtain his_counts : ∃ f fd, Hs.Df _ mg "is_counts" Hs.sCounts ["thing", "most"] f fd := by
      refine' ⟨_, _, Hs.df_mk KX G ?a ?l ?c ?k (fun _ _ _ _ _ _ us hl => match us, hl with | [_, _], _ => rfl)⟩
      (case a => k_is); (case l => k_is); (case c => k_is); (case k => k_is)
    obtain his_part : ∃ f fd, Hs.Df _ mg "is_part" Hs.sPart ["kind", "thing"] f fd := by
      refine' ⟨_, _, Hs.df_mk KX G ?a ?l ?c ?k (fun _ _ _ _ _ _ us hl => match us, hl with | [_, _], _ => rfl)⟩
      (case a => k_is); (case l => k_is); (case c => k_is); (case k => k_is)
    obtain h_is_lot : ∃ f fd, Hs.Df _ mg "_is_lot" Hs.sLot ["kind", "thing"] f fd := by
      refine' ⟨_, _, Hs.df_mk KX G ?a ?l ?c ?k (fun _ _ _ _ _ _ us hl => match us, hl with | [_, _], _ => rfl)⟩
      (case a => k_is); (case l => k_is); (case c => k_is); (case k => k_is)
    obtain hare_parts : ∃ f fd, Hs.Df _ mg "are_parts" Hs.sParts ["kinds", "things"] f fd := by
      refine' ⟨_, _, Hs.df_mk KX G ?a ?l ?c ?k (fun _ _ _ _ _ _ us hl => match us, hl with | [_, _], _ => rfl)⟩
      (case a => k_is); (case l => k_is); (case c => k_is); (case k => k_is)
    obtain his_machine : ∃ f fd, Hs.Df _ mg "is_machine" Hs.sMachine ["thing"] f fd := by
      refine' ⟨_, _, Hs.df_mk KX G ?a ?l ?c ?k (fun _ _ _ _ _ _ us hl => match us, hl with | [_], _ => rfl)⟩
      (case a => k_is); (case l => k_is); (case c => k_is); (case k => k_is)
    obtain h_is_told : ∃ f fd, Hs.Df _ mg "_is_told" Hs.sTold ["to", "by", "word", "rest"] f fd := by
      refine' ⟨_, _, Hs.df_mk KX G ?a ?l ?c ?k (fun _ _ _ _ _ _ us hl => match us, hl with | [_, _, _, _], _ => rfl)⟩
      (case a => k_is); (case l => k_is); (case c => k_is); (case k => k_is)
    obtain his_letter : ∃ f fd, Hs.Df _ mg "is_letter" Hs.sLetter ["thing"] f fd := by
      refine' ⟨_, _, Hs.df_mk KX G ?a ?l ?c ?k (fun _ _ _ _ _ _ us hl => match us, hl with | [_], _ => rfl)⟩
      (case a => k_is); (case l => k_is); (case c => k_is); (case k => k_is)
    obtain h_are_leases : ∃ f fd, Hs.Df _ mg "_are_leases" Hs.sLeases ["thing"] f fd := by
      refine' ⟨_, _, Hs.df_mk KX G ?a ?l ?c ?k (fun _ _ _ _ _ _ us hl => match us, hl with | [_], _ => rfl)⟩
      (case a => k_is); (case l => k_is); (case c => k_is); (case k => k_is)
    obtain h_is_lease : ∃ f fd, Hs.Df _ mg "_is_lease" Hs.sLease ["thing"] f fd := by
      refine' ⟨_, _, Hs.df_mk KX G ?a ?l ?c ?k (fun _ _ _ _ _ _ us hl => match us, hl with | [_], _ => rfl)⟩
      (case a => k_is); (case l => k_is); (case c => k_is); (case k => k_is)
    obtain h_are_kept : ∃ f fd, Hs.Df _ mg "_are_kept" Hs.sKept ["parts"] f fd := by
      refine' ⟨_, _, Hs.df_mk KX G ?a ?l ?c ?k (fun _ _ _ _ _ _ us hl => match us, hl with | [_], _ => rfl)⟩
      (case a => k_is); (case l => k_is); (case c => k_is); (case k => k_is)
    obtain his_table : ∃ f fd, Hs.Df _ mg "is_table" Hs.sTable ["thing"] f fd := by
      refine' ⟨_, _, Hs.df_mk KX G ?a ?l ?c ?k (fun _ _ _ _ _ _ us hl => match us, hl with | [_], _ => rfl)⟩
      (case a => k_is); (case l => k_is); (case c => k_is); (case k => k_is)
    obtain his_deed : ∃ f fd, Hs.Df _ mg "is_deed" Hs.sDeed3 ["thing"] f fd := by
      refine' ⟨_, _, Hs.df_mk KX G ?a ?l ?c ?k (fun _ _ _ _ _ _ us hl => match us, hl with | [_], _ => rfl)⟩
      (case a => k_is); (case l => k_is); (case c => k_is); (case k => k_is)
    obtain hchanged : ∃ f fd, Hs.Df _ mg "changed" Hs.sChanged3 ["table", "at", "part"] f fd := by
      refine' ⟨_, _, Hs.df_mk KX G ?a ?l ?c ?k (fun _ _ _ _ _ _ us hl => match us, hl with | [_, _, _], _ => rfl)⟩
      (case a => k_is); (case l => k_is); (case c => k_is); (case k => k_is)
    obtain hlets : ∃ f fd, Hs.Df _ mg "lets" Hs.sLets3 ["table", "deed"] f fd := by
      refine' ⟨_, _, Hs.df_mk KX G ?a ?l ?c ?k (fun _ _ _ _ _ _ us hl => match us, hl with | [_, _], _ => rfl)⟩
      (case a => k_is); (case l => k_is); (case c => k_is); (case k => k_is)
    obtain hdone : ∃ f fd, Hs.Df _ mg "done" Hs.sDone3 ["table", "deed"] f fd := by
      refine' ⟨_, _, Hs.df_mk KX G ?a ?l ?c ?k (fun _ _ _ _ _ _ us hl => match us, hl with | [_, _], _ => rfl)⟩
      (case a => k_is); (case l => k_is); (case c => k_is); (case k => k_is)
    obtain hbehind : ∃ f fd, Hs.Df _ mg "behind" Hs.sBehind3 ["table", "deed"] f fd := by
      refine' ⟨_, _, Hs.df_mk KX G ?a ?l ?c ?k (fun _ _ _ _ _ _ us hl => match us, hl with | [_, _], _ => rfl)⟩
      (case a => k_is); (case l => k_is); (case c => k_is); (case k => k_is)
    obtain hled_ids : ∃ f fd, Hs.Df _ mg "led_ids" Hs.sLedIds ["heads"] f fd := by
      refine' ⟨_, _, Hs.df_mk KX G ?a ?l ?c ?k (fun _ _ _ _ _ _ us hl => match us, hl with | [_], _ => rfl)⟩
      (case a => k_is); (case l => k_is); (case c => k_is); (case k => k_is)
    obtain hled_by : ∃ f fd, Hs.Df _ mg "led_by" Hs.sLedBy ["heads", "blocks"] f fd := by
      refine' ⟨_, _, Hs.df_mk KX G ?a ?l ?c ?k (fun _ _ _ _ _ _ us hl => match us, hl with | [_, _], _ => rfl)⟩
      (case a => k_is); (case l => k_is); (case c => k_is); (case k => k_is)
    obtain his_leased : ∃ f fd, Hs.Df _ mg "is_leased" Hs.sIsLeased ["table", "name", "but"] f fd := by
      refine' ⟨_, _, Hs.df_mk KX G ?a ?l ?c ?k (fun _ _ _ _ _ _ us hl => match us, hl with | [_, _, _], _ => rfl)⟩
      (case a => k_is); (case l => k_is); (case c => k_is); (case k => k_is)
    obtain h_carried : ∃ f fd, Hs.Df _ mg "_carried" Hs.sCarried ["table", "word", "epoch", "members"] f fd := by
      refine' ⟨_, _, Hs.df_mk KX G ?a ?l ?c ?k (fun _ _ _ _ _ _ us hl => match us, hl with | [_, _, _, _], _ => rfl)⟩
      (case a => k_is); (case l => k_is); (case c => k_is); (case k => k_is)
    obtain h_ahead_of_hand : ∃ f fd, Hs.Df _ mg "_ahead_of_hand" Hs.sAhOf ["table", "word", "epoch"] f fd := by
      refine' ⟨_, _, Hs.df_mk KX G ?a ?l ?c ?k (fun _ _ _ _ _ _ us hl => match us, hl with | [_, _, _], _ => rfl)⟩
      (case a => k_is); (case l => k_is); (case c => k_is); (case k => k_is)
    obtain h_with_hand : ∃ f fd, Hs.Df _ mg "_with_hand" Hs.sWithHand ["table", "hand", "talk", "word", "rest"] f fd := by
      refine' ⟨_, _, Hs.df_mk KX G ?a ?l ?c ?k (fun _ _ _ _ _ _ us hl => match us, hl with | [_, _, _, _, _], _ => rfl)⟩
      (case a => k_is); (case l => k_is); (case c => k_is); (case k => k_is)
    obtain hanswered : ∃ f fd, Hs.Df _ mg "answered" Hs.sAnswered ["home", "table", "letter"] f fd := by
      refine' ⟨_, _, Hs.df_mk KX G ?a ?l ?c ?k (fun _ _ _ _ _ _ us hl => match us, hl with | [_, _, _], _ => rfl)⟩
      (case a => k_is); (case l => k_is); (case c => k_is); (case k => k_is)
    obtain hanswer : ∃ f fd, Hs.Df _ mg "answer" Hs.sAnswer ["home", "table", "letter"] f fd := by
      refine' ⟨_, _, Hs.df_mk KX G ?a ?l ?c ?k (fun _ _ _ _ _ _ us hl => match us, hl with | [_, _, _], _ => rfl)⟩
      (case a => k_is); (case l => k_is); (case c => k_is); (case k => k_is)
    obtain h_law_hat : ∃ f fd, Hs.Df _ mg "_law_hat" Hs.lHat ["cell", "k"] f fd := by
      refine' ⟨_, _, Hs.df_mk KX G ?a ?l ?c ?k (fun _ _ _ _ _ _ us hl => match us, hl with | [_, _], _ => rfl)⟩
      (case a => k_is); (case l => k_is); (case c => k_is); (case k => k_is)
    obtain h_law_draw : ∃ f fd, Hs.Df _ mg "_law_draw" Hs.sDraw ["hat", "many"] f fd := by
      refine' ⟨_, _, Hs.df_mk KX G ?a ?l ?c ?k (fun _ _ _ _ _ _ us hl => match us, hl with | [_, _], _ => rfl)⟩
      (case a => k_is); (case l => k_is); (case c => k_is); (case k => k_is)
    obtain h_law_same : ∃ f fd, Hs.Df _ mg "_law_same" Hs.lSameH ["actual", "due"] f fd := by
      refine' ⟨_, _, Hs.df_mk KX G ?a ?l ?c ?k (fun _ _ _ _ _ _ us hl => match us, hl with | [_, _], _ => rfl)⟩
      (case a => k_is); (case l => k_is); (case c => k_is); (case k => k_is)
    obtain h_law_name : ∃ f fd, Hs.Df _ mg "_law_name" Hs.lName ["hat"] f fd := by
      refine' ⟨_, _, Hs.df_mk KX G ?a ?l ?c ?k (fun _ _ _ _ _ _ us hl => match us, hl with | [_], _ => rfl)⟩
      (case a => k_is); (case l => k_is); (case c => k_is); (case k => k_is)
    obtain h_law_id : ∃ f fd, Hs.Df _ mg "_law_id" Hs.lId ["hat"] f fd := by
      refine' ⟨_, _, Hs.df_mk KX G ?a ?l ?c ?k (fun _ _ _ _ _ _ us hl => match us, hl with | [_], _ => rfl)⟩
      (case a => k_is); (case l => k_is); (case c => k_is); (case k => k_is)
    obtain h_law_piece : ∃ f fd, Hs.Df _ mg "_law_piece" Hs.lPieceL ["hat"] f fd := by
      refine' ⟨_, _, Hs.df_mk KX G ?a ?l ?c ?k (fun _ _ _ _ _ _ us hl => match us, hl with | [_], _ => rfl)⟩
      (case a => k_is); (case l => k_is); (case c => k_is); (case k => k_is)
    obtain h_law_stamp : ∃ f fd, Hs.Df _ mg "_law_stamp" Hs.lStamp ["hat"] f fd := by
      refine' ⟨_, _, Hs.df_mk KX G ?a ?l ?c ?k (fun _ _ _ _ _ _ us hl => match us, hl with | [_], _ => rfl)⟩
      (case a => k_is); (case l => k_is); (case c => k_is); (case k => k_is)
    obtain h_law_members : ∃ f fd, Hs.Df _ mg "_law_members" Hs.lMembers ["hat"] f fd := by
      refine' ⟨_, _, Hs.df_mk KX G ?a ?l ?c ?k (fun _ _ _ _ _ _ us hl => match us, hl with | [_], _ => rfl)⟩
      (case a => k_is); (case l => k_is); (case c => k_is); (case k => k_is)
    obtain h_law_row : ∃ f fd, Hs.Df _ mg "_law_row" Hs.lRow ["hat", "pool"] f fd := by
      refine' ⟨_, _, Hs.df_mk KX G ?a ?l ?c ?k (fun _ _ _ _ _ _ us hl => match us, hl with | [_, _], _ => rfl)⟩
      (case a => k_is); (case l => k_is); (case c => k_is); (case k => k_is)
    obtain h_law_heads : ∃ f fd, Hs.Df _ mg "_law_heads" Hs.lHeads ["hat", "names", "pool"] f fd := by
      refine' ⟨_, _, Hs.df_mk KX G ?a ?l ?c ?k (fun _ _ _ _ _ _ us hl => match us, hl with | [_, _, _], _ => rfl)⟩
      (case a => k_is); (case l => k_is); (case c => k_is); (case k => k_is)
    obtain h_law_blocks : ∃ f fd, Hs.Df _ mg "_law_blocks" Hs.lBlocks ["hat", "pool"] f fd := by
      refine' ⟨_, _, Hs.df_mk KX G ?a ?l ?c ?k (fun _ _ _ _ _ _ us hl => match us, hl with | [_, _], _ => rfl)⟩
      (case a => k_is); (case l => k_is); (case c => k_is); (case k => k_is)
    obtain h_law_leases : ∃ f fd, Hs.Df _ mg "_law_leases" Hs.lLeases ["hat", "names", "clock"] f fd := by
      refine' ⟨_, _, Hs.df_mk KX G ?a ?l ?c ?k (fun _ _ _ _ _ _ us hl => match us, hl with | [_, _, _], _ => rfl)⟩
      (case a => k_is); (case l => k_is); (case c => k_is); (case k => k_is)
    obtain h_law_table : ∃ f fd, Hs.Df _ mg "_law_table" Hs.lTableH ["hat", "names", "pool"] f fd := by
      refine' ⟨_, _, Hs.df_mk KX G ?a ?l ?c ?k (fun _ _ _ _ _ _ us hl => match us, hl with | [_, _, _], _ => rfl)⟩
      (case a => k_is); (case l => k_is); (case c => k_is); (case k => k_is)
    obtain h_law_rest : ∃ f fd, Hs.Df _ mg "_law_rest" Hs.lRs14 ["hat", "word", "names", "pool"] f fd := by
      refine' ⟨_, _, Hs.df_mk KX G ?a ?l ?c ?k (fun _ _ _ _ _ _ us hl => match us, hl with | [_, _, _, _], _ => rfl)⟩
      (case a => k_is); (case l => k_is); (case c => k_is); (case k => k_is)
    obtain h_law_led : ∃ f fd, Hs.Df _ mg "_law_led" Hs.lLed ["table"] f fd := by
      refine' ⟨_, _, Hs.df_mk KX G ?a ?l ?c ?k (fun _ _ _ _ _ _ us hl => match us, hl with | [_], _ => rfl)⟩
      (case a => k_is); (case l => k_is); (case c => k_is); (case k => k_is)
    obtain h_law_due : ∃ f fd, Hs.Df _ mg "_law_due" Hs.lDu14 ["table", "word", "rest"] f fd := by
      refine' ⟨_, _, Hs.df_mk KX G ?a ?l ?c ?k (fun _ _ _ _ _ _ us hl => match us, hl with | [_, _, _], _ => rfl)⟩
      (case a => k_is); (case l => k_is); (case c => k_is); (case k => k_is)
    obtain h_law_behind : ∃ f fd, Hs.Df _ mg "_law_behind" Hs.lLb14 ["table", "deed"] f fd := by
      refine' ⟨_, _, Hs.df_mk KX G ?a ?l ?c ?k (fun _ _ _ _ _ _ us hl => match us, hl with | [_, _], _ => rfl)⟩
      (case a => k_is); (case l => k_is); (case c => k_is); (case k => k_is)
    obtain h_law_begin : ∃ f fd, Hs.Df _ mg "_law_begin" Hs.lBg14 ["hat", "names", "pool"] f fd := by
      refine' ⟨_, _, Hs.df_mk KX G ?a ?l ?c ?k (fun _ _ _ _ _ _ us hl => match us, hl with | [_, _, _], _ => rfl)⟩
      (case a => k_is); (case l => k_is); (case c => k_is); (case k => k_is)
    obtain h_law_word : ∃ f fd, Hs.Df _ mg "_law_word" Hs.lWd14 ["hat", "table", "epoch"] f fd := by
      refine' ⟨_, _, Hs.df_mk KX G ?a ?l ?c ?k (fun _ _ _ _ _ _ us hl => match us, hl with | [_, _, _], _ => rfl)⟩
      (case a => k_is); (case l => k_is); (case c => k_is); (case k => k_is)
    obtain h_law_asked : ∃ f fd, Hs.Df _ mg "_law_asked" Hs.lAk14 ["home", "table", "hand", "talk", "word", "rest"] f fd := by
      refine' ⟨_, _, Hs.df_mk KX G ?a ?l ?c ?k (fun _ _ _ _ _ _ us hl => match us, hl with | [_, _, _, _, _, _], _ => rfl)⟩
      (case a => k_is); (case l => k_is); (case c => k_is); (case k => k_is)
    obtain h_law_one : ∃ f fd, Hs.Df _ mg "_law_one" Hs.lOne14 ["hat"] f fd := by
      refine' ⟨_, _, Hs.df_mk KX G ?a ?l ?c ?k (fun _ _ _ _ _ _ us hl => match us, hl with | [_], _ => rfl)⟩
      (case a => k_is); (case l => k_is); (case c => k_is); (case k => k_is)
    obtain eX : ∃ C, Hu.Xc _ mg "NoTable" C "NoTable" ∧ Hs.Eqx _ C := by
      refine' ⟨_, Hs.xc_mk KX G ?a ?xq ?k ?c1 ?c2 ?c3 ?c4 ?c5 ?c6 ?c7 ?c8 ?r1 ?r2 ?r3 ?r4 ?ki ?kb ?ks ?kt, Hs.eqx_mk KX ?q1 ?q2 ?q3⟩
      (case a => k_is)
      (case xq => k_exc)
      (case k => k_is)
      (case c1 => first | k_is)
      (case c2 => first | k_is)
      (case c3 => first | k_is)
      (case c4 => first | k_is)
      (case c5 => first | k_is)
      (case c6 => first | k_is)
      (case c7 => first | k_is)
      (case c8 => first | k_is)
      (case r1 => first | k_is)
      (case r2 => first | rfl)
      (case r3 => first | decide +kernel | rfl)
      (case r4 => first | k_is)
      (case ki => first | k_is | rfl | decide +kernel)
      (case kb => first | k_is | rfl | decide +kernel)
      (case ks => first | k_is | rfl | decide +kernel)
      (case kt => first | k_is | rfl | decide +kernel)
      (case q1 => first | k_is)
      (case q2 => first | k_is)
      (case q3 => first | k_is)
    obtain eBd : ∃ a, mg "BARE_DEEDS" = some (.ref a) ∧ Hs.TupK _ a Hs.bareDs := by
      refine' Hs.bd_mk KX G ?g (Hs.tk5_mk ?t)
      (case g => k_is); (case t => k_is)
    have nMOST_HOMES : ∃ t, mg "MOST_HOMES" = some (.int 9 t) := by
      refine' Hs.gi_mk KX G ?a
      (case a => k_is)
    have nMOST_HANDS : ∃ t, mg "MOST_HANDS" = some (.int 99 t) := by
      refine' Hs.gi_mk KX G ?a
      (case a => k_is)
    have nMOST_PIECES : ∃ t, mg "MOST_PIECES" = some (.int 12 t) := by
      refine' Hs.gi_mk KX G ?a
      (case a => k_is)
    have nPIECE_SIGNS : ∃ t, mg "PIECE_SIGNS" = some (.int 8 t) := by
      refine' Hs.gi_mk KX G ?a
      (case a => k_is)
    have nNAME_SIGNS : ∃ t, mg "NAME_SIGNS" = some (.int 8 t) := by
      refine' Hs.gi_mk KX G ?a
      (case a => k_is)
    have nMOST_PLACES_forms : ∃ t, mg "MOST_PLACES_forms" = some (.int 64 t) := by
      refine' Hs.gi_mk KX G ?a
      (case a => k_is)
    have nEPOCH : ∃ t, mg "EPOCH" = some (.int 0 t) := by
      refine' Hs.gi_mk KX G ?a
      (case a => k_is)
    have nMEMBERS : ∃ t, mg "MEMBERS" = some (.int 1 t) := by
      refine' Hs.gi_mk KX G ?a
      (case a => k_is)
    have nAHEAD : ∃ t, mg "AHEAD" = some (.int 2 t) := by
      refine' Hs.gi_mk KX G ?a
      (case a => k_is)
    have nCLOCK : ∃ t, mg "CLOCK" = some (.int 3 t) := by
      refine' Hs.gi_mk KX G ?a
      (case a => k_is)
    have nHEADS : ∃ t, mg "HEADS" = some (.int 4 t) := by
      refine' Hs.gi_mk KX G ?a
      (case a => k_is)
    have nBLOCKS : ∃ t, mg "BLOCKS" = some (.int 5 t) := by
      refine' Hs.gi_mk KX G ?a
      (case a => k_is)
    have nLEASES : ∃ t, mg "LEASES" = some (.int 6 t) := by
      refine' Hs.gi_mk KX G ?a
      (case a => k_is)
    have nPROMISE : ∃ t, mg "PROMISE" = some (.int 7 t) := by
      refine' Hs.gi_mk KX G ?a
      (case a => k_is)
    have nVOTED : ∃ t, mg "VOTED" = some (.int 8 t) := by
      refine' Hs.gi_mk KX G ?a
      (case a => k_is)
    have nNEXT : ∃ t, mg "NEXT" = some (.int 9 t) := by
      refine' Hs.gi_mk KX G ?a
      (case a => k_is)
    have nMANY_PARTS : ∃ t, mg "MANY_PARTS" = some (.int 10 t) := by
      refine' Hs.gi_mk KX G ?a
      (case a => k_is)
    have nLEASE_TICKS : ∃ t, mg "LEASE_TICKS" = some (.int 8 t) := by
      refine' Hs.gi_mk KX G ?a
      (case a => k_is)
    have b_int : mg "int" = none := by
      refine' Hs.gn_mk KX G ?a
      (case a => k_is)
    have b_len : mg "len" = none := by
      refine' Hs.gn_mk KX G ?a
      (case a => k_is)
    have b_range : mg "range" = none := by
      refine' Hs.gn_mk KX G ?a
      (case a => k_is)
    have b_all : mg "all" = none := by
      refine' Hs.gn_mk KX G ?a
      (case a => k_is)
    have b_isinstance : mg "isinstance" = none := by
      refine' Hs.gn_mk KX G ?a
      (case a => k_is)
    have b_tuple : mg "tuple" = none := by
      refine' Hs.gn_mk KX G ?a
      (case a => k_is)
    have b_list : mg "list" = none := by
      refine' Hs.gn_mk KX G ?a
      (case a => k_is)
    have b_str : mg "str" = none := by
      refine' Hs.gn_mk KX G ?a
      (case a => k_is)
    have b_max : mg "max" = none := by
      refine' Hs.gn_mk KX G ?a
      (case a => k_is)
    have b_bool : mg "bool" = none := by
      refine' Hs.gn_mk KX G ?a
      (case a => k_is)
    have b_sum : mg "sum" = none := by
      refine' Hs.gn_mk KX G ?a
      (case a => k_is)
    have b_repr : mg "repr" = none := by
      refine' Hs.gn_mk KX G ?a
      (case a => k_is)
    have b_enumerate : mg "enumerate" = none := by
      refine' Hs.gn_mk KX G ?a
      (case a => k_is)
    have b_sorted : mg "sorted" = none := by
      refine' Hs.gn_mk KX G ?a
      (case a => k_is)
    have b_zip : mg "zip" = none := by
      refine' Hs.gn_mk KX G ?a
      (case a => k_is)
    have b_any : mg "any" = none := by
      refine' Hs.gn_mk KX G ?a
      (case a => k_is)
    have B : Hs.Bt mg := ⟨b_int, b_len, b_range, b_all, b_isinstance, b_tuple, b_list, b_str, b_max, b_bool, b_sum, b_repr, b_enumerate⟩
    obtain tTO_HANDS : ∃ (a : Addr) (es : Array DictEntry) (n : Nat), Hs.KTab _ w mg "TO_HANDS" Hs.thT a es n := by
      refine' Hs.ktab_mk KX G ?g ?l ?lit ?low ?r0
      (case g => k_is)
      (case l => k_is)
      (case lit => k_keys)
      (case low => first | rfl | decide +kernel)
      (case r0 => refine' (Hs.Rws.cons rfl rfl (Hs.tk4_mk ?t0_0) (Hs.Rws.cons rfl rfl (Hs.tk2_mk ?t0_1) (Hs.Rws.cons rfl rfl (Hs.tk3_mk ?t0_2) (Hs.Rws.cons rfl rfl (Hs.tk2_mk ?t0_3) (Hs.Rws.cons rfl rfl (Hs.tk2_mk ?t0_4) (Hs.Rws.cons rfl rfl (Hs.tk3_mk ?t0_5) (Hs.Rws.cons rfl rfl (Hs.tk4_mk ?t0_6) (Hs.Rws.cons rfl rfl (Hs.tk1_mk ?t0_7) (Hs.Rws.cons rfl rfl (Hs.tk4_mk ?t0_8) (Hs.Rws.cons rfl rfl (Hs.tk2_mk ?t0_9) (Hs.Rws.cons rfl rfl (Hs.tk3_mk ?t0_10) (Hs.Rws.cons rfl rfl (Hs.tk2_mk ?t0_11) (Hs.Rws.cons rfl rfl (Hs.tk2_mk ?t0_12) (Hs.Rws.cons rfl rfl (Hs.tk4_mk ?t0_13) (Hs.Rws.cons rfl rfl (Hs.tk4_mk ?t0_14) (Hs.Rws.cons rfl rfl (Hs.tk1_mk ?t0_15) (Hs.Rws.cons rfl rfl (Hs.tk4_mk ?t0_16) (Hs.Rws.cons rfl rfl (Hs.tk1_mk ?t0_17) Hs.Rws.nil))))))))))))))))))
                  (case t0_0 => k_is)
                  (case t0_1 => k_is)
                  (case t0_2 => k_is)
                  (case t0_3 => k_is)
                  (case t0_4 => k_is)
                  (case t0_5 => k_is)
                  (case t0_6 => k_is)
                  (case t0_7 => k_is)
                  (case t0_8 => k_is)
                  (case t0_9 => k_is)
                  (case t0_10 => k_is)
                  (case t0_11 => k_is)
                  (case t0_12 => k_is)
                  (case t0_13 => k_is)
                  (case t0_14 => k_is)
                  (case t0_15 => k_is)
                  (case t0_16 => k_is)
                  (case t0_17 => k_is))
    obtain tTO_HOMES : ∃ (a : Addr) (es : Array DictEntry) (n : Nat), Hs.KTab _ w mg "TO_HOMES" Hs.toT a es n := by
      refine' Hs.ktab_mk KX G ?g ?l ?lit ?low ?r1
      (case g => k_is)
      (case l => k_is)
      (case lit => k_keys)
      (case low => first | rfl | decide +kernel)
      (case r1 => refine' (Hs.Rws.cons rfl rfl (Hs.tk2_mk ?t1_0) (Hs.Rws.cons rfl rfl (Hs.tk1_mk ?t1_1) (Hs.Rws.cons rfl rfl (Hs.tk2_mk ?t1_2) (Hs.Rws.cons rfl rfl (Hs.tk3_mk ?t1_3) (Hs.Rws.cons rfl rfl (Hs.tk4_mk ?t1_4) (Hs.Rws.cons rfl rfl (Hs.tk2_mk ?t1_5) (Hs.Rws.cons rfl rfl (Hs.tk2_mk ?t1_6) (Hs.Rws.cons rfl rfl (Hs.tk2_mk ?t1_7) (Hs.Rws.cons rfl rfl (Hs.tk3_mk ?t1_8) (Hs.Rws.cons rfl rfl (Hs.tk2_mk ?t1_9) (Hs.Rws.cons rfl rfl (Hs.tk5_mk ?t1_10) Hs.Rws.nil)))))))))))
                  (case t1_0 => k_is)
                  (case t1_1 => k_is)
                  (case t1_2 => k_is)
                  (case t1_3 => k_is)
                  (case t1_4 => k_is)
                  (case t1_5 => k_is)
                  (case t1_6 => k_is)
                  (case t1_7 => k_is)
                  (case t1_8 => k_is)
                  (case t1_9 => k_is)
                  (case t1_10 => k_is))
    obtain tAMONG_HOMES : ∃ (a : Addr) (es : Array DictEntry) (n : Nat), Hs.KTab _ w mg "AMONG_HOMES" Hs.amT a es n := by
      refine' Hs.ktab_mk KX G ?g ?l ?lit ?low ?r2
      (case g => k_is)
      (case l => k_is)
      (case lit => k_keys)
      (case low => first | rfl | decide +kernel)
      (case r2 => refine' (Hs.Rws.cons rfl rfl (Hs.tk2_mk ?t2_0) (Hs.Rws.cons rfl rfl (Hs.tk4_mk ?t2_1) (Hs.Rws.cons rfl rfl (Hs.tk2_mk ?t2_2) (Hs.Rws.cons rfl rfl (Hs.tk3_mk ?t2_3) Hs.Rws.nil))))
                  (case t2_0 => k_is)
                  (case t2_1 => k_is)
                  (case t2_2 => k_is)
                  (case t2_3 => k_is))
    obtain tDEEDS : ∃ (a : Addr) (es : Array DictEntry) (n : Nat), Hs.KTab _ w mg "DEEDS" Hs.dT a es n := by
      refine' Hs.ktab_mk KX G ?g ?l ?lit ?low ?r3
      (case g => k_is)
      (case l => k_is)
      (case lit => k_keys)
      (case low => first | rfl | decide +kernel)
      (case r3 => refine' (Hs.Rws.cons rfl rfl (Hs.tk5_mk ?t3_0) (Hs.Rws.cons rfl rfl (Hs.tk2_mk ?t3_1) (Hs.Rws.cons rfl rfl (Hs.tk3_mk ?t3_2) (Hs.Rws.cons rfl rfl (Hs.tk3_mk ?t3_3) (Hs.Rws.cons rfl rfl (Hs.tk3_mk ?t3_4) (Hs.Rws.cons rfl rfl (Hs.tk1_mk ?t3_5) (Hs.Rws.cons rfl rfl (Hs.tk2_mk ?t3_6) (Hs.Rws.cons rfl rfl (Hs.tk1_mk ?t3_7) (Hs.Rws.cons rfl rfl (Hs.tk0_mk ?t3_8) (Hs.Rws.cons rfl rfl (Hs.tk0_mk ?t3_9) (Hs.Rws.cons rfl rfl (Hs.tk0_mk ?t3_10) (Hs.Rws.cons rfl rfl (Hs.tk2_mk ?t3_11) Hs.Rws.nil))))))))))))
                  (case t3_0 => k_is)
                  (case t3_1 => k_is)
                  (case t3_2 => k_is)
                  (case t3_3 => k_is)
                  (case t3_4 => k_is)
                  (case t3_5 => k_is)
                  (case t3_6 => k_is)
                  (case t3_7 => k_is)
                  (case t3_8 => k_is)
                  (case t3_9 => k_is)
                  (case t3_10 => k_is)
                  (case t3_11 => k_is))
    obtain eG : ∃ a, mg "WORDS_answers" = some (.ref a) ∧ (∃ (f : Addr) (d : FuncData), L2.KDct _ w a "seal" (.ref f) ∧ Hs.Df _ mg "_seal" Hs.sSeal ["table", "hand", "talk", "rest"] f d) := by
      refine' ⟨_, Hs.gh_mk KX G ?g, ⟨_, _, Hs.kd_mk KX ?l0 ?t0 ?e0, Hs.df_mk KX G ?a0 ?m0 ?c0 ?k0 (fun _ _ _ _ _ _ us hl => match us, hl with | [_, _, _, _], _ => rfl)⟩⟩
      (case g => k_is)
      (case l0 => k_is); (case t0 => k_keys); (case e0 => k_is); (case a0 => k_is); (case m0 => k_is); (case c0 => k_is); (case k0 => k_is)
    obtain eN : ∃ a, mg "DOINGS" = some (.ref a) ∧ (∃ (f : Addr) (d : FuncData), L2.KDct _ w a "install" (.ref f) ∧ Hs.Df _ mg "_installed" Hs.sInst14 ["table", "parts"] f d) ∧ (∃ (f : Addr) (d : FuncData), L2.KDct _ w a "seal" (.ref f) ∧ Hs.Df _ mg "_sealed" Hs.sSealed14 ["table", "parts"] f d) := by
      refine' ⟨_, Hs.gh_mk KX G ?g, ⟨_, _, Hs.kd_mk KX ?l0 ?t0 ?e0, Hs.df_mk KX G ?a0 ?m0 ?c0 ?k0 (fun _ _ _ _ _ _ us hl => match us, hl with | [_, _], _ => rfl)⟩, ⟨_, _, Hs.kd_mk KX ?l1 ?t1 ?e1, Hs.df_mk KX G ?a1 ?m1 ?c1 ?k1 (fun _ _ _ _ _ _ us hl => match us, hl with | [_, _], _ => rfl)⟩⟩
      (case g => k_is)
      (case l0 => k_is); (case t0 => k_keys); (case e0 => k_is); (case a0 => k_is); (case m0 => k_is); (case c0 => k_is); (case k0 => k_is)
      (case l1 => k_is); (case t1 => k_keys); (case e1 => k_is); (case a1 => k_is); (case m1 => k_is); (case c1 => k_is); (case k1 => k_is)
    refine' Hs.law_mkH KX G hmg ?a ?l ?c ?k ⟨B, ⟨b_sorted, b_zip⟩, ⟨nMOST_HOMES, nMOST_HANDS, nMOST_PIECES, nPIECE_SIGNS, nNAME_SIGNS⟩, ⟨nEPOCH, nMEMBERS, nAHEAD, nCLOCK, nHEADS, nBLOCKS, nLEASES, nPROMISE, nVOTED, nNEXT, nMANY_PARTS, nLEASE_TICKS⟩, b_any, nMOST_PLACES_forms, eX, eBd, eG, eN, tTO_HANDS, tTO_HOMES, tAMONG_HOMES, tDEEDS, his_integer, his_from_one, his_pair, his_signs, his_ascending, his_home, his_hand, his_name, his_piece, his_block_id, his_row, his_stamp, his_members, his_count, his_tuple_of, his_ahead, his_vote, his_heads, h_is_named_head, his_blocks, h_is_block, his_names, his_ids, his_counts, his_part, h_is_lot, hare_parts, his_machine, h_is_told, his_letter, h_are_leases, h_is_lease, h_are_kept, his_table, his_deed, hchanged, hlets, hdone, hbehind, hled_ids, hled_by, his_leased, h_carried, h_ahead_of_hand, h_with_hand, hanswered, hanswer, h_law_hat, h_law_draw, h_law_same, h_law_name, h_law_id, h_law_piece, h_law_stamp, h_law_members, h_law_row, h_law_heads, h_law_blocks, h_law_leases, h_law_table, h_law_rest, h_law_led, h_law_due, h_law_behind, h_law_begin, h_law_word, h_law_asked, h_law_one⟩
    (case a => k_is); (case l => k_is); (case c => k_is); (case k => k_is)
