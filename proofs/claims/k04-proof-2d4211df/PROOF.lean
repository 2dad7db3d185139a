import PyProof.Rows.All
import Wide.All
import OpenK.AllK
import Wide.FinOn
import HandS.ForMost
import HandS.Exc
import HandS.ExcOwn
import HandS.ExcValue
import HandS.IsInst
import PyProof.ReprReads
import PyProof.ReprRoads
import PyProof.ExcRepr
import KE.KExcStr
import HandS.ExcIs
import HandS.Evl
import HandS.TryMany
import HandS.WordsExc
import HandS.Small
import HandS.TupAny
import HandS.Walk
import HandS.Deep
import HandS.Wide
import HandS.Steps
import PyProof.EqAt
import PyProof.EqKinds
import HandS.TupLe
import HandS.Dict
import HandS.More
import PyProof.Rows.SortKeyStr
import KE.KSortTup
import KE.KDictList
import KE.KDictSum
import HandS.DictTup
import HandS.Iter
import HandS.SortOrd
import HandS.Base
import HandS.Comp
import HandS.DictComp
import PyProof.DictMoreH
import HandS.CallLocal
import HandS.Zip
import HandS.SortRule
import HandS.NoneIn
import KE.KStrOpen
import KE.KDictPairs
import PyProof.DictCompW
import PyProof.ReprLen
import PyProof.FitsInt
import PyProof.StrLawsRepr
import PySem.Challenge.RW_homeshold_k04_tables_judged_and_read
set_option Elab.async false
set_option linter.all false
set_option maxRecDepth 100000
namespace PySem
open Sem (wp)
open Builtin Builtin.Str Builtin.BaseException Builtin.Exceptions
open PySem.W (Looks Frag findIn subIn looks_findIn looks_subIn)
section
variable {prog : Program} {w : World} {K : Frag} {C e t0 : Addr} {h₀ : Heap}
/-- an exception of the class C without arguments -/
def HxExc (C e t0 : Addr) (h : Heap) : Prop := (∃ o vs, h.get? e = some o ∧ o.cls = .ref C ∧ o.data = .fields vs ∧ vs[0]? = some (.ref t0) ∧ o.dict = none) ∧ ∃ o n, h.get? t0 = some o ∧ o.cls = .type "tuple" ∧ o.data = .seq #[] n
theorem HxExc.mono {h h' : Heap} (x : HxExc C e t0 h) (k : ∀ b o, h.get? b = some o → h'.get? b = some o) : HxExc C e t0 h' := by
  obtain ⟨⟨o, vs, h1, h2⟩, o', n, h3, h4⟩ := x
  exact ⟨⟨o, vs, k _ _ h1, h2⟩, o', n, k _ _ h3, h4⟩
/-- the class's name -/
def HxName (K : Frag) (C : Addr) (nm : Str) : Prop := ∃ o cd, K.lookup C = some o ∧ o.data = .cls cd ∧ Str.ofString ((cd.name.toString.cutAt '.').getLastD "") = nm
theorem hx_typeName {M : Model} {A : Around} {E : Value → Shared → Prop} {s : Shared} {nm : Str} {Q : String → Shared → Prop} (X : K.In s.heap) (x : HxExc C e t0 s.heap) (n : HxName K C nm) (hq : ∀ z : String, Str.ofString ((z.cutAt '.').getLastD "") = nm → Q z s) : wpAny M A (typeNameOfWhole (.ref e)) Q E s := by
  obtain ⟨⟨o, vs, h1, h2, _⟩, _⟩ := x
  obtain ⟨oc, cd, hc, hd, hn⟩ := n
  have ty : ∀ {Q : Value → Shared → Prop}, Q (.ref C) s → wpAny M A (typeOf (.ref e)) Q E s := fun q => wpAny_typeOf_ref h1 (by rw [h2]; exact q)
  unfold typeNameOfWhole shownTypeOf
  refine wpAny_bind (wpAny_bind (ty ?_))
  have e1 : ((Value.ref C == Value.type "builtin_function_or_method") = true) = False := by simp
  rw [if_neg (by rw [e1]; exact id)]
  refine wpAny_pure ?_
  unfold typeNameWhole classData
  refine wpAny_bind (wpAny_bind (wpAny_load (X C oc hc) ?_))
  rw [hd]
  exact wpAny_pure (wpAny_pure (hq _ hn))
/-- where the class's repr is the base's -/
structure HxRepr (K : Frag) (C : Addr) (nm : Str) : Prop where
  name : HxName K C nm
  find : findIn K (.ref C) "__repr__" = some (some (.builtin "BaseException.__repr__"))
  sub : subIn K (.ref C) (.type "BaseException") = some true
theorem hx_looks {M : Model} {h : Heap} (x : HxExc C e t0 h) : Looks M h (typeOf (.ref e)) (.ref C) := fun A Q E s k q => by
  obtain ⟨⟨o, vs, ho, hc, _⟩, _⟩ := x
  exact wpAny_typeOf_ref (k _ _ ho) (by rw [hc]; exact q)
theorem hx_tuple (x : HxExc C e t0 h₀) : ReprK prog w [t0] h₀ 1 (.ref t0) "()" := by
  obtain ⟨_, o, n, h1, h2, h3⟩ := x
  exact ReprK.tuple (ts := []) (as := []) (d := 0) h1 h2 h3 (by simp) .nil
theorem bexcArgs_T {M : Model} {A : Around} {E : Value → Shared → Prop} {s : Shared} {items : List Value} {Q : Value × List Value → Shared → Prop} (x : ∃ o vs, s.heap.get? e = some o ∧ o.data = .fields vs ∧ vs[0]? = some (.ref t0)) (ht : s.heap.TupAt t0 items) (hq : Q (.ref t0, items) s) :
    wpAny M A (bexcArgs (.ref e)) Q E s := by
  obtain ⟨o, vs, ho, hd, h0⟩ := x
  obtain ⟨ot, k, hto, _, htd⟩ := ht
  unfold bexcArgs
  refine wpAny_bind (wpAny_field ho hd h0 (wpAny_bind (wpAny_seqItems hto htd ?_)))
  have : items.toArray.toList = items := by simp
  show wpAny M A (pure (Value.ref t0, items.toArray.toList)) Q E s
  rw [this]; exact wpAny_pure hq
/-- the body of the base's repr -/
theorem hx_body {A : Around} {g : List Code} {E : Value → Shared → Prop} {s : Shared} {nm : Str} {base : Nat} {Q : Fin → Shared → Prop} (X : K.In h₀) (x : HxExc C e t0 h₀) (R : HxRepr K C nm) (hb : base + (nm ++ "()").length ≤ sizeLine)
    (hg : A.guards = some g) (hcl : Clear g t0) (hu : A.units + 1 < cLine) (hk : ∀ b o, h₀.get? b = some o → s.heap.get? b = some o)
    (hQ : ∀ h' u tk, (∀ b o, s.heap.get? b = some o → h'.get? b = some o) → Q (.done (.ret (.str (nm ++ "()") u))) { s with heap := h', toks := tk }) :
    wpAny (model prog w) A (Builtin.bexcReprAt base ⟨[.ref e], []⟩) Q E s := by
  have xs : HxExc C e t0 s.heap := x.mono hk
  obtain ⟨⟨o, vs, h1, h2, h3, h4, _⟩, ot, n, g1, g2, g3⟩ := id xs
  have e2 : (nm ++ "()").length = nm.length + 2 := by
    rw [strLen_append]
    rfl
  unfold Builtin.bexcReprAt
  repeat (first | with_reducible refine hx_typeName (fun a o q => hk _ _ (X a o q)) xs R.name (fun z hz => ?_) | wp_step)
  rw [h2]
  obtain ⟨oc, cd, hc, hd, hn⟩ := R.name
  show wpAny _ _ (do let c ← classData C; pure c.name.toString) _ _ _
  unfold classData
  refine wpAny_bind (wpAny_bind (wpAny_load (hk _ _ (X C oc hc)) ?_))
  rw [hd]
  refine wpAny_pure (wpAny_pure ?_)
  dsimp only
  rw [hn]
  refine wpAny_bind (bexcArgs_T (items := []) ⟨o, vs, h1, h3, h4⟩ ⟨ot, n, g1, g2, g3⟩ ?_)
  dsimp only
  refine wpAny_bind (hx_tuple x (base + nm.length) (by have : ("()" : Str).length = 2 := rfl; omega) A g E s _ hg (fun b hb => by rw [List.mem_singleton.mp hb]; exact hcl) (by omega) hk fun h' tk hk' => ?_)
  refine wpAny_bind (wpAny_mkStr (x := nm ++ ("()" : Str)) (wpAny_pure ?_) (by omega))
  exact hQ h' _ _ hk'
theorem hx_by {A : Around} {E : Value → Shared → Prop} {s : Shared} {last : Value → List Value → Sem Value} {Q : Option Value → Shared → Prop}
    (sp : ∀ {A : Around} {E : Value → Shared → Prop} {Q : Option Value → Shared → Prop}, Q (some (.builtin "BaseException.__repr__")) s → wpAny (model prog w) A (specialOf (.ref e) (Str.ofString "__repr__")) Q E s)
    (hc : wpAny (model prog w) A (last (.builtin "BaseException.__repr__") [.ref e]) (fun v => Q (some v)) E s) : wpAny (model prog w) A (callSpecialIfBoundBy? last (.ref e) (Str.ofString "__repr__")) Q E s := by
  simp only [callSpecialIfBoundBy?, bindSpecialIfBound?]
  refine wpAny_holding (wpAny_bind (wpAny_bind (sp ?_)))
  simp only [F.excStr_Exception.repr.bind]
  refine wpAny_bind (wpAny_askSetting (wpAny_ite ?_))
  have fin : wpAny (model prog w) A (last (.builtin "BaseException.__repr__") [.ref e] >>= fun v => pure (some v)) Q E s :=
    wpAny_bind (wpAny_mono hc (fun v s' h' => wpAny_pure h') fun _ _ h' => h')
  split
  · exact wpAny_bind (wpAny_pure (wpAny_pure fin))
  · exact wpAny_tryCatch (wpAny_bind (wpAny_pure (wpAny_pure fin)))
theorem hx_bound {A : Around} {E : Value → Shared → Prop} {s : Shared} {Q : Option Value → Shared → Prop}
    (sp : ∀ {A : Around} {E : Value → Shared → Prop} {Q : Option Value → Shared → Prop}, Q (some (.builtin "BaseException.__repr__")) s → wpAny (model prog w) A (specialOf (.ref e) (Str.ofString "__repr__")) Q E s)
    (hc : wpAny (model prog w) A (call (.builtin "BaseException.__repr__") [.ref e]) (fun v => Q (some v)) E s) : wpAny (model prog w) A (callSpecialIfBound? (.ref e) (Str.ofString "__repr__")) Q E s := by
  simp only [callSpecialIfBound?, bindSpecialIfBound?]
  refine wpAny_holding (wpAny_bind (wpAny_bind (sp ?_)))
  simp only [F.excStr_Exception.repr.bind]
  refine wpAny_bind (wpAny_askSetting (wpAny_ite ?_))
  have fin : wpAny (model prog w) A (call (.builtin "BaseException.__repr__") ([.ref e] ++ []) >>= fun v => pure (some v)) Q E s :=
    wpAny_bind (wpAny_mono hc (fun v s' h' => wpAny_pure h') fun _ _ h' => h')
  split
  · exact wpAny_bind (wpAny_pure (wpAny_pure fin))
  · exact wpAny_tryCatch (wpAny_bind (wpAny_pure (wpAny_pure fin)))
/-- repr of such an exception, within another repr -/
theorem hx_repr {nm : Str} (X : K.In h₀) (x : HxExc C e t0 h₀) (R : HxRepr K C nm) (hne : ∀ b ∈ ([] : List Addr), b ≠ e) : ReprK prog w [e, t0] h₀ 3 (.ref e) (nm ++ "()") := by
  intro base hb A g E s Q hg hcl hu hk0 hQ
  have xs := x.mono hk0
  have hf : Looks (model prog w) s.heap (typeLookup (.ref C) (Str.ofString "__repr__")) (some (.builtin "BaseException.__repr__")) := looks_findIn (fun a o q => hk0 _ _ (X a o q)) R.find
  have hi : Looks (model prog w) s.heap (isInstance (.ref e) (.type "BaseException")) true := (hx_looks xs).andThen (looks_subIn (fun a o q => hk0 _ _ (X a o q)) R.sub)
  refine wpAny_pyReprUnder_ref (by omega) ?_
  unfold pyReprObjUnder pyReprObjBy
  refine wpAny_bind (wpAny_cRoomFor (by omega) ?_)
  have sp : ∀ {A : Around} {E : Value → Shared → Prop} {Q : Option Value → Shared → Prop}, Q (some (.builtin "BaseException.__repr__")) s → wpAny (model prog w) A (specialOf (.ref e) (Str.ofString "__repr__")) Q E s := fun q => by
    unfold specialOf
    exact wpAny_bind ((hx_looks xs).here (hf.here q))
  refine wpAny_bind (sp ?_)
  refine wpAny_bind (hx_by sp ?_)
  show wpAny (model prog w) A (call (.builtin "BaseException.__repr__.under") [.ref e, rawInt base]) _ _ _
  refine wpAny_call (codeAny_call_builtin F.plain_bexc_repr_under F.entry_bexc_repr_under ?_)
  rw [F.check_bexc_repr_under]
  refine wpAny_pure ?_
  unfold Builtin.«BaseException.__repr__.under»
  rw [reprTwin_eq]
  refine wpAny_bind (@PySem.W.check_slot (model prog w) _ _ s "BaseException.__repr__" "BaseException" "__repr__" (.ref e) [] [] _ (by decide +kernel) (by decide +kernel) hi (F.args_bexc_repr _) ?_)
  refine hx_body X x R hb (g := g) hg (hcl t0 (by simp)) (by show A.units + 1 + 1 < cLine; omega) hk0 fun h' u tk hk => ?_
  exact wpAny_bind (wpAny_isInstance (T := "str") (b := true) rfl isSubtype_str_str (wpAny_pure ⟨_, _, rfl, hQ h' tk hk⟩))
/-- repr of such an exception by itself -/
theorem hx_reprTop {nm : Str} {A : Around} {E : Value → Shared → Prop} {s : Shared} {Q : Value → Shared → Prop} (X : K.In s.heap) (x : HxExc C e t0 s.heap) (R : HxRepr K C nm) (hb : (nm ++ "()").length ≤ sizeLine) (hg : A.guards = some []) (hu : A.units + 4 < cLine)
    (hQ : ∀ h' u tk, (∀ b o, s.heap.get? b = some o → h'.get? b = some o) → Q (.str (nm ++ "()") u) { s with heap := h', toks := tk }) : wpAny (model prog w) A (call (.builtin "repr") [.ref e]) Q E s := by
  have hf : Looks (model prog w) s.heap (typeLookup (.ref C) (Str.ofString "__repr__")) (some (.builtin "BaseException.__repr__")) := looks_findIn X R.find
  have hi : Looks (model prog w) s.heap (isInstance (.ref e) (.type "BaseException")) true := (hx_looks x).andThen (looks_subIn X R.sub)
  have sp : ∀ {A : Around} {E : Value → Shared → Prop} {Q : Option Value → Shared → Prop}, Q (some (.builtin "BaseException.__repr__")) s → wpAny (model prog w) A (specialOf (.ref e) (Str.ofString "__repr__")) Q E s := fun q => by
    unfold specialOf
    exact wpAny_bind ((hx_looks x).here (hf.here q))
  refine Calls.call_function_entry F.kind_repr F.plain_repr F.entry_repr (F.args_repr1 _) ?_
  unfold Builtin.«repr»
  refine wpAny_bind (m := oneArg "repr" _) (wpAny_pure ?_)
  refine wpAny_bind (m := cRoomFor _ _) (wpAny_cRoomFor (by show A.units + 1 < cLine; omega) ?_)
  refine wpAny_bind (sp ?_)
  refine wpAny_bind (m := callSpecialIfBound? (.ref e) (Str.ofString "__repr__")) (hx_bound sp ?_)
  refine wpAny_call (codeAny_call_builtin F.excStr_Exception.repr.plain F.entry_bexc_repr ?_)
  refine @PySem.W.check_slot (model prog w) _ _ s "BaseException.__repr__" "BaseException" "__repr__" (.ref e) [] [] _ (by decide +kernel) (by decide +kernel) hi (F.args_bexc_repr _) ?_
  refine hx_body (base := 0) X x R (by rw [Nat.zero_add]; exact hb) (g := []) hg (Clear.nil t0) (by show A.units + 1 + 1 + 1 < cLine; omega) (fun _ _ q => q) fun h' u tk hk => ?_
  exact wpAny_bind (wpAny_isInstance (T := "str") (b := true) rfl isSubtype_str_str (wpAny_pure ⟨_, rfl, hQ h' u tk hk⟩))
end
end PySem
/-! any value of the law's: what it is as data, where it stands, its repr -/
namespace Hu
open PySem PySem.Spec PyProof.Rows L2
/-- data: dct us is {'a': [us], 1: None}, exc an error of the one class -/
inductive U where
  | non | bl (b : Bool) | int (i : Int) | str (z : Str) | tup (us : List U) | lst (us : List U) | dct (us : List U) | exc
/-- an error of the class C as it stands at a, its arguments at t -/
def ExN (C t a : Addr) : HO := .ext fun h => ∃ o vs, h.get? a = some o ∧ o.cls = .ref C ∧ o.data = .fields vs ∧ vs[0]? = some (.ref t) ∧ o.dict = none
/-- a block's row -/
def blkS : U → Bool
  | .tup [.tup [.int _, .int _], .str _] => true
  | _ => false
/-- what may be told as blocks: these stand locked, so that a dict can be made of them -/
def isB (us : List U) : Bool := us.all blkS
/-- how a tuple of this data stands at a -/
def Tu (H : Hp) (a : Addr) (xs : List V) (us : List U) : Prop := if isB us = true then ∃ o : Obj, o.dict = none ∧ H a = some (.frz o (.tup xs)) else H a = some (.tup xs)
theorem Tu.got {H : Hp} {a : Addr} {xs : List V} {us : List U} (h : Tu H a xs us) : ∃ o, H a = some o ∧ (o = .tup xs ∨ ∃ b, o = .frz b (.tup xs)) := by
  unfold Tu at h
  split at h
  · obtain ⟨o, _, h⟩ := h
    exact ⟨_, h, .inr ⟨o, rfl⟩⟩
  · exact ⟨_, h, .inl rfl⟩
theorem Tu.mv {H H' : Hp} {a : Addr} {xs : List V} {us : List U} (k : ∀ o, H a = some o → H' a = some o) (h : Tu H a xs us) : Tu H' a xs us := by
  unfold Tu at h ⊢
  split at h
  · rename_i q
    obtain ⟨o, d, h⟩ := h
    rw [if_pos q]
    exact ⟨o, d, k _ h⟩
  · rename_i q
    rw [if_neg q]
    exact k _ h
theorem Tu.one {H : Hp} {a : Addr} {xs xs' : List V} {us us' : List U} (h : Tu H a xs us) (h' : Tu H a xs' us') : xs = xs' := by
  obtain ⟨o, e, q⟩ := h.got
  obtain ⟨o', e', q'⟩ := h'.got
  rw [e] at e'
  cases e'
  rcases q with rfl | ⟨b, rfl⟩
  · rcases q' with q' | ⟨b, q'⟩ <;> cases q'
    rfl
  · rcases q' with q' | ⟨b', q'⟩ <;> cases q'
    rfl
theorem Tu.ne {H : Hp} {a : Addr} {xs : List V} {us : List U} {u : HO} (h : Tu H a xs us) (e : H a = .some u) (n : u ≠ .tup xs) (n' : ∀ b, u ≠ .frz b (.tup xs)) : False := by
  obtain ⟨o, e', q⟩ := h.got
  rw [e'] at e
  cases e
  rcases q with q | ⟨b, q⟩
  · exact n q
  · exact n' b q
theorem Tu.st {K : PySem.W.Frag} {H : Hp} {a : Addr} {xs : List V} {us : List U} (h : Tu H a xs us) : SqT K H a xs := by
  obtain ⟨o, e, q⟩ := h.got
  rcases q with rfl | ⟨b, rfl⟩
  · exact .inl (.inl e)
  · exact .inl (.inr ⟨b, e⟩)
theorem Tu.ok {P : Program} {wd : World} {h₀ : Heap} {H : Hp} {a : Addr} {xs : List V} {us : List U} (h : Tu H a xs us) (ok : HOk P wd H h₀) : ObjOk P wd H h₀ a (.tup xs) := by
  obtain ⟨ho, e, q⟩ := h.got
  have := ok a _ e
  rcases q with rfl | ⟨b, rfl⟩
  · exact this
  · exact this.2
theorem Tu.plain {H : Hp} {a : Addr} {xs : List V} {us : List U} (h : Tu H a xs us) (q : isB us = false) : H a = .some (.tup xs) := by
  unfold Tu at h
  rwa [if_neg (by rw [q]; decide)] at h
theorem Tu.of {H : Hp} {a : Addr} {xs : List V} {us : List U} (h : H a = .some (.tup xs)) (q : isB us = false) : Tu H a xs us := by
  unfold Tu
  rwa [if_neg (by rw [q]; decide)]
theorem Tu.lock {H : Hp} {a : Addr} {xs : List V} {us : List U} (h : Tu H a xs us) (q : isB us = true) : ∃ o : Obj, o.dict = none ∧ H a = .some (.frz o (.tup xs)) := by
  unfold Tu at h
  rwa [if_pos q] at h
mutual
/-- the value v is the data u; all that it stands in is tracked, and isn't w -/
inductive At (w C : Addr) (H : Hp) : V → U → Prop
  | non : At w C H .non .non
  | bl (b : Bool) : At w C H (.bl b) (.bl b)
  | int (i : Int) : At w C H (.int i) (.int i)
  | str (z : Str) : At w C H (.str z) (.str z)
  | tup {a : Addr} {xs : List V} {us : List U} : Tu H a xs us → a ≠ w → AtL w C H xs us → At w C H (.ref a) (.tup us)
  | lst {a : Addr} {xs : List V} {us : List U} : H a = some (.lst xs) → a ≠ w → AtL w C H xs us → At w C H (.ref a) (.lst us)
  | dct {a b : Addr} {xs : List V} {us : List U} : H a = some (.dK [(.inr "a", .ref b), (.inl 1, .non)]) → a ≠ w → H b = some (.lst xs) → b ≠ w → AtL w C H xs us → At w C H (.ref a) (.dct us)
  | exc {a t : Addr} : H a = some (ExN C t a) → a ≠ w → H t = some (.tup []) → t ≠ w → At w C H (.ref a) .exc
inductive AtL (w C : Addr) (H : Hp) : List V → List U → Prop
  | nil : AtL w C H [] []
  | cons {v : V} {u : U} {vs : List V} {us : List U} : At w C H v u → AtL w C H vs us → AtL w C H (v :: vs) (u :: us)
end
section
variable {w C : Addr} {H H' : Hp}
mutual
theorem At.keep (k : ∀ b o, b ≠ w → H b = some o → H' b = some o) : ∀ {u : U} {v : V}, At w C H v u → At w C H' v u
  | _, _, .non => .non
  | _, _, .bl b => .bl b
  | _, _, .int i => .int i
  | _, _, .str z => .str z
  | _, _, .tup h n l => .tup (Tu.mv (fun o e => k _ o n e) h) n (AtL.keep k l)
  | _, _, .lst h n l => .lst (k _ _ n h) n (AtL.keep k l)
  | _, _, .dct h n h2 n2 l => .dct (k _ _ n h) n (k _ _ n2 h2) n2 (AtL.keep k l)
  | _, _, .exc h n h2 n2 => .exc (k _ _ n h) n (k _ _ n2 h2) n2
theorem AtL.keep (k : ∀ b o, b ≠ w → H b = some o → H' b = some o) : ∀ {us : List U} {vs : List V}, AtL w C H vs us → AtL w C H' vs us
  | _, _, .nil => .nil
  | _, _, .cons x l => .cons (x.keep k) (AtL.keep k l)
end
theorem key_ne : ([((.inr "a" : Key), V.ref 0)] : List (Key × V)) ≠ [] := fun e => by cases e
mutual
theorem At.one : ∀ {u u' : U} {v : V}, At w C H v u → At w C H v u' → u = u'
  | _, _, _, .non, y => by cases y; rfl
  | _, _, _, .bl b, y => by cases y; rfl
  | _, _, _, .int i, y => by cases y; rfl
  | _, _, _, .str z, y => by cases y; rfl
  | _, _, _, .tup h n l, y => by
    cases y with
    | tup h' _ l' => have := h.one h'; subst this; rw [AtL.one l l']
    | lst h' _ _ => exact (h.ne h' (fun z => by cases z) (fun _ z => by cases z)).elim
    | dct h' _ _ _ _ => exact (h.ne h' (fun z => by cases z) (fun _ z => by cases z)).elim
    | exc h' _ _ _ => exact (h.ne h' (fun z => by cases z) (fun _ z => by cases z)).elim
  | _, _, _, .lst h n l, y => by
    cases y with
    | tup h' _ l' => exact (h'.ne h (fun z => by cases z) (fun _ z => by cases z)).elim
    | lst h' _ l' => rw [h] at h'; cases h'; rw [AtL.one l l']
    | dct h' _ _ _ _ => rw [h] at h'; cases h'
    | exc h' _ _ _ => rw [h] at h'; cases h'
  | _, _, _, .dct h n h2 n2 l, y => by
    cases y with
    | tup h' _ l' => exact (h'.ne h (fun z => by cases z) (fun _ z => by cases z)).elim
    | lst h' _ l' => rw [h] at h'; cases h'
    | dct h' _ h2' _ l' =>
      rw [h] at h'
      cases h'
      rw [h2] at h2'
      cases h2'
      rw [AtL.one l l']
    | exc h' _ _ _ => rw [h] at h'; cases h'
  | _, _, _, .exc h n _ _, y => by
    cases y with
    | tup h' _ l' => exact (h'.ne h (fun z => by cases z) (fun _ z => by cases z)).elim
    | lst h' _ l' => rw [h] at h'; cases h'
    | dct h' _ _ _ _ => rw [h] at h'; cases h'
    | exc h' _ _ _ => rfl
theorem AtL.one : ∀ {us us' : List U} {vs : List V}, AtL w C H vs us → AtL w C H vs us' → us = us'
  | _, _, _, .nil, y => by cases y; rfl
  | _, _, _, .cons x l, y => by
    cases y with
    | cons x' l' => rw [At.one x x', AtL.one l l']
end
theorem AtL.length : ∀ {us : List U} {vs : List V}, AtL w C H vs us → vs.length = us.length
  | _, _, .nil => rfl
  | _, _, .cons x l => by rw [List.length_cons, List.length_cons, AtL.length l]
theorem AtL.get : ∀ {us : List U} {vs : List V} {i : Nat} {u : U}, AtL w C H vs us → us[i]? = some u → ∃ v, vs[i]? = some v ∧ At w C H v u
  | _, _, _, _, .nil, e => by simp at e
  | _, _, 0, _, .cons x l, e => by
    have := Option.some.inj e
    subst this
    exact ⟨_, rfl, x⟩
  | _, _, i + 1, _, .cons x l, e => AtL.get (i := i) l e
theorem AtL.append : ∀ {us us' : List U} {vs vs' : List V}, AtL w C H vs us → AtL w C H vs' us' → AtL w C H (vs ++ vs') (us ++ us')
  | _, _, _, _, .nil, y => y
  | _, _, _, _, .cons x l, y => .cons x (AtL.append l y)
theorem AtL.take : ∀ {us : List U} {vs : List V} (n : Nat), AtL w C H vs us → AtL w C H (vs.take n) (us.take n)
  | _, _, 0, _ => .nil
  | _, _, _ + 1, .nil => .nil
  | _, _, n + 1, .cons x l => .cons x (AtL.take n l)
theorem AtL.drop : ∀ {us : List U} {vs : List V} (n : Nat), AtL w C H vs us → AtL w C H (vs.drop n) (us.drop n)
  | _, _, 0, l => l
  | _, _, _ + 1, .nil => .nil
  | _, _, n + 1, .cons x l => AtL.drop n l
end
/-! ### its repr -/
mutual
def shown (nm : Str) : U → Str
  | .non => "None"
  | .bl b => if b then "True" else "False"
  | .int i => toString i
  | .str z => reprText z
  | .tup us => tupleText (shownL nm us)
  | .lst us => listText (shownL nm us)
  | .dct us => dictText [reprText "a" ++ ": " ++ listText (shownL nm us), (toString (1 : Int) : Str) ++ ": " ++ "None"]
  | .exc => nm ++ "()"
def shownL (nm : Str) : List U → List Str
  | [] => []
  | u :: us => shown nm u :: shownL nm us
end
mutual
def dep : U → Nat
  | .tup us | .lst us => depL us + 1
  | .dct us => depL us + 2
  | .exc => 3
  | _ => 0
def depL : List U → Nat
  | [] => 0
  | u :: us => max (dep u) (depL us)
end
mutual
/-- all its integers are small -/
def smallU : U → Prop
  | .int i => i.natAbs.log2 < 1920
  | .tup us | .lst us | .dct us => smallL us
  | _ => True
def smallL : List U → Prop
  | [] => True
  | u :: us => smallU u ∧ smallL us
end
end Hu
namespace Hu
open PySem PySem.Spec PyProof.Rows L2
section
variable {P : Program} {wd : World} {K : PySem.W.Frag} {w C : Addr} {H : Hp} {h₀ : Heap} {nm : Str}
/-- an empty tuple -/
def Emp (h : Heap) (b : Addr) : Prop := ∃ o m, h.get? b = some o ∧ o.cls = .type "tuple" ∧ o.data = .seq #[] m
def Inn (w C : Addr) (H : Hp) (h : Heap) (n : Nat) (bs : List Addr) : Prop := ∀ b ∈ bs, (∃ u, At w C H (.ref b) u ∧ dep u ≤ n) ∨ Emp h b
theorem Inn.mono {n m : Nat} {bs : List Addr} (x : Inn w C H h₀ n bs) (l : n ≤ m) : Inn w C H h₀ m bs := fun b hb => by
  rcases x b hb with ⟨u, a, d⟩ | e
  · exact .inl ⟨u, a, Nat.le_trans d l⟩
  · exact .inr e
theorem Inn.append {n : Nat} {bs cs : List Addr} (x : Inn w C H h₀ n bs) (y : Inn w C H h₀ n cs) : Inn w C H h₀ n (bs ++ cs) := fun b hb =>
  (List.mem_append.mp hb).elim (x b) (y b)
theorem Inn.not_mem {n : Nat} {bs : List Addr} {a : Addr} {u : U} (x : Inn w C H h₀ n bs) (y : At w C H (.ref a) u) (l : n < dep u) (e : ¬ Emp h₀ a) : a ∉ bs := fun hm => by
  rcases x a hm with ⟨u', y', l'⟩ | q
  · have := y.one y'
    subst this
    omega
  · exact e q
theorem Inn.cons {n : Nat} {bs : List Addr} {a : Addr} {u : U} (x : Inn w C H h₀ n bs) (y : At w C H (.ref a) u) (l : n ≤ dep u) : Inn w C H h₀ (dep u) (a :: bs) := fun b hb => by
  rcases List.mem_cons.mp hb with e | hb
  · subst e
    exact .inl ⟨u, y, Nat.le_refl _⟩
  · exact (x.mono l) b hb
theorem shownL_mem {us : List U} {t : Str} (h : t ∈ shownL nm us) : ∃ u ∈ us, t = shown nm u := by
  induction us with
  | nil => simp [shownL] at h
  | cons u us ih =>
    rw [shownL] at h
    rcases List.mem_cons.mp h with e | h
    · exact ⟨u, List.mem_cons_self, e⟩
    · obtain ⟨x, hx, e⟩ := ih h
      exact ⟨x, List.mem_cons_of_mem _ hx, e⟩
/-- the repr of a list of items within a list object at b -/
theorem list_reprs {b : Addr} {xs : List V} {its : List Value} {us : List U} {bs : List Addr} {n d : Nat} (hb : h₀.get? b = some { cls := .type "list", data := .seq its.toArray n }) (hna : b ∉ bs)
    (hk : ReprAllK P wd bs h₀ d its (shownL nm us)) : ReprK P wd (b :: bs) h₀ (d + 1) (.ref b) (listText (shownL nm us)) := by
  cases its with
  | nil =>
    cases us with
    | nil =>
      show ReprK P wd (b :: bs) h₀ (d + 1) (.ref b) (listText [])
      rw [listText_nil]
      exact ReprK.listEmpty hb rfl rfl
    | cons u us => rw [shownL] at hk; cases hk
  | cons x l => exact ReprK.list hb rfl rfl hna (by simpa using hk.length_eq) (fun i y e => hk.item i y (by simpa using e))
theorem rep_tup (ok : HOk P wd H h₀) {a : Addr} {xs : List V} {us : List U} (h : Tu H a xs us) (n : a ≠ w) (l : AtL w C H xs us)
    (rec : ∀ its, Vals xs its → ∃ bs, Inn w C H h₀ (depL us) bs ∧ ReprAllK P wd bs h₀ (depL us) its (shownL nm us)) :
    ∃ bs, Inn w C H h₀ (dep (.tup us)) bs ∧ ReprK P wd bs h₀ (dep (.tup us)) (.ref a) (shown nm (.tup us)) := by
  obtain ⟨_, its, rv, o, h1, h2, m, h3⟩ : ObjOk P wd H h₀ a (.tup xs) := by
    obtain ⟨ho, e, q⟩ := h.got
    have := ok a _ e
    rcases q with rfl | ⟨b, rfl⟩
    · exact this
    · exact this.2
  obtain ⟨bs, hb, hk⟩ := rec its rv
  have y : At w C H (.ref a) (.tup us) := .tup h n l
  have hd : depL us < dep (.tup us) := by simp only [dep]; omega
  by_cases e : its = []
  · subst e
    have hl := rv.length
    have hu := AtL.length l
    have ex : us = [] := List.length_eq_zero_iff.mp (by rw [← hu, hl]; rfl)
    subst ex
    refine ⟨[a], fun b hb => .inl ⟨_, by rw [List.mem_singleton.mp hb]; exact y, Nat.le_refl _⟩, ?_⟩
    simp only [shown, dep]
    exact ReprK.tuple (as := []) h1 h2 h3 (by simp) (by rw [shownL]; exact .nil)
  · have hna : a ∉ bs := hb.not_mem y hd fun ⟨o', m', q1, q2, q3⟩ => by
      rw [h1] at q1
      cases q1
      rw [h3] at q3
      injection q3 with q3 _
      exact e (by simpa using congrArg Array.toList q3)
    refine ⟨a :: bs, hb.cons y (Nat.le_of_lt hd), ?_⟩
    simp only [shown, dep]
    exact ReprK.tuple h1 h2 h3 hna (by simpa using hk)
theorem rep_lst (ok : HOk P wd H h₀) {a : Addr} {xs : List V} {us : List U} (h : H a = some (.lst xs)) (n : a ≠ w) (l : AtL w C H xs us)
    (rec : ∀ its, Vals xs its → ∃ bs, Inn w C H h₀ (depL us) bs ∧ ReprAllK P wd bs h₀ (depL us) its (shownL nm us)) :
    ∃ bs, Inn w C H h₀ (dep (.lst us)) bs ∧ ReprK P wd bs h₀ (dep (.lst us)) (.ref a) (shown nm (.lst us)) := by
  obtain ⟨_, its, m, rv, h1⟩ := ok a _ h
  obtain ⟨bs, hb, hk⟩ := rec its rv
  have y : At w C H (.ref a) (.lst us) := .lst h n l
  have hd : depL us < dep (.lst us) := by simp only [dep]; omega
  have hna : a ∉ bs := hb.not_mem y hd fun ⟨o', m', q1, q2, q3⟩ => by
    rw [h1] at q1
    cases q1
    simp at q2
  refine ⟨a :: bs, hb.cons y (Nat.le_of_lt hd), ?_⟩
  simp only [shown, dep]
  exact list_reprs (xs := []) h1 hna hk
theorem pairs2 {el : List DictEntry} {k1 k2 : Key} {x1 x2 : Value} (g : Pairs (mixKind P wd) el [(k1, x1), (k2, x2)]) : ∃ e1 e2 : DictEntry, el = [e1, e2] ∧ keyIs k1 e1.key = true ∧ e1.val = x1 ∧ keyIs k2 e2.key = true ∧ e2.val = x2 := by
  cases g with
  | cons a1 b1 g =>
    cases g with
    | cons a2 b2 g =>
      cases g
      exact ⟨_, _, rfl, a1, b1, a2, b2⟩
theorem kv2 {k1 k2 : Key} {v1 v2 : V} {vs : List (Key × Value)} (kv : KV [(k1, v1), (k2, v2)] vs) : ∃ x1 x2, vs = [(k1, x1), (k2, x2)] ∧ RelV v1 x1 ∧ RelV v2 x2 := by
  cases kv with
  | @cons _ q1 _ _ r1 kv =>
    cases kv with
    | @cons _ q2 _ _ r2 kv =>
      cases kv
      obtain ⟨a1, b1⟩ := q1
      obtain ⟨a2, b2⟩ := q2
      obtain ⟨e1, r1⟩ := r1
      obtain ⟨e2, r2⟩ := r2
      cases e1
      cases e2
      exact ⟨_, _, rfl, r1, r2⟩
theorem dct_parts (ok : HOk P wd H h₀) {a b : Addr} {xs : List V} {us : List U} (h : H a = some (.dK [(.inr "a", .ref b), (.inl 1, .non)])) (n : a ≠ w) (h2 : H b = some (.lst xs)) (n2 : b ≠ w) (l : AtL w C H xs us)
    (rec : ∀ its, Vals xs its → ∃ bs, Inn w C H h₀ (depL us) bs ∧ ReprAllK P wd bs h₀ (depL us) its (shownL nm us)) :
    ∃ bs o es ep, Inn w C H h₀ (depL us + 1) bs ∧ a ∉ bs ∧ h₀.get? a = some o ∧ o.cls = .type "dict" ∧ o.data = .dict es ep ∧ (a == sysModules) = false ∧
      ReprEntriesK P wd bs h₀ (depL us + 1) es.toList [reprText "a" ++ ": " ++ listText (shownL nm us), (toString (1 : Int) : Str) ++ ": " ++ "None"] := by
  obtain ⟨bs, hB, kb⟩ := rep_lst ok h2 n2 l rec
  have y : At w C H (.ref a) (.dct us) := .dct h n h2 n2 l
  have hda : dep (.lst us) < dep (.dct us) := by simp only [dep]; omega
  obtain ⟨_, hsys, vs, kv, o, es, ep, g1, g2, g3, _, g4, _⟩ := ok a _ h
  have hna : a ∉ bs := hB.not_mem y hda fun ⟨o', m', q1, q2, q3⟩ => by
    rw [g1] at q1
    cases q1
    rw [g3] at q3
    cases q3
  obtain ⟨x1, x2, rfl, r1, r2⟩ := kv2 kv
  cases r1
  cases r2
  obtain ⟨e1, e2, ee, a1, b1, a2, b2⟩ := pairs2 g4
  simp only [shown, dep] at kb hB
  refine ⟨bs, o, es, ep, hB, hna, g1, g2.1, g3, hsys, ?_⟩
  rw [ee]
  rcases keyIs_shape a1 with ⟨i, t, q, _⟩ | ⟨z, t, q, ek⟩
  · cases q
  · cases q
    rcases keyIs_shape a2 with ⟨i, t', q, ek2⟩ | ⟨z, t', q, _⟩
    · cases q
      refine .cons ?_ ?_ (.cons ?_ ?_ .nil)
      · rw [ek]
        exact .of_is (ReprIs.str _ t (by rw [sizeLine_eq]; decide +kernel)) _ _ _
      · rw [b1]
        exact kb
      · rw [ek2]
        exact .of_is (ReprIs.int t' (by decide)) _ _ _
      · rw [b2]
        exact .of_is ReprIs.none _ _ _
    · cases q
theorem rep_dct (ok : HOk P wd H h₀) {a b : Addr} {xs : List V} {us : List U} (h : H a = some (.dK [(.inr "a", .ref b), (.inl 1, .non)])) (n : a ≠ w) (h2 : H b = some (.lst xs)) (n2 : b ≠ w) (l : AtL w C H xs us)
    (rec : ∀ its, Vals xs its → ∃ bs, Inn w C H h₀ (depL us) bs ∧ ReprAllK P wd bs h₀ (depL us) its (shownL nm us)) :
    ∃ bs, Inn w C H h₀ (dep (.dct us)) bs ∧ ReprK P wd bs h₀ (dep (.dct us)) (.ref a) (shown nm (.dct us)) := by
  obtain ⟨bs, o, es, ep, hB, hna, g1, g2, g3, hsys, hE⟩ := dct_parts ok h n h2 n2 l rec
  refine ⟨a :: bs, hB.cons (.dct h n h2 n2 l) (by simp only [dep]; omega), ?_⟩
  simp only [shown, dep]
  exact ReprK.dict (d := depL us + 1) g1 g2 g3 hsys hna hE
theorem exc_at (ok : HOk P wd H h₀) {a t : Addr} (h : H a = some (ExN C t a)) (h2 : H t = some (.tup [])) : HxExc C a t h₀ := by
  obtain ⟨⟨o, vs, q1, q2, q3, q4, q5⟩, _, _⟩ := ok a _ h
  obtain ⟨_, its, rv, o', g1, g2, m, g3⟩ := ok t _ h2
  cases rv
  exact ⟨⟨o, vs, q1, q2, q3, q4, q5⟩, o', m, g1, g2, g3⟩
theorem rep_exc (ok : HOk P wd H h₀) (X : K.In h₀) (R : HxRepr K C nm) {a t : Addr} (h : H a = some (ExN C t a)) (n : a ≠ w) (h2 : H t = some (.tup [])) (n2 : t ≠ w) : ∃ bs, Inn w C H h₀ (dep .exc) bs ∧ ReprK P wd bs h₀ (dep .exc) (.ref a) (shown nm .exc) := by
  have hx := exc_at ok h h2
  refine ⟨[a, t], fun b hb => ?_, ?_⟩
  · rcases List.mem_cons.mp hb with e | hb
    · subst e
      exact .inl ⟨.exc, .exc h n h2 n2, Nat.le_refl _⟩
    · rw [List.mem_singleton.mp hb]
      obtain ⟨_, o, m, q1, q2, q3⟩ := hx
      exact .inr ⟨o, m, q1, q2, q3⟩
  · simp only [shown, dep]
    exact hx_repr X hx R (fun _ h => nomatch h)
theorem rep_cons {u : U} {us : List U} {x : Value} {xs : List Value} (h1 : ∃ bs, Inn w C H h₀ (dep u) bs ∧ ReprK P wd bs h₀ (dep u) x (shown nm u)) (h2 : ∃ bs, Inn w C H h₀ (depL us) bs ∧ ReprAllK P wd bs h₀ (depL us) xs (shownL nm us)) :
    ∃ bs, Inn w C H h₀ (depL (u :: us)) bs ∧ ReprAllK P wd bs h₀ (depL (u :: us)) (x :: xs) (shownL nm (u :: us)) := by
  obtain ⟨b1, i1, k1⟩ := h1
  obtain ⟨b2, i2, k2⟩ := h2
  refine ⟨b1 ++ b2, ?_, ?_⟩
  · simp only [depL]
    exact (i1.mono (Nat.le_max_left _ _)).append (i2.mono (Nat.le_max_right _ _))
  · simp only [depL, shownL]
    exact .cons ((k1.more fun b hb => List.mem_append_left _ hb).level_le (Nat.le_max_left _ _)) (k2.more_le (fun b hb => List.mem_append_right _ hb) (Nat.le_max_right _ _))
theorem small_dct {us : List U} (hz : (shown nm (.dct us)).length ≤ sizeLine) : ∀ t ∈ shownL nm us, t.length ≤ sizeLine := fun t ht => by
  simp only [shown] at hz
  have hz1 := dictText_mem_le (ps := [reprText "a" ++ ": " ++ listText (shownL nm us), (toString (1 : Int) : Str) ++ ": " ++ "None"]) (List.mem_cons_self)
  rw [strLen_append] at hz1
  have := listText_mem_le ht
  omega
def Rp (P : Program) (wd : World) (w C : Addr) (H : Hp) (h₀ : Heap) (nm : Str) (u : U) : Prop := ∀ (v : V) (x : Value), At w C H v u → RelV v x → smallU u → (shown nm u).length ≤ sizeLine → ∃ bs, Inn w C H h₀ (dep u) bs ∧ ReprK P wd bs h₀ (dep u) x (shown nm u)
theorem list_rp : ∀ (us : List U) (vs : List V) (xs : List Value), (∀ u ∈ us, Rp P wd w C H h₀ nm u) → AtL w C H vs us → Vals vs xs → smallL us → (∀ t ∈ shownL nm us, t.length ≤ sizeLine) →
    ∃ bs, Inn w C H h₀ (depL us) bs ∧ ReprAllK P wd bs h₀ (depL us) xs (shownL nm us)
  | [], _, _, _, l, r, _, _ => by
    cases l
    cases r
    exact ⟨[], (fun _ h => nomatch h), by simp only [shownL]; exact .nil⟩
  | u :: us, _, _, ih, l, r, hs, hz => by
    cases l with
    | cons x l =>
      cases r with
      | cons rx rl =>
        simp only [smallL] at hs
        simp only [shownL] at hz
        exact rep_cons (ih u List.mem_cons_self _ _ x rx hs.1 (hz _ List.mem_cons_self)) (list_rp us _ _ (fun y hy => ih y (List.mem_cons_of_mem _ hy)) l rl hs.2 (fun t ht => hz t (List.mem_cons_of_mem _ ht)))
theorem dep_mem {us : List U} {u : U} (h : u ∈ us) : dep u ≤ depL us := by
  induction us with
  | nil => cases h
  | cons x us ih =>
    simp only [depL]
    rcases List.mem_cons.mp h with e | h
    · subst e
      exact Nat.le_max_left _ _
    · exact Nat.le_trans (ih h) (Nat.le_max_right _ _)
theorem rp_all (ok : HOk P wd H h₀) (X : K.In h₀) (R : HxRepr K C nm) : ∀ (n : Nat) (u : U), dep u ≤ n → Rp P wd w C H h₀ nm u := by
  intro n
  induction n with
  | zero =>
    intro u hd v x h r hs hz
    cases h with
    | non => cases r; exact ⟨[], (fun _ h => nomatch h), by simp only [shown]; exact .of_is ReprIs.none _ _ _⟩
    | bl b => cases r; exact ⟨[], (fun _ h => nomatch h), by simp only [shown]; exact .of_is (ReprIs.bool b) _ _ _⟩
    | int i => obtain ⟨t, rfl⟩ := r; exact ⟨[], (fun _ h => nomatch h), by simp only [shown]; exact .of_is (ReprIs.int t (by simpa only [smallU] using hs)) _ _ _⟩
    | str z => obtain ⟨t, rfl⟩ := r; exact ⟨[], (fun _ h => nomatch h), by simp only [shown]; exact .of_is (ReprIs.str z t (by simpa only [shown] using hz)) _ _ _⟩
    | tup => simp only [dep] at hd; omega
    | lst => simp only [dep] at hd; omega
    | dct => simp only [dep] at hd; omega
    | exc => simp only [dep] at hd; omega
  | succ n ih =>
    intro u hd v x h r hs hz
    cases h with
    | non => cases r; exact ⟨[], (fun _ h => nomatch h), by simp only [shown]; exact .of_is ReprIs.none _ _ _⟩
    | bl b => cases r; exact ⟨[], (fun _ h => nomatch h), by simp only [shown]; exact .of_is (ReprIs.bool b) _ _ _⟩
    | int i => obtain ⟨t, rfl⟩ := r; exact ⟨[], (fun _ h => nomatch h), by simp only [shown]; exact .of_is (ReprIs.int t (by simpa only [smallU] using hs)) _ _ _⟩
    | str z => obtain ⟨t, rfl⟩ := r; exact ⟨[], (fun _ h => nomatch h), by simp only [shown]; exact .of_is (ReprIs.str z t (by simpa only [shown] using hz)) _ _ _⟩
    | @tup a xs us h1 n1 l =>
      cases r
      simp only [dep] at hd
      exact rep_tup ok h1 n1 l fun its rv => list_rp us _ _ (fun y hy => ih y (by have := dep_mem hy; omega)) l rv (by simpa only [smallU] using hs) (fun t ht => Nat.le_trans (tupleText_mem_le ht) (by simpa only [shown] using hz))
    | @lst a xs us h1 n1 l =>
      cases r
      simp only [dep] at hd
      exact rep_lst ok h1 n1 l fun its rv => list_rp us _ _ (fun y hy => ih y (by have := dep_mem hy; omega)) l rv (by simpa only [smallU] using hs) (fun t ht => Nat.le_trans (listText_mem_le ht) (by simpa only [shown] using hz))
    | @dct a b xs us h1 n1 h2 n2 l =>
      cases r
      simp only [dep] at hd
      exact rep_dct ok h1 n1 h2 n2 l fun its rv => list_rp us _ _ (fun y hy => ih y (by have := dep_mem hy; omega)) l rv (by simpa only [smallU] using hs) (small_dct hz)
    | exc h1 n1 h2 n2 =>
      cases r
      exact rep_exc ok X R h1 n1 h2 n2
end
end Hu
/-! a def run where the guards around it are known to be none: for what asks for a repr -/
namespace Gd
open PySem PySem.Spec PyProof.Rows L2
/-- one run of a def's body, at one place -/
theorem run_at {CX : CXT} {P : Program} {wd : World} {F : PySem.W.Frag} {mg : Str → Option Value} {base : Heap} {k : Nat} {fa : Addr} {nm qn : Str} {prm : Arguments} {code : List Stmt} {sc : Scope} {d1 d2 d3 d4 d5 d6 d7 : Value} {an od : Option Addr}
    {slots : Array (Option Value)} {N ps : List Str} (at_f : F.lookup fa = some ⟨d7, od, .func (PySem.W.fnOf nm qn prm code sc d1 d2 d3 d4 an d5 d6), slots⟩) (rec : PySem.W.codeIn F d5 qn = true) (sco : FnScope N ps sc)
    {A : Around} {outer : List Env} {s : Shared} {H : Hp} {args : Args} {us : List Value} {vs : List V} {Q : VK} {E : XK} (room : Room (k + 1) A) (ev : Env0 P wd F mg base A outer s H) (bd : BindsTo s (PySem.W.fnOf nm qn prm code sc d1 d2 d3 d4 an d5 d6) args (ps.zip us))
    (rv : Vals vs us) (len : vs.length = ps.length) (body : Room k (A.deeper (envOfC qn sc s.heap.objs.size fa d5)) → ∃ t, PSs (cxOf CX P wd F mg base N qn sc fa d5 A outer s H E) code t ∧ t { nx := fun _ H' => Q .non H', rt := Q } (start N vs) H) :
    codeAny (model P wd) A (.call (.ref fa) args) (CR CX outer P wd H s Q E) s := by
  obtain ⟨t, body1, body2⟩ := body (room.deeper _)
  have inF : F.In s.heap := ev.mod.kin.keeps fun b o q => And.left (ev.bs b o q)
  have kinds : ∀ y ∈ ps.zip us, sc.names.lookup y.1 = some .local ∨ (sc.names.lookup y.1 = some .cell ∧ ((cellsFrom (s.heap.objs.size + 1) sc.names []).lookup y.1).isSome = true) := by
    rintro ⟨n, v⟩ hy
    rcases sco.par n (And.left (List.of_mem_zip hy)) with z | z
    · exact Or.inl z
    · exact Or.inr ⟨z, PySem.W.cellsFrom_some _ _ _ (Or.inl z)⟩
  refine codeAny_call_function room.depth (inF _ _ at_f) rfl sco.co sco.gen rfl (PySem.W.codeRec_of inF rec) (bd _ _ _ _ (wpAny_newFunctionEnv_cells sco.kind kinds fun env he s1 x => ?_))
  subst he
  have noLimit : s.heap.NoLimit := ev.mod.nolimit.keeps fun b o q => And.left (ev.bs b o q)
  refine ⟨noLimit.keeps x.toInCall.keep, codeAny_func (wpAny_mono (body1.run [] s1 (start N vs) H _ (inv_start sco room.hd ev len rv x) body2) (fun fl s' q => ?_) fun _ _ z => z)⟩
  cases fl with
  | ret u => obtain ⟨v, σ', H', J, r, q⟩ := q; exact ⟨v, H', J.os, J.bare, J.base, J.hok, r, q⟩
  | next => obtain ⟨σ', H', J, q⟩ := q; exact ⟨V.non, H', J.os, J.bare, J.base, J.hok, rfl, q⟩
  | brk => exact (Exists.elim q fun _ q => Exists.elim q fun _ q => q.2).elim
  | cont => exact (Exists.elim q fun _ q => Exists.elim q fun _ q => q.2).elim
/-- the end of a law's call: nothing that stood is changed -/
theorem law_end {P : Program} {wd : World} {s₁ s' : Shared} {H : Hp} {r : Result} (only : ∀ b, H b = none ∨ ∃ o xs, H b = some (.frz o (.lst xs))) (hok : HOk P wd H s₁.heap)
    (h : CR CX0 [] P wd H s₁ (fun v _ => v = .bl true) (fun _ _ _ => False) r s') : r = .ok (.ret (.bool true)) ∧ OldK s₁.heap s'.heap ∧ s'.os = s₁.os ∧ AllBare s'.gens := by
  match r, h with
  | .ok (.ret u), ⟨v, H', os, gens, un, ok2, ru, ev⟩ =>
    have ev : v = V.bl true := ev
    subst ev
    cases (show u = Value.bool true from ru)
    have none_in : ∀ b : Addr, b ∉ ([] : List Addr) := fun b => List.not_mem_nil
    refine ⟨rfl, OldK.of_keep fun b o e => ?_, os, gens⟩
    rcases only b with z | ⟨ob, xs, z⟩
    · exact un.keep b o e z (none_in b) (none_in b)
    · have here := (hok b _ z).1
      have there := (ok2 b _ (un.frzs b ob _ z)).1
      rw [e] at here
      cases here
      exact there
theorem law_at {P : Program} {wd : World} {F : PySem.W.Frag} {mg mb : Str → Option Value} {fa a : Addr} {s₁ : Shared} {vs : List Value} {ns : List Int} (inF : F.In s₁.heap) (main : s₁.heap.Ns mainGlobals mg) (bns : s₁.heap.Ns builtinsNs mb) (boot : ∀ x : Str, x ≠ "__name__" → mb x = bootBuiltins x)
    (lim : s₁.heap.NoLimit) (gens : s₁.gens = #[]) (script : s₁.heap.get? a = some { cls := .type "list", data := .seq vs.toArray }) (areI : IntsAre vs ns) (few : ns.length ≤ sizeLine)
    (go : ∀ (base : Heap) (H : Hp), F.In base → base.Ns mainGlobals mg → Env0 P wd F mg base callerA [] s₁ H → SqL F H a (ns.map V.int) → codeAny (model P wd) callerA (.call (.ref fa) ⟨[.ref a], []⟩) (CR CX0 [] P wd H s₁ (fun v _ => v = .bl true) (fun _ _ _ => False)) s₁) :
    codeAny (model P wd) callerA (.call (.ref fa) ⟨[.ref a], []⟩) (fun r s' => r = .ok (.ret (.bool true)) ∧ OldK s₁.heap s'.heap ∧ s'.os = s₁.os ∧ AllBare s'.gens) s₁ := by
  have rel := vals_ints areI
  have size := areI.length
  have main_case : ∀ H : Hp, (∀ b u, H b = some u → b = a ∧ F.lookup a = none ∧ u = .frz { cls := .type "list", data := .seq vs.toArray } (.lst (ns.map V.int))) → SqL F H a (ns.map V.int) →
      codeAny (model P wd) callerA (.call (.ref fa) ⟨[.ref a], []⟩) (fun r s' => r = .ok (.ret (.bool true)) ∧ OldK s₁.heap s'.heap ∧ s'.os = s₁.os ∧ AllBare s'.gens) s₁ := by
    intro H only sq
    have here : ∀ {b : Addr} {o : Obj}, s₁.heap.get? b = some o → (b = a → F.lookup a = none → False) → (hidT s₁.heap H).get? b = some o := fun {b o} e no => by
      refine hidT_get e ?_
      cases q : H b with
      | none => rfl
      | some u => exact (no (only b u q).1 (only b u q).2.1).elim
    have spaces : ∀ {b : Addr} {m : Str → Option Value}, s₁.heap.Ns b m → (hidT s₁.heap H).Ns b m := fun {b m} z => by
      obtain ⟨o, es, ep, e, d, r⟩ := z
      refine ⟨o, es, ep, here e (fun q _ => ?_), d, r⟩
      rw [q, script] at e
      cases e
      cases d
    have inB : F.In (hidT s₁.heap H) := fun b o e => here (inF b o e) fun q z => by
      rw [q, z] at e
      cases e
    have hok : HOk P wd H s₁.heap := fun b u e => by
      obtain ⟨rfl, _, rfl⟩ := only b u e
      exact ⟨script, by rw [List.length_map]; exact few, vs, _, rel, script⟩
    have env : Env0 P wd F mg (hidT s₁.heap H) callerA [] s₁ H :=
      ⟨rfl, ⟨inB, spaces main, ⟨mb, spaces bns, boot⟩, Exists.elim lim fun m z => ⟨m, spaces z.1, z.2⟩⟩, fun b o e => of_hidT e, Nat.le_of_eq (hidT_size _ _), trivial, fun b z => (List.not_mem_nil (show b ∈ ([] : List Addr) from z)).elim, hok, .of_eq gens⟩
    refine codeAny_mono (go _ H inB (spaces main) env sq) fun r s' z => law_end (fun b => ?_) hok z
    cases q : H b with
    | none => exact .inl rfl
    | some u => exact .inr ⟨_, _, congrArg some (only b u q).2.2⟩
  cases q : F.lookup a with
  | some o =>
    have e := (inF a o q).symm.trans script
    cases e
    exact main_case (fun _ => none) (fun _ _ z => by cases z) (.inr ⟨_, vs.toArray, _, q, rfl, rfl, rfl, by rw [List.size_toArray, size]; exact few, by simpa using rel⟩)
  | none =>
    refine main_case (fun b => if b = a then some (.frz { cls := .type "list", data := .seq vs.toArray } (.lst (ns.map V.int))) else none) (fun b u z => ?_) (.inl (.inr ⟨_, if_pos rfl⟩))
    by_cases e : b = a
    · have z2 := (if_pos e).symm.trans z
      exact ⟨e, q, (Option.some.inj z2).symm⟩
    · have z2 := (if_neg e).symm.trans z
      cases z2
/-- what the head leaves, from the law's run at the caller -/
theorem walk_at {l : PySem.W.OpenLaw} {n : Nat} {q : Program} {loose : List Str} {XP : (Str → Option Value) → Heap → Prop} {YP : World → Heap → Prop} {d : DefRec} {F : Params → PySem.W.Frag} (most : l.most = some n) (line : n ≤ sizeLine) (plain : d.params.defaults = [])
    (inF : ∀ (w : World) (h : Heap), YP w h → (F w.params).In h)
    (go : ∀ (w : World) (mg : Str → Option Value) (fa : Addr) (h : Heap), (F w.params).In h → h.Ns mainGlobals mg → mg d.name = some (.ref fa) →
      ∀ (s : Shared) (a : Addr) (ns : List Int) (base : Heap) (H : Hp), (F w.params).In base → base.Ns mainGlobals mg → Env0 l.prog w (F w.params) mg base callerA [] s H → SqL (F w.params) H a (ns.map V.int) →
        codeAny (model l.prog w) callerA (.call (.ref fa) ⟨[.ref a], []⟩) (CR CX0 [] l.prog w H s (fun v _ => v = .bl true) (fun _ _ _ => False)) s) :
    PySem.W.WalkO q loose XP YP l.row.toRowW d [] (fun f vs => PySem.call f vs) :=
  Att.attach_call most plain fun w s₀ s₁ mg mb fa o pm cd doc a vs ns G Y ho hd hcd hmg obj areI len gens =>
    law_at (inF w _ Y) G.T.g G.T.b G.T.builtins G.T.nolimit gens obj areI (Nat.le_trans len line) fun base H => go w mg fa _ (inF w _ Y) G.T.g hmg s₁ a ns base H
end Gd
namespace Hu
open PySem PySem.Spec PyProof.Rows L2
section
variable {X : Cx} {w C : Addr} {nm : Str}
/-- repr(x), any value of the law's, where nothing is shown around -/
theorem call_reprU {k : Nat} (room : Room k X.A) (bare : X.A.guards = some []) (R : HxRepr X.K C nm) :
    CallR X (.builtin "repr") (fun xs H Q => ∃ (v : V) (u : U) (w : Addr), xs = [v] ∧ At w C H v u ∧ smallU u ∧ dep u ≤ 60 ∧ (shown nm u).length ≤ sizeLine ∧ Q (.str (shown nm u)) H) := by
  intro pins s σ H xs us Q I r h
  obtain ⟨v, u, w, rfl, hat, hs, hd, hz, q⟩ := h
  obtain ⟨x, rfl, rx⟩ := vals1 r
  have hu := room.units
  have ok := I.hok
  have X0 := I.kIn
  have fin : ∀ (h' : Heap) (t : Tok) (tk : Nat), (∀ b o, s.heap.get? b = some o → h'.get? b = some o) → EP X pins σ Q (.str (shown nm u) t) { s with heap := h', toks := tk } := fun h' t tk kp =>
    ⟨.str (shown nm u), H, I.un (Un.kept kp) (I.hok.kept kp), ⟨t, rfl⟩, q⟩
  have rp : ∀ (us : List U) (vs : List V) (its : List Value), depL us ≤ 60 → AtL w C H vs us → Vals vs its → smallL us → (∀ t ∈ shownL nm us, t.length ≤ sizeLine) → ∃ bs, Inn w C H s.heap (depL us) bs ∧ ReprAllK X.prog X.w bs s.heap (depL us) its (shownL nm us) :=
    fun us vs its hd l rv hs hz => list_rp us vs its (fun y hy => rp_all ok X0 R 60 y (Nat.le_trans (dep_mem hy) hd)) l rv hs hz
  cases hat with
  | non =>
    cases rx
    simp only [shown] at fin
    exact PySem.P.repr_of_none (fin s.heap _ _ fun _ _ e => e)
  | bl b =>
    cases rx
    simp only [shown] at fin
    exact PySem.P.repr_of_bool (fin s.heap _ _ fun _ _ e => e)
  | int i =>
    obtain ⟨t, rfl⟩ := rx
    simp only [shown] at fin
    exact PySem.P.repr_of_int (by simpa only [smallU] using hs) (fin s.heap _ _ fun _ _ e => e)
  | str z =>
    obtain ⟨t, rfl⟩ := rx
    simp only [shown] at fin hz
    exact PySem.P.repr_of_str (fin s.heap _ _ fun _ _ e => e) hz
  | @tup a xs us h1 n1 l =>
    cases rx
    simp only [dep] at hd
    have hz' : (tupleText (shownL nm us)).length ≤ sizeLine := by simpa only [shown] using hz
    obtain ⟨_, its, rv, o, g1, g2, m, g3⟩ := h1.ok ok
    obtain ⟨bs, hb, hk⟩ := rp us xs its (by omega) l rv (by simpa only [smallU] using hs) (fun t ht => Nat.le_trans (tupleText_mem_le ht) hz')
    have hna : ∃ bs, a ∉ bs ∧ ReprAllK X.prog X.w bs s.heap (depL us) its (shownL nm us) := by
      by_cases e : its = []
      · subst e
        have hl := rv.length
        have ex : us = [] := List.length_eq_zero_iff.mp (by rw [← AtL.length l, hl]; rfl)
        subst ex
        exact ⟨[], by simp, by rw [shownL]; exact .nil⟩
      · refine ⟨bs, hb.not_mem (.tup h1 n1 l) (by simp only [dep]; omega) fun ⟨o', m', q1, q2, q3⟩ => ?_, hk⟩
        rw [g1] at q1
        cases q1
        rw [g3] at q3
        injection q3 with q3 _
        exact e (by simpa using congrArg Array.toList q3)
    obtain ⟨bs, hna, hk⟩ := hna
    simp only [shown] at fin
    exact call_repr_slot (by omega) ⟨o, g1, g2⟩ F.slot_tuple_repr (call_tuple_reprK g1 g2 g3 hna (by simpa using hk) (A := X.A.in1) bare (fun b _ => Clear.nil b) (by show X.A.units + 1 + _ < _; omega) (fun _ _ e => e) (fun h' u tk kp => ⟨_, _, rfl, fin h' u tk kp⟩) hz')
  | @lst a xs us h1 n1 l =>
    cases rx
    simp only [dep] at hd
    have hz' : (listText (shownL nm us)).length ≤ sizeLine := by simpa only [shown] using hz
    obtain ⟨_, its, m, rv, g1⟩ := ok a _ h1
    obtain ⟨bs, hb, hk⟩ := rp us xs its (by omega) l rv (by simpa only [smallU] using hs) (fun t ht => Nat.le_trans (listText_mem_le ht) hz')
    have hna : a ∉ bs := hb.not_mem (.lst h1 n1 l) (by simp only [dep]; omega) fun ⟨o', m', q1, q2, q3⟩ => by
      rw [g1] at q1
      cases q1
      simp at q2
    simp only [shown] at fin
    refine call_repr_slot (by omega) ⟨_, g1, rfl⟩ F.slot_list_repr.toG ?_
    cases its with
    | nil =>
      cases us with
      | nil =>
        simp only [shownL, listText_nil] at fin
        exact call_list_repr_empty ⟨_, g1, rfl⟩ g1 rfl ⟨_, _, rfl, fin s.heap _ _ fun _ _ e => e⟩
      | cons u us => rw [shownL] at hk; cases hk
    | cons y l2 =>
      exact call_list_reprK (A := X.A.in1) g1 rfl rfl hna (by simpa using hk.length_eq) (fun i y e => hk.item i y (by simpa using e)) bare (fun b _ => Clear.nil b) (by show X.A.units + 1 + _ < _; omega) (fun _ _ e => e) (fun h' u tk kp => ⟨_, _, rfl, fin h' u tk kp⟩) hz'
  | @dct a b xs us h1 n1 h2 n2 l =>
    cases rx
    simp only [dep] at hd
    have hz' : (dictText [reprText "a" ++ ": " ++ listText (shownL nm us), (toString (1 : Int) : Str) ++ ": " ++ "None"]).length ≤ sizeLine := by simpa only [shown] using hz
    obtain ⟨bs, o, es, ep, hB, hna, g1, g2, g3, hsys, hE⟩ := dct_parts ok h1 n1 h2 n2 l fun its rv => rp us xs its (by omega) l rv (by simpa only [smallU] using hs) (small_dct hz)
    simp only [shown] at fin
    exact call_repr_slot (by omega) ⟨o, g1, g2⟩ F.slot_dict_repr (call_dict_reprK (A := X.A.in1) g1 g2 g3 hsys hna hE bare (fun b _ => Clear.nil b) (by show X.A.units + 1 + _ < _; omega) (fun _ _ e => e) (fun h' u tk kp => ⟨_, _, rfl, fin h' u tk kp⟩) hz')
  | exc h1 n1 h2 n2 =>
    cases rx
    have hx := exc_at ok h1 h2
    simp only [shown] at fin hz
    exact hx_reprTop X0 hx R hz bare (by omega) fin
end
end Hu
/-! isinstance of any value of the law's, and the error that it may be -/
namespace Hu
open PySem PySem.Spec PyProof.Rows L2
/-- the class of the errors among the values: how isinstance asks them, what repr tells -/
structure Xc (K : PySem.W.Frag) (mg : Str → Option Value) (x : Str) (C : Addr) (nm : Str) : Prop where
  g : mg x = some (.ref C)
  x : PySem.W.excIn K C [.type "ValueError", .type "Exception", .type "BaseException", .type "object"] "ValueError.__new__" = true
  k : PySem.W.keepIn K (.ref C) = true
  c : L2.ExcC K C
  r : HxRepr K C nm
  ki : PySem.W.kitOne K (.ref C) (.type "int") = some false
  kb : PySem.W.kitOne K (.ref C) (.type "bool") = some false
  ks : PySem.W.kitOne K (.ref C) (.type "str") = some false
  kt : PySem.W.kitOne K (.ref C) (.type "tuple") = some false
def tyU : U → String
  | .non => "NoneType"
  | .bl _ => "bool"
  | .int _ => "int"
  | .str _ => "str"
  | .tup _ => "tuple"
  | .lst _ => "list"
  | .dct _ => "dict"
  | .exc => "?"
def isS (S T : String) : Bool := S == T || (S == "bool" && T == "int")
/-- isinstance(u, T), T one of int, bool, str, tuple -/
def isT (u : U) (T : String) : Bool := isS (tyU u) T
theorem kit_is {S T : String} (hS : S ∈ ["NoneType", "bool", "int", "str", "tuple", "list", "dict"]) (hT : T ∈ ["int", "bool", "str", "tuple"]) : kitB S T = some (isS S T) := by
  have : (["NoneType", "bool", "int", "str", "tuple", "list", "dict"].all fun S => ["int", "bool", "str", "tuple"].all fun T => decide (kitB S T = some (isS S T))) = true := by decide +kernel
  exact of_decide_eq_true (List.all_eq_true.mp (List.all_eq_true.mp this S hS) T hT)
theorem ExN.inst {P : Program} {wd : World} {H : Hp} {h : Heap} {C a t : Addr} (ok : HOk P wd H h) (e : H a = some (ExN C t a)) : ∃ o, PySem.W.InstAt h a o C none := by
  obtain ⟨⟨o, vs, h1, h2, h3, _, h5⟩, _, _⟩ := ok a _ e
  refine ⟨o, ?_⟩
  obtain ⟨oc, od, oda, osl⟩ := o
  dsimp only at h2 h3 h5
  subst h2 h3 h5
  exact ⟨h1, rfl, rfl, trivial⟩
section
variable {X : Cx} {w C : Addr} {nm x : Str}
/-- isinstance(v, T) -/
theorem call_isiU (T : String) (E : Xc X.K X.mg x C nm) (hT : T ∈ ["int", "bool", "str", "tuple"]) :
    CallR X (.builtin "isinstance") (fun xs H Q => ∃ (v : V) (u : U) (w : Addr), xs = [v, .ty T] ∧ At w C H v u ∧ Q (.bl (isT u T)) H) := by
  intro pins s σ H xs us Q I r h
  obtain ⟨v, u, w, rfl, hat, q⟩ := h
  have plain : ∀ S, TyX X.K H v (.type S) → kitB S T = some (isT u T) → wpAny (model X.prog X.w) X.A (call (.builtin "isinstance") us) (EP X pins σ Q) X.xe s := fun S ty kb =>
    call_isi pins s σ H _ us Q I r ⟨v, .ty T, .type S, .type T, isT u T, rfl, .ty T, ty, kit_ty kb, q⟩
  cases hat with
  | non => exact plain _ (.base .non) (kit_is (by simp) hT)
  | bl b => exact plain _ (.base (.bl b)) (kit_is (by simp) hT)
  | int i => exact plain _ (.base (.int i)) (kit_is (by simp) hT)
  | str z => exact plain _ (.base (.str z)) (kit_is (by simp) hT)
  | tup h _ _ =>
    obtain ⟨ho, e, q⟩ := h.got
    rcases q with rfl | ⟨b, rfl⟩
    · exact plain _ (.base (.tup e)) (kit_is (by simp) hT)
    · exact plain _ (.fTuple e) (kit_is (by simp) hT)
  | lst h _ _ => exact plain _ (.base (.lst h)) (kit_is (by simp) hT)
  | dct h _ _ _ _ => exact plain _ (.base (.dK h)) (kit_is (by simp) hT)
  | exc h n _ _ =>
    obtain ⟨u1, u2, rfl, r1, r2⟩ := vals2 r
    cases r1
    cases r2
    obtain ⟨o, J⟩ := ExN.inst I.hok h
    have c := E.c
    have e : PySem.W.kitOne X.K (.ref C) (.type T) = some false ∧ isT .exc T = false := by
      simp only [List.mem_cons, List.not_mem_nil, or_false] at hT
      rcases hT with rfl | rfl | rfl | rfl
      · exact ⟨E.ki, by decide +kernel⟩
      · exact ⟨E.kb, by decide +kernel⟩
      · exact ⟨E.ks, by decide +kernel⟩
      · exact ⟨E.kt, by decide +kernel⟩
    rw [e.2] at q
    exact PySem.W.kia_one (PySem.W.handS_kitx_exc c.hg c.hk c.hs c.hd c.ha c.hn c.ht c.hm) I.kIn J e.1 (fun z => nomatch z) fun tk => ⟨.bl false, H, I.tok tk, rfl, q⟩
/-- an error as a value: X() -/
theorem pe_exc0 {y : Str} {p pos : Pos} (E : Xc X.K X.mg y C nm) (hg : Gl X y) (hdb : (y == ("__debug__" : Str)) = false := by decide) :
    PE X (.Call (.Name y p) [] [] pos) (fun σ H Q => ∀ a t, H a = none → H t = none → a ≠ t → Q (.ref a) (upd (upd H t (.tup [])) a (ExN C t a))) := by
  refine ⟨fun pins s σ H Q I h => ?_⟩
  refine wpAny_Call_Name_kw (ld_glob I hg E.g ?_ hdb)
  refine PySem.W.callWith_K0 I.kIn E.k ?_
  show wpAny _ _ (call (.ref C) []) _ _ _
  obtain ⟨bm, N, nm, qn, bs, hdct, sn, sub, ab, col, dd, k0, k1, k2, k3, k5, mN, hC, hN, hni, T⟩ := exc_obj I.kIn E.x
  refine wpAny_call_exc_subT PySem.F.excBase_ValueError T hC hN hni (fun h' a hm => ?_) (Nat.zero_le _)
  have hn : H a = none := I.hok.gone hm.new
  obtain ⟨t, ht, htn, htt⟩ := hm.there
  have hn2 : H t = none := I.hok.gone htn
  have nat : a ≠ t := fun e => by
    rw [e, htt] at ht
    cases ht
  have na : upd H t (.tup []) a = none := by
    rw [upd_ne nat]
    exact hn
  have ok1 : HOk X.prog X.w (upd H t (.tup [])) h' := I.hok.laidN hm.keeps hn2 ⟨Nat.zero_le _, [], .nil, _, htt, rfl, _, rfl⟩
  have ok2 : HOk X.prog X.w (upd (upd H t (.tup [])) a (ExN C t a)) h' := ok1.laidN (fun _ _ q => q) na ⟨⟨_, _, ht, rfl, rfl, rfl, rfl⟩, ⟨_, ht⟩, fun _ _ ⟨o, vs, q, r⟩ k => ⟨o, vs, k o q, r⟩⟩
  have same : ∀ b o, H b = some o → upd (upd H t (.tup [])) a (ExN C t a) b = some o := fun b o q => by
    rw [upd_ne (ne_of_none q hn), upd_ne (ne_of_none q hn2)]
    exact q
  have I2 : Inv X pins σ (upd (upd H t (.tup [])) a (ExN C t a)) { s with heap := h' } := I.un (t' := s.toks)
    { keep := fun b u q _ _ _ => hm.keeps b u q
      slot := fun b u q _ _ _ => ⟨u.slots, hm.keeps b u q⟩
      free := fun b u q n _ => by
        rw [upd_ne (fun e => by rw [e, hm.new] at q; cases q), upd_ne (fun e => by rw [e, htn] at q; cases q)]
        exact n
      there := fun b u q _ => ⟨u, hm.keeps b u q⟩
      tups := fun b xs q => same b _ q
      frzs := fun b o u q => same b _ q
      tbls := fun b ps q => ⟨#[], by rw [same b _ q]; simp⟩ } ok2
  exact ⟨.ref a, _, I2, rfl, h a t hn hn2 nat⟩
end
end Hu
namespace Hs
open PySem PySem.Spec PyProof.Rows L2
def topS (i : Nat) : Stmt := PySem.Challenge.pw_homeshold_k04_tables_judged_and_read.main.body.getD i (.Pass ⟨0, 0, 0, 0⟩)
abbrev sMixed : Stmt := topS 90
abbrev sWell : Stmt := topS 91
abbrev sFilled : Stmt := topS 92
abbrev sDraw : Stmt := topS 93
/-! ### heaps -/
/-- all that was tracked stands as it was, but for what stands at w -/
def Keep (w : Addr) (H H' : Hp) : Prop := ∀ b o, b ≠ w → H b = some o → H' b = some o
theorem Keep.refl (w : Addr) (H : Hp) : Keep w H H := fun _ _ _ h => h
theorem Keep.trans {w : Addr} {H H1 H2 : Hp} (a : Keep w H H1) (b : Keep w H1 H2) : Keep w H H2 := fun c o n h => b c o n (a c o n h)
theorem Keep.of_same {w : Addr} {H H' : Hp} (s : Same H H') : Keep w H H' := fun b o _ h => s b o h
theorem Keep.updw {w : Addr} {H : Hp} {o : HO} : Keep w H (upd H w o) := fun b u n h => by
  rw [upd_ne n]
  exact h
theorem same_upd {H : Hp} {p : Addr} {o : HO} (h : H p = none) : Same H (upd H p o) := fun b x e => by
  rw [upd_ne (ne_of_none e h)]
  exact e
theorem Keep.new {w : Addr} {H : Hp} {p : Addr} {o : HO} (h : H p = none) : Keep w H (upd H p o) := .of_same (same_upd h)
/-- where a well stands: w the well, c its cells -/
structure WA where
  (w c : Addr)
/-- a well: a list of the cells, how many were taken, what is left of a cell, the mix -/
structure Well (H : Hp) (a : WA) : Prop where
  ex : ∃ (cells : List Int) (pos : Nat) (rest mix : Int), H a.w = some (.lst [.ref a.c, .int (pos : Int), .int rest, .int mix]) ∧ H a.c = some (.lst (cells.map V.int)) ∧ a.c ≠ a.w ∧ (cells.length ≤ 63)
/-- what a draw leaves -/
structure Drawn (a : WA) (H H' : Hp) : Prop where
  keep : Keep a.w H H'
  well : Well H' a
variable {a : WA} {H H' H1 H2 : Hp} {p : Addr} {o : HO}
theorem Drawn.refl (h : Well H a) : Drawn a H H := ⟨.refl _ _, h⟩
theorem Drawn.trans (x : Drawn a H H1) (y : Drawn a H1 H2) : Drawn a H H2 := ⟨x.keep.trans y.keep, y.well⟩
theorem Well.same (h : Well H a) (s : Same H H') : Well H' a := by
  obtain ⟨cells, pos, rest, mix, h1, h2, n, l⟩ := h.ex
  exact ⟨cells, pos, rest, mix, s _ _ h1, s _ _ h2, n, l⟩
theorem Drawn.same (x : Drawn a H H1) (y : Same H1 H2) : Drawn a H H2 := ⟨x.keep.trans (.of_same y), x.well.same y⟩
theorem Drawn.new (x : Drawn a H H1) (h : H1 p = none) : Drawn a H (upd H1 p o) := x.same (same_upd h)
theorem Well.at (h : Well H a) : ∃ o, H a.w = some o := by
  obtain ⟨cells, pos, rest, mix, h1, _⟩ := h.ex
  exact ⟨_, h1⟩
theorem Well.ne (h : Well H a) (n : H p = none) : p ≠ a.w ∧ p ≠ a.c := by
  obtain ⟨cells, pos, rest, mix, h1, h2, _⟩ := h.ex
  exact ⟨(ne_of_none h1 n).symm, (ne_of_none h2 n).symm⟩
theorem Drawn.free (e : Drawn a H H') (hw : Well H a) (h : H' p = Option.none) : H p = Option.none := by
  by_cases q : p = a.w
  · subst q
    obtain ⟨o, h1⟩ := e.well.at
    rw [h1] at h
    cases h
  · cases z : H p with
    | none => rfl
    | some o =>
      rw [e.keep p o q z] at h
      cases h
/-- what is new since H is written -/
theorem Drawn.put (x : Drawn a H H1) (hw : Well H a) (n : H p = none) : Drawn a H (upd H1 p o) := by
  obtain ⟨n1, n2⟩ := hw.ne n
  refine ⟨fun b u nb e => ?_, ?_⟩
  · rw [upd_ne (ne_of_none e n)]
    exact x.keep b u nb e
  · obtain ⟨cells, pos, rest, mix, h1, h2, n, l⟩ := x.well.ex
    exact ⟨cells, pos, rest, mix, by rw [upd_ne n1.symm]; exact h1, by rw [upd_ne n2.symm]; exact h2, n, l⟩
theorem Drawn.there (x : Drawn a H H1) (hw : Well H a) {u : HO} (n : p ≠ a.w) (e : H p = some u) : H1 p = some u := x.keep p u n e
/-- the names of the built-ins that the text leaves alone -/
structure Bt (mg : Str → Option Value) : Prop where
  int : mg "int" = none
  len : mg "len" = none
  range : mg "range" = none
  all : mg "all" = none
  isi : mg "isinstance" = none
  tup : mg "tuple" = none
  lst : mg "list" = none
  str : mg "str" = none
  max : mg "max" = none
  boo : mg "bool" = none
  sum : mg "sum" = none
  rep : mg "repr" = none
section
variable {P : Program} {w : World} {K : PySem.W.Frag} {mg : Str → Option Value} {base : Heap}
/-! ### the draws -/
def spMixed : Sp := fun vs H Q _ => ∃ n : Int, vs = [.int n] ∧ ∀ r : Int, Q (.int r) H
theorem scMixed : FnScope ["number"] ["number"] (defScope sMixed) := ⟨rfl, rfl, rfl, by decide +kernel, rfl, by decide +kernel, by decide +kernel⟩
theorem fmod_lt {a b : Int} (h : 0 < b) : 0 ≤ a.fmod b ∧ a.fmod b < b := by
  rw [Int.fmod_eq_emod_of_nonneg _ (Int.le_of_lt h)]
  exact ⟨Int.emod_nonneg _ (by omega), Int.emod_lt_of_pos _ h⟩
theorem nz {j : Int} (h : decide (j = 0) = false) : j ≠ 0 := of_decide_eq_false h
theorem ok_mixed {f : Addr} {fd : FuncData} (F : Fun K "_law_mixed" "_law_mixed" sMixed f fd) (B : Bt mg) : FnOk P w K mg base CX0 1 f fd ["number"] spMixed := by
  refine F.ok scMixed (fun vs H Q E h => ?_) (fun cdv A outer s H vs Q E hr h => ?_)
  · obtain ⟨n, rfl, _⟩ := h
    rfl
  · obtain ⟨n, rfl, k⟩ := h
    have hI := B.int
    refine ⟨_, pss_cons (ps_set (i := 0) scMixed.nd rfl (.inl rfl) (pe_op op_modN (pe_callTy call_int1 (by rfl) hI boot_int (pa_cons (pe_op op_add (pe_op op_mul (pv 0) pe_int) pe_int) pa_nil)) pe_int))
      (pss_cons (ps_set (i := 0) scMixed.nd rfl (.inl rfl) (pe_op op_modN (pe_callTy call_int1 (by rfl) hI boot_int (pa_cons (pe_op op_add (pe_op op_mul (pv 0) (pe_op op_add (pe_op op_fdivN (pv 0) pe_int) pe_int)) pe_int) pa_nil)) pe_int))
      (pss_one (ps_ret (pe_op op_add (pe_op op_mul (pv 0) pe_int) (pe_op op_modN (pe_callTy call_int1 (by rfl) hI boot_int (pa_cons (pe_op op_add (pe_op op_mul (pv 0) (pe_op op_add (pe_op op_fdivN (pv 0) pe_int) pe_int)) pe_int) pa_nil)) pe_int))))), ?_⟩
    refine ⟨_, rfl, _, _, rfl, rfl, .inr (by decide), _, _, rfl, rfl, .inl ⟨_, rfl, _, _, rfl, rfl, nz rfl, ?_⟩⟩
    have b1 := fmod_lt (a := n * 48271 + 11) (b := 2147483647) (by decide)
    refine ⟨_, rfl, _, rfl, _, _, rfl, rfl, ⟨by decide, by decide⟩, _, _, rfl, rfl, _, _, rfl, rfl, .inl ⟨by omega, by omega⟩, _, _, rfl, rfl, .inl ⟨_, rfl, _, _, rfl, rfl, nz rfl, ?_⟩⟩
    have b2 := fmod_lt (a := (n * 48271 + 11).fmod 2147483647 * (((n * 48271 + 11).fmod 2147483647).fdiv 1009 + 69621) + 7919) (b := 2147483647) (by decide)
    refine ⟨_, rfl, _, _, rfl, rfl, .inl ⟨by omega, by omega⟩, _, rfl, _, rfl, _, _, rfl, rfl, ⟨by decide, by decide⟩, _, _, rfl, rfl, _, _, rfl, rfl, .inl ⟨by omega, by omega⟩, _, _, rfl, rfl, .inl ⟨_, rfl, _, _, rfl, rfl, nz rfl, ?_⟩⟩
    exact ⟨_, _, rfl, rfl, k _⟩
/-- a def of the text, found by its name -/
structure Df (K : PySem.W.Frag) (mg : Str → Option Value) (x : Str) (st : Stmt) (ps : List Str) (f : Addr) (fd : FuncData) : Prop where
  F : Fun K x x st f fd
  b : Binds K fd ps []
  g : mg x = some (.ref f)
def spFilled : Sp := fun vs H Q _ => ∃ wl : WA, vs = [.ref wl.w] ∧ Well H wl ∧ ∀ (r : Int) (H' : Hp), Drawn wl H H' → Q (.int r) H'
theorem scFilled : FnScope ["well", "cell"] ["well"] (defScope sFilled) := ⟨rfl, rfl, rfl, by decide +kernel, rfl, by decide +kernel, by decide +kernel⟩
theorem ok_filled {f fM : Addr} {fd fdM : FuncData} (F : Fun K "_law_filled" "_law_filled" sFilled f fd) (B : Bt mg) (DM : Df K mg "_law_mixed" sMixed ["number"] fM fdM) : FnOk P w K mg base CX0 2 f fd ["well"] spFilled := by
  have GM : FnOk P w K mg base CX0 1 fM fdM ["number"] spMixed := ok_mixed DM.F B
  refine F.ok scFilled (fun vs H Q E h => ?_) (fun cdv A outer s H vs Q E hr h => ?_)
  · obtain ⟨n, rfl, _⟩ := h
    rfl
  · obtain ⟨wl, rfl, W, k⟩ := h
    have hI := B.int
    have hL := B.len
    refine ⟨_, pss_cons (ps_asg (pe_op op_add (pe_ix ix_list (pv 0) pe_int (fun _ _ => rfl)) pe_int) (pg_sub (pv 0) pe_int set_list))
      (pss_cons (ps_if (pt_cmpR op_le (pe_ix ix_list (pv 0) pe_int (fun _ _ => rfl)) (pe_callB call_len_seq (by rfl) hL PySem.boot_len (pa_cons (pe_ix ix_list (pv 0) pe_int (fun _ _ => rfl)) pa_nil)) (nomark _))
        (pss_cons (ps_set (i := 1) scFilled.nd rfl (.inl rfl) (pe_ix ix_list (pe_ix ix_list (pv 0) pe_int (fun _ _ => rfl)) (pe_op op_sub (pe_ix ix_list (pv 0) pe_int (fun _ _ => rfl)) pe_int) (fun _ _ => rfl)))
          (pss_cons (ps_asg (pe_op op_modN (pe_callTy call_int1 (by rfl) hI boot_int (pa_cons (pe_op op_add (pe_op op_add (pe_op op_mul (pe_ix ix_list (pv 0) pe_int (fun _ _ => rfl)) pe_int) (pv 1)) pe_int) pa_nil)) pe_int) (pg_sub (pv 0) pe_int set_list))
            (pss_cons (ps_if (pt_cmpR op_ge (pv 1) (pe_op op_pow pe_int pe_int) (nomark _)) (pss_one (ps_ret (pv 1))) pss_nil)
              (pss_one (ps_ret (pe_call GM hr (by rfl) DM.g DM.F.kp DM.b .nil pass0 (pa_cons (pe_op op_add (pv 1) (pe_op op_mul pe_int (pe_ix ix_list (pv 0) pe_int (fun _ _ => rfl)))) pa_nil))))))) pss_nil)
      (pss_one (ps_ret (pe_call GM hr (by rfl) DM.g DM.F.kp DM.b .nil pass0 (pa_cons (pe_op op_add (pe_ix ix_list (pv 0) pe_int (fun _ _ => rfl)) (pe_op op_mul pe_int (pe_ix ix_list (pv 0) pe_int (fun _ _ => rfl)))) pa_nil))))), ?_⟩
    obtain ⟨wl, c⟩ := wl
    obtain ⟨cells, pos, rest, mix, h1, h2, n, l⟩ := W.ex
    dsimp only at h1 h2 n
    refine ⟨_, rfl, wl, _, _, _, rfl, rfl, SqL.of h1, atI_nat (j := 1) rfl, _, _, rfl, rfl, ?_⟩
    refine ⟨_, rfl, wl, _, _, _, rfl, rfl, h1, rfl, ?_⟩
    have u1 := upd_same (H := H) (a := wl) (o := .lst [.ref c, .int ((pos : Int) + 1), .int rest, .int mix])
    have u2 : upd H wl (.lst [.ref c, .int ((pos : Int) + 1), .int rest, .int mix]) c = some (.lst (cells.map V.int)) := by
      rw [upd_ne n]
      exact h2
    refine ⟨_, rfl, wl, _, _, _, rfl, rfl, SqL.of u1, atI_nat (j := 1) rfl, _, rfl, wl, _, _, _, rfl, rfl, SqL.of u1, atI_nat (j := 0) rfl, c, _, rfl, .inl (SqL.of u2), _, _, rfl, rfl, _, rfl, ?_⟩
    refine ite2 (fun q => ?_) (fun q => ?_)
    · have q1 : (pos : Int) + 1 ≤ ((cells.map V.int).length : Int) := of_decide_eq_true q
      rw [List.length_map] at q1
      have q2 : pos < cells.length := by omega
      have e1 : (cells.map V.int)[pos]? = some (.int cells[pos]) := by
        rw [List.getElem?_map, List.getElem?_eq_getElem q2]
        rfl
      refine ⟨_, rfl, wl, _, _, _, rfl, rfl, SqL.of u1, atI_nat (j := 0) rfl, _, rfl, wl, _, _, _, rfl, rfl, SqL.of u1, atI_nat (j := 1) rfl, _, _, rfl, rfl, c, _, _, _, rfl, rfl, SqL.of u2, at_of (by omega) e1, ?_⟩
      refine ⟨_, rfl, wl, _, _, _, rfl, rfl, SqL.of u1, atI_nat (j := 3) rfl, _, _, rfl, rfl, .inr (by decide), _, rfl, _, _, rfl, rfl, _, _, rfl, rfl, .inl ⟨_, rfl, _, _, rfl, rfl, nz rfl, ?_⟩⟩
      refine ⟨_, rfl, wl, _, _, _, rfl, rfl, u1, rfl, ?_⟩
      have D : ∀ z : Int, Drawn ⟨wl, c⟩ H (upd (upd H wl (.lst [.ref c, .int ((pos : Int) + 1), .int rest, .int mix])) wl (.lst [.ref c, .int ((pos : Int) + 1), .int rest, .int z])) := fun z => by
        rw [upd_upd]
        refine ⟨.updw, ⟨cells, pos + 1, rest, z, ?_, ?_, n, l⟩⟩
        · exact upd_same
        · rw [upd_ne n]
          exact h2
      refine ⟨_, rfl, _, _, rfl, rfl, ⟨by decide, by decide, by decide⟩, _, _, rfl, rfl, _, rfl, ite2 (fun q => ?_) (fun q => ?_)⟩
      · exact ⟨_, rfl, k _ _ (D _)⟩
      · refine ⟨_, rfl, _, rfl, wl, _, _, _, rfl, rfl, SqL.of upd_same, atI_nat (j := 1) rfl, _, _, rfl, rfl, .inl (by decide), _, _, rfl, rfl, ?_⟩
        exact ⟨_, rfl, fun r => k _ _ (D _)⟩
    · have D : Drawn ⟨wl, c⟩ H (upd H wl (.lst [.ref c, .int ((pos : Int) + 1), .int rest, .int mix])) := ⟨.updw, ⟨cells, pos + 1, rest, mix, upd_same, u2, n, l⟩⟩
      refine ⟨_, rfl, wl, _, _, _, rfl, rfl, SqL.of u1, atI_nat (j := 3) rfl, _, rfl, wl, _, _, _, rfl, rfl, SqL.of u1, atI_nat (j := 1) rfl, _, _, rfl, rfl, .inl (by decide), _, _, rfl, rfl, ?_⟩
      exact ⟨_, rfl, fun r => k _ _ D⟩
def spDraw : Sp := fun vs H Q _ => ∃ (wl : WA) (m : Int), vs = [.ref wl.w, .int m] ∧ Well H wl ∧ 0 < m ∧ m < 2 ^ 62 ∧ ∀ (d : Int) (H' : Hp), 0 ≤ d → d < m → Drawn wl H H' → Q (.int d) H'
theorem scDraw : FnScope ["well", "many", "told"] ["well", "many"] (defScope sDraw) := ⟨rfl, rfl, rfl, by decide +kernel, rfl, by decide +kernel, by decide +kernel⟩
theorem ok_draw {f fM fF : Addr} {fd fdM fdF : FuncData} (F : Fun K "_law_draw" "_law_draw" sDraw f fd) (B : Bt mg) (DM : Df K mg "_law_mixed" sMixed ["number"] fM fdM) (DF : Df K mg "_law_filled" sFilled ["well"] fF fdF) : FnOk P w K mg base CX0 3 f fd ["well", "many"] spDraw := by
  have GF : FnOk P w K mg base CX0 2 fF fdF ["well"] spFilled := ok_filled DF.F B DM
  refine F.ok scDraw (fun vs H Q E h => ?_) (fun cdv A outer s H vs Q E hr h => ?_)
  · obtain ⟨n, m, rfl, _⟩ := h
    rfl
  · obtain ⟨wl, m, rfl, W, m0, m1, k⟩ := h
    have hI := B.int
    refine ⟨_, Evl.pss_cut (ps_if (pt_cmpR op_eq (pe_ix ix_list (pv 0) pe_int (fun _ _ => rfl)) pe_int (nomark _)) (pss_one (ps_asg (pe_call GF hr (by rfl) DF.g DF.F.kp DF.b .nil pass0 (pa_cons (pv 0) pa_nil)) (pg_sub (pv 0) pe_int set_list))) pss_nil)
      (pss_cons (ps_set (i := 2) scDraw.nd rfl (.inl rfl) (pe_op op_modN (pe_callTy call_int1 (by rfl) hI boot_int (pa_cons (pe_ix ix_list (pv 0) pe_int (fun _ _ => rfl)) pa_nil)) (pv 1)))
      (pss_cons (ps_asg (pe_op op_fdivW (pe_callTy call_int1 (by rfl) hI boot_int (pa_cons (pe_ix ix_list (pv 0) pe_int (fun _ _ => rfl)) pa_nil)) (pv 1)) (pg_sub (pv 0) pe_int set_list))
      (pss_one (ps_ret (pv 2))))), ?_⟩
    refine ⟨fun σ' H' => σ' = [some (.ref wl.w), some (.int m), none] ∧ Drawn wl H H', ?_, ?_⟩
    · obtain ⟨cells, pos, rest, mix, h1, h2, n, l⟩ := W.ex
      refine ⟨_, rfl, wl.w, _, _, _, rfl, rfl, SqL.of h1, atI_nat (j := 2) rfl, rfl, _, rfl, ite2 (fun q => ?_) (fun q => ⟨rfl, .refl W⟩)⟩
      refine ⟨_, rfl, wl, rfl, W, fun r H1 D => ?_⟩
      obtain ⟨cells, pos, rest, mix, h1, h2, n, l⟩ := D.well.ex
      refine ⟨_, rfl, wl.w, _, _, _, rfl, rfl, h1, rfl, rfl, D.keep.trans .updw, cells, pos, r, mix, upd_same, ?_, n, l⟩
      rw [upd_ne n]
      exact h2
    · rintro σ' H1 ⟨rfl, D⟩
      obtain ⟨cells, pos, rest, mix, h1, h2, n, l⟩ := D.well.ex
      have b1 := fmod_lt (a := rest) m0
      refine ⟨_, rfl, wl.w, _, _, _, rfl, rfl, SqL.of h1, atI_nat (j := 2) rfl, .inl ⟨_, rfl, _, rfl, _, _, rfl, rfl, (by show m ≠ 0; omega), ?_⟩⟩
      refine ⟨_, rfl, wl.w, _, _, _, rfl, rfl, SqL.of h1, atI_nat (j := 2) rfl, .inl ⟨_, rfl, _, rfl, _, _, rfl, rfl, wide_div m0 (b := 62) (by omega) (by decide) (by decide), ?_⟩⟩
      refine ⟨_, rfl, wl.w, _, _, _, rfl, rfl, h1, rfl, ?_⟩
      refine ⟨_, rfl, k _ _ b1.1 b1.2 ⟨D.keep.trans .updw, cells, pos, _, mix, upd_same, ?_, n, l⟩⟩
      rw [upd_ne n]
      exact h2
end
end Hs
namespace Hs
open PySem PySem.Spec PyProof.Rows L2
abbrev sIsInt : Stmt := topS 11
abbrev sFromOne : Stmt := topS 13
abbrev sPair : Stmt := topS 14
abbrev sIsSigns : Stmt := topS 15
abbrev sAscending : Stmt := topS 16
abbrev sHome : Stmt := topS 17
abbrev sHand : Stmt := topS 18
abbrev sName : Stmt := topS 19
abbrev sText : Stmt := topS 999
abbrev sPiece : Stmt := topS 20
abbrev sBlockId : Stmt := topS 21
abbrev sRow : Stmt := topS 22
abbrev sStamp : Stmt := topS 23
abbrev sHead : Stmt := topS 999
abbrev sMembers : Stmt := topS 24
abbrev sMajority : Stmt := topS 999
abbrev sFew : Stmt := topS 999
abbrev sChopped : Stmt := topS 999
abbrev sJoined : Stmt := topS 999
abbrev lNumber : Stmt := topS 94
abbrev sSigns : Stmt := topS 95
abbrev sString : Stmt := topS 96
abbrev lName : Stmt := topS 97
abbrev lAny : Stmt := topS 99
abbrev lNodes : Stmt := topS 100
abbrev lChanged : Stmt := topS 101
abbrev lSpoilt : Stmt := topS 102
abbrev lId : Stmt := topS 103
abbrev lStamp : Stmt := topS 104
abbrev lRow : Stmt := topS 105
abbrev lMembers : Stmt := topS 106
abbrev lCount : Stmt := topS 113
abbrev lLong : Stmt := topS 114
abbrev lRising : Stmt := topS 115
abbrev lNameFits : Stmt := topS 116
abbrev lHandFits : Stmt := topS 117
abbrev lSignsFit : Stmt := topS 118
abbrev lIdFits : Stmt := topS 119
abbrev lStampFits : Stmt := topS 120
abbrev lRowFits : Stmt := topS 121
abbrev lMembersFit : Stmt := topS 122
abbrev lThing : Stmt := topS 136
abbrev lFlagsDue : Stmt := topS 999
abbrev lFlagsTold : Stmt := topS 999
abbrev lCounted : Stmt := topS 999
abbrev lMembersHold : Stmt := topS 999
abbrev lTextRefused : Stmt := topS 999
abbrev lPiecesRefused : Stmt := topS 999
abbrev lPiecesFit : Stmt := topS 999
abbrev lLaw : Stmt := topS 141
/-- an own error class without an __init__, over ValueError -/
structure Ec (K : PySem.W.Frag) (mg : Str → Option Value) (x : Str) (C : Addr) : Prop where
  g : mg x = some (.ref C)
  x : PySem.W.excIn K C [.type "ValueError", .type "Exception", .type "BaseException", .type "object"] "ValueError.__new__" = true
  k : PySem.W.keepIn K (.ref C) = true
  b : PySem.W.subIn K (.ref C) (.type "BaseException") = some true
  t : PySem.W.typeIn K (.ref C) = some (.type "type")
  e : PySem.W.exmOne K (.ref C) (.ref C) = some true
section
variable {X : Cx} {C : Addr} {bmB : List Value} {B newId initId : String}
/-- X() -/
theorem pmk_own0 {x : Str} {p pos : Pos} (F : ExcBaseFacts B newId initId bmB) (q : PySem.W.excIn X.K C bmB newId = true) (gC : X.mg x = some (.ref C)) (kC : PySem.W.keepIn X.K (.ref C) = true) (r : Raises X (.ref C)) (hg : Gl X x)
    (hdb : (x == ("__debug__" : Str)) = false := by decide) : PMk X (.Call (.Name x p) [] [] pos) (fun _ H Q => Q (.ref C) none H) := by
  intro pins s σ H Q I h
  refine wpAny_Call_Name_kw (ld_glob I hg gC ?_ hdb)
  refine PySem.W.callWith_K0 I.kIn kC ?_
  show wpAny _ _ (call (.ref C) []) _ _ _
  obtain ⟨bm, N, nm, qn, bs, hdct, sn, sub, ab, col, dd, k0, k1, k2, k3, k5, mN, hC, hN, hni, T⟩ := exc_obj I.kIn q
  refine wpAny_call_exc_subT F T hC hN hni (fun h' e hm => ?_) (Nat.zero_le _)
  exact mk_of I hm r h (I.hok.gone hm.new)
end
/-! ### signs -/
def okc (c : Nat) : Bool := decide (32 ≤ c) && decide (c ≤ 126)
def okz (z : Str) : Bool := (TL.tl z).all okc
theorem lt1 (a b : Nat) : decide (([a] : List Nat) < [b]) = decide (a < b) := by
  by_cases h : a < b
  · rw [decide_eq_true h]
    exact decide_eq_true (List.cons_lt_cons_iff.mpr (.inl h))
  · rw [decide_eq_false h]
    refine decide_eq_false fun q => ?_
    rcases List.cons_lt_cons_iff.mp q with q | ⟨_, q⟩
    · exact h q
    · exact absurd q (List.not_lt_nil _)
theorem not_lt1 (a b : Nat) : (!decide (([b] : List Nat) < [a])) = decide (a ≤ b) := by
  rw [lt1]
  by_cases h : b < a
  · rw [decide_eq_true h, decide_eq_false (by omega)]
    rfl
  · rw [decide_eq_false h, decide_eq_true (by omega)]
    rfl
def bit : Nat := 1000000
theorem bit_line : bit < sizeLine := by
  rw [sizeLine_eq]
  decide
theorem boot_str : bootBuiltins "str" = some (.type "str") := by decide +kernel
theorem boot_tuple' : bootBuiltins "tuple" = some (.type "tuple") := by decide +kernel
theorem boot_isi : bootBuiltins "isinstance" = some (.builtin "isinstance") := by decide +kernel
theorem boot_all' : bootBuiltins "all" = some (.builtin "all") := by decide +kernel
theorem kit_ss : kitB "str" "str" = some true := by decide +kernel
theorem codes_get {z : Str} {i c : Nat} (h : z.cps[i]? = some c) : (TL.tl z)[i]? = some c := by
  show z.cps.toList[i]? = some c
  rw [Array.getElem?_toList]
  exact h
section
variable {P : Program} {w : World} {K : PySem.W.Frag} {mg : Str → Option Value} {base : Heap}
/-! ### the law's signs -/
def signsZ : Str := (" !\"#$&'()*+,-./0123456789:;<=>?@ABCDEFGHIJKLMNOPQRSTUVWXYZ[\\]^_`" : Str) ++ ("abcdefghijklmnopqrstuvwxyz{|}~" : Str)
def okS (c : Nat) : Bool := okc c && decide (c ≠ 37)
theorem signs_len : (TL.tl signsZ).length = 94 := by decide +kernel
theorem signs_ok : (TL.tl signsZ).all okS = true := by decide +kernel
theorem scSigns : FnScope ["signs"] [] (defScope sSigns) := ⟨rfl, rfl, rfl, by decide +kernel, rfl, by decide +kernel, by decide +kernel⟩
def spSigns : Sp := fun vs H Q _ => vs = [] ∧ Q (.str signsZ) H
theorem ok_signs {f : Addr} {fd : FuncData} (F : Fun K "_law_signs" "_law_signs" sSigns f fd) : FnOk P w K mg base CX0 1 f fd [] spSigns := by
  refine F.ok scSigns (fun vs H Q E h => ?_) (fun cdv A outer s H vs Q E hr h => ?_)
  · rw [h.1]
    rfl
  · obtain ⟨rfl, k⟩ := h
    refine ⟨_, pss_cons (ps_set (i := 0) scSigns.nd rfl (.inl rfl) pe_str) (pss_one (ps_ret (pe_op op_add_str (pv 0) pe_str))), ?_⟩
    exact ⟨_, rfl, _, _, rfl, rfl, (by rw [sizeLine_eq]; decide +kernel), k⟩
/-- a text of signs but the percent sign -/
def lawz (z : Str) : Prop := ∀ c ∈ TL.tl z, okS c = true
theorem lawz.ok {z : Str} (h : lawz z) : okz z = true := List.all_eq_true.mpr fun c hc => by
  have := h c hc
  unfold okS at this
  rw [Bool.and_eq_true] at this
  exact this.1
theorem sgn_tl (c : Nat) : TL.tl (⟨#[c]⟩ : Str) = [c] := rfl
theorem join_tl (zs : List Str) : TL.tl (Txt.join ("" : Str) zs) = (zs.map TL.tl).flatten := by
  rw [TL.join_eq, TL.tl_join]
  have e : TL.tl ("" : Str) = [] := rfl
  rw [e]
  generalize zs.map TL.tl = l
  induction l with
  | nil => rfl
  | cons p r ih =>
    cases r with
    | nil => simp [TL.joinL]
    | cons q r =>
      show p ++ ([] ++ TL.joinL [] (q :: r)) = _
      rw [ih]
      rfl
def spString : Sp := fun vs H Q _ => ∃ (wl : WA) (m : Int), vs = [.ref wl.w, .int m] ∧ Well H wl ∧ m ≤ 1000 ∧ -1000 ≤ m ∧ ∀ (z : Str) (H' : Hp), z.length = m.toNat → lawz z → Drawn wl H H' → Q (.str z) H'
theorem scString : FnScope ["well", "many", "signs", "k"] ["well", "many"] (defScope sString) := ⟨rfl, rfl, rfl, by decide +kernel, rfl, by decide +kernel, by decide +kernel⟩
/-- the defs that draw -/
structure Dr (P : Program) (w : World) (K : PySem.W.Frag) (mg : Str → Option Value) (base : Heap) (fM fF fD fG fT : Addr) (dM dF dD dG dT : FuncData) : Prop where
  M : Df K mg "_law_mixed" sMixed ["number"] fM dM
  F : Df K mg "_law_filled" sFilled ["well"] fF dF
  D : Df K mg "_law_draw" sDraw ["well", "many"] fD dD
  G : Df K mg "_law_signs" sSigns [] fG dG
  T : Df K mg "_law_string" sString ["well", "many"] fT dT
  B : Bt mg
theorem cell_strs {D : Addr} {H : Hp} {zs : List Str} (h : H D = some (.lst (zs.map V.str))) : SqL K H D (zs.map V.str) := SqL.of h
theorem ok_string {fM fF fD fG fT : Addr} {dM dF dD dG dT : FuncData} (R : Dr P w K mg base fM fF fD fG fT dM dF dD dG dT) : FnOk P w K mg base CX0 4 fT dT ["well", "many"] spString := by
  have GD : FnOk P w K mg base CX0 3 fD dD ["well", "many"] spDraw := ok_draw R.D.F R.B R.M R.F
  have GG : FnOk P w K mg base CX0 3 fG dG [] spSigns := (ok_signs R.G.F).mono (by decide)
  refine R.T.F.ok scString (fun vs H Q E h => ?_) (fun cdv A outer s H vs Q E hr h => ?_)
  · obtain ⟨n, m, rfl, _⟩ := h
    rfl
  · obtain ⟨wl, m, rfl, W, m1, m2, k⟩ := h
    have hR := R.B.range
    refine ⟨_, pss_cons (ps_set (i := 2) scString.nd rfl (.inr rfl) (pe_call0 GG hr (by rfl) R.G.g R.G.F.kp R.G.b .nil pass0))
      (pss_one (ps_ret (pe_join pe_str (pe_lc (own := [("k", 3)]) (g := gName 3) (tt := tYes) rfl scString.nd (pi_range1 (by rfl) hR (pa_cons (pv 1) pa_nil)) (blkOk_by (N := ["well", "many", "signs", "k"]) (sc := defScope sString) (by decide +kernel))
        (fun _ _ _ _ _ => pg_name (i := 3) scString.nd rfl (Or.inl rfl)) (fun _ _ _ _ _ => pts_nil)
        (fun _ _ _ _ _ => pe_ix ix_str (pv 2) (pe_call GD hr (by rfl) R.D.g R.D.F.kp R.D.b .nil pass0 (pa_cons (pv 0) (pa_cons pe_int pa_nil))) (fun _ _ => rfl)))))), ?_⟩
    refine ⟨rfl, ⟨_, rfl⟩, _, rfl, m, rfl, by omega, by omega, fun D hD => ?_⟩
    refine lc_range (lo := 0) (n := m.toNat) (fun i H' => Drawn wl H H' ∧ ∃ zs : List Str, H' D = some (.lst (zs.map V.str)) ∧ zs.length = i ∧ ∀ z ∈ zs, ∃ c, z = ⟨#[c]⟩ ∧ okS c = true)
      ⟨(Drawn.refl W).new hD, [], upd_same, rfl, fun z hz => by cases hz⟩ ?_ ?_
    · rintro i H1 hi ⟨D1, zs, hz, hl, hc⟩
      have nD := (W.ne hD).1
      refine ⟨rfl, _, rfl, _, rfl, wl, 94, rfl, D1.well, by decide, by decide, fun d H2 d0 d1 D2 => ?_⟩
      have hd : d.toNat < (TL.tl signsZ).length := by
        rw [signs_len]
        omega
      have ho : okS (TL.tl signsZ)[d.toNat] = true := List.all_eq_true.mp signs_ok _ (List.getElem_mem hd)
      refine ⟨signsZ, d, (TL.tl signsZ)[d.toNat], rfl, rfl, ?_, ?_, zs.map V.str, D2.keep D _ nD hz, ?_, ?_⟩
      · rw [TL.len_tl, signs_len, sizeLine_eq]
        decide
      · have e : d = ((d.toNat : Nat) : Int) := by omega
        have hg : (TL.tl signsZ)[d.toNat]? = some (TL.tl signsZ)[d.toNat] := List.getElem?_eq_getElem hd
        have := atI_nat hg
        rw [← e] at this
        exact this
      · rw [List.length_map]
        have := bit_line
        unfold bit at this
        omega
      · refine ⟨(D1.trans D2).put W hD, zs ++ [⟨#[(TL.tl signsZ)[d.toNat]]⟩], ?_, ?_, ?_⟩
        · rw [upd_same, List.map_append]
          rfl
        · rw [List.length_append, hl]
          rfl
        · intro z hz
          rcases List.mem_append.mp hz with hz | hz
          · exact hc z hz
          · exact ⟨_, List.mem_singleton.mp hz, ho⟩
    · rintro H1 ⟨D1, zs, hz, hl, hc⟩
      have hs : ∀ l : List Str, (∀ z ∈ l, ∃ c, z = ⟨#[c]⟩ ∧ okS c = true) → (l.map (·.length)).sum = l.length ∧ ((l.map TL.tl).flatten).length = l.length ∧ ∀ c ∈ (l.map TL.tl).flatten, okS c = true := by
        intro l
        induction l with
        | nil => exact fun _ => ⟨rfl, rfl, fun c hc => by cases hc⟩
        | cons a r ih =>
          intro h
          obtain ⟨i1, i2, i3⟩ := ih fun z hz => h z (List.mem_cons_of_mem _ hz)
          obtain ⟨c, ec, oc⟩ := h a List.mem_cons_self
          subst ec
          refine ⟨?_, ?_, ?_⟩
          · rw [List.map_cons, List.sum_cons, i1, List.length_cons]
            show 1 + r.length = r.length + 1
            omega
          · show (TL.tl (⟨#[c]⟩ : Str) ++ (r.map TL.tl).flatten).length = _
            rw [sgn_tl, List.length_append, i2, List.length_cons]
            show 1 + r.length = r.length + 1
            omega
          · intro b hb
            have hb' : b ∈ TL.tl (⟨#[c]⟩ : Str) ++ (r.map TL.tl).flatten := hb
            rcases List.mem_append.mp hb' with hb | hb
            · rw [sgn_tl] at hb
              rw [List.mem_singleton.mp hb]
              exact oc
            · exact i3 b hb
      obtain ⟨h1, h2, h3⟩ := hs zs hc
      refine ⟨_, D, zs, rfl, rfl, .inl (SqL.of hz), ?_, k _ _ ?_ ?_ D1⟩
      · show (zs.map (·.length)).sum + zs.length * 0 ≤ 16777216
        omega
      · rw [TL.len_tl, join_tl, h2, hl]
      · intro c hc
        rw [join_tl] at hc
        exact h3 c hc
/-! ### the well -/
def spWell (K : PySem.W.Frag) : Sp := fun vs H Q _ => ∃ (a : Addr) (ns : List Int), vs = [.ref a] ∧ SqL K H a (ns.map V.int) ∧ ∀ (wl : WA) (H' : Hp), Same H H' → Well H' wl → Q (.ref wl.w) H'
theorem scWell : FnScope ["script", "cell"] ["script"] (defScope sWell) := ⟨rfl, rfl, rfl, by decide +kernel, rfl, by decide +kernel, by decide +kernel⟩
theorem ok_well {f : Addr} {fd : FuncData} (F : Fun K "_law_well" "_law_well" sWell f fd) (B : Bt mg) : FnOk P w K mg base CX0 1 f fd ["script"] (spWell K) := by
  refine F.ok scWell (fun vs H Q E h => ?_) (fun cdv A outer s H vs Q E hr h => ?_)
  · obtain ⟨n, m, rfl, _⟩ := h
    rfl
  · obtain ⟨a, ns, rfl, hS, k⟩ := h
    have hI := B.int
    refine ⟨_, pss_one (ps_ret (pe_lst (pa_cons (pe_lc (own := [("cell", 1)]) (g := gName 1) (tt := tYes) rfl scWell.nd (pi_list (pe_slice sl_list (pv 0) po_none (po_some pe_int))) (blkOk_by (N := ["script", "cell"]) (sc := defScope sWell) (by decide +kernel))
        (fun _ _ _ _ _ => pg_name (i := 1) scWell.nd rfl (Or.inl rfl)) (fun _ _ _ _ _ => pts_nil) (fun _ _ _ _ _ => pe_callTy call_int1 (by rfl) hI boot_int (pa_cons (pv 1) pa_nil)))
      (pa_cons pe_int (pa_cons pe_int (pa_cons pe_int pa_nil)))))), ?_⟩
    refine ⟨_, rfl, _, rfl, a, _, rfl, hS, fun p hp => ?_⟩
    have ec : cutV (ns.map V.int) none (some 63) = (ns.take 63).map V.int := by
      unfold cutV
      rw [HT.sIx_none, show HT.sIx (ns.map V.int).length (ns.map V.int).length (some 63) = min 63 (ns.map V.int).length from HT.sIx_nat _ _ 63]
      show List.take (min 63 (ns.map V.int).length - 0) (List.drop 0 (ns.map V.int)) = _
      rw [List.drop_zero, Nat.sub_zero, List.map_take, List.take_eq_take_iff]
      omega
    rw [ec]
    have l63 : (ns.take 63).length ≤ 63 := by
      rw [List.length_take]
      omega
    clear ec
    generalize ns.take 63 = cs at l63
    have s1 : Same H (upd H p (.lst (cs.map V.int))) := same_upd hp
    refine ⟨p, rfl, ⟨_, SqL.of upd_same⟩, fun D hD => ?_⟩
    have nDp : p ≠ D := ne_of_none upd_same hD
    refine lc_list (K := K) (a := p) (xs := cs.map V.int) (fun i H' => Same H H' ∧ H' p = some (.lst (cs.map V.int)) ∧ H' D = some (.lst ((cs.take i).map V.int)))
      ⟨s1.trans (same_upd hD), by rw [upd_ne nDp, upd_same], upd_same⟩ (fun i H' _ p => SqL.of p.2.1) ?_ ?_
    · rintro i x H1 hi ⟨sm, h1, h2⟩
      rw [List.getElem?_map] at hi
      cases e : cs[i]? with
      | none =>
        rw [e] at hi
        cases hi
      | some n =>
        rw [e] at hi
        have ex := Option.some.inj hi
        subst ex
        have hl := (List.getElem?_eq_some_iff.mp e).1
        refine ⟨rfl, _, rfl, .inl ⟨_, rfl, _, h2, ?_, fun b o hb => ?_, ?_, ?_⟩⟩
        · rw [List.length_map, List.length_take]
          have := bit_line
          unfold bit at this
          omega
        · rw [upd_ne (ne_of_none hb (s1.free hD))]
          exact sm _ _ hb
        · rw [upd_ne nDp]
          exact h1
        · rw [upd_same, List.take_add_one, e, List.map_append]
          rfl
    · rintro H1 ⟨sm, h1, h2⟩
      rw [List.length_map, List.take_length] at h2
      refine ⟨by show 4 ≤ sizeLine; decide, fun q hq => ?_⟩
      have nDq : D ≠ q := ne_of_none h2 hq
      refine k ⟨q, D⟩ _ (sm.trans (same_upd hq)) ⟨cs, 0, 0, 1, ?_, ?_, nDq, l63⟩
      · exact upd_same
      · rw [upd_ne nDq]
        exact h2
end
end Hs
/-! what is true of any value: read as values -/
namespace Hu
open PySem
mutual
/-- how long it is when shown, at most -/
def wt : U → Nat
  | .non => 4
  | .bl _ => 5
  | .int _ => 80
  | .str z => 2 * z.length + 2
  | .tup us => wtL us + 3
  | .lst us => wtL us + 2
  | .dct us => wtL us + 30
  | .exc => 30
def wtL : List U → Nat
  | [] => 0
  | u :: us => wt u + 2 + wtL us
end
mutual
/-- its signs are a text's or line feeds, its integers small -/
def clean : U → Prop
  | .int i => i.natAbs < 2 ^ 65
  | .str z => ∀ c ∈ TL.tl z, Hs.okS c = true ∨ c = 10
  | .tup us | .lst us | .dct us => cleanL us
  | _ => True
def cleanL : List U → Prop
  | [] => True
  | u :: us => clean u ∧ cleanL us
end
structure Fine (u : U) : Prop where
  w : wt u ≤ 1000000
  c : clean u
theorem wt_pos : ∀ u : U, 1 ≤ wt u := fun u => by cases u <;> simp only [wt] <;> omega
theorem wt_mem : ∀ {us : List U} {u : U}, u ∈ us → wt u ≤ wtL us
  | _ :: us, _, .head _ => by simp only [wtL]; omega
  | _ :: us, _, .tail _ h => by have := wt_mem h; simp only [wtL]; omega
theorem wt_len : ∀ us : List U, 2 * us.length ≤ wtL us
  | [] => Nat.zero_le _
  | u :: us => by have := wt_len us; simp only [wtL, List.length_cons]; omega
theorem clean_mem : ∀ {us : List U} {u : U}, cleanL us → u ∈ us → clean u
  | _ :: _, _, h, .head _ => h.1
  | _ :: _, _, h, .tail _ q => clean_mem h.2 q
theorem Fine.tup {us : List U} (h : Fine (.tup us)) : ∀ u ∈ us, Fine u := fun u hu => ⟨by have := h.w; have := wt_mem hu; simp only [wt] at *; omega, clean_mem (by simpa only [clean] using h.c) hu⟩
theorem Fine.len {us : List U} (h : Fine (.tup us)) : us.length ≤ 500000 := by
  have := h.w
  have := wt_len us
  simp only [wt] at *
  omega
theorem Fine.str {z : Str} (h : Fine (.str z)) : z.length ≤ 500000 := by
  have := h.w
  simp only [wt] at *
  omega
theorem isT_int {u : U} (h : (isT u "int" && !isT u "bool") = true) : ∃ i, u = .int i := by
  cases u with
  | int i => exact ⟨i, rfl⟩
  | _ => simp [isT, isS, tyU] at h
theorem isT_str {u : U} (h : isT u "str" = true) : ∃ z, u = .str z := by
  cases u with
  | str z => exact ⟨z, rfl⟩
  | _ => simp [isT, isS, tyU] at h
theorem isT_tup {u : U} (h : isT u "tuple" = true) : ∃ us, u = .tup us := by
  cases u with
  | tup us => exact ⟨us, rfl⟩
  | _ => simp [isT, isS, tyU] at h
end Hu
namespace Hs
open PySem PySem.Spec PyProof.Rows L2 Hu
section
variable {K : PySem.W.Frag} {σ : L2.St} {H H' : Hp} {ta tb tc te tl : TE} {r r' : R2} {x y z v : V} {w C : Addr} {u : U} {us : List U} {xs : List V}
open Evl
theorem ex_at (e : Ex H H') (h : At w C H v u) : At w C H' v u := h.keep fun b o _ q => e b o q
theorem ex_atl (e : Ex H H') (h : AtL w C H xs us) : AtL w C H' xs us := h.keep fun b o _ q => e b o q
theorem _root_.Hu.Tu.ex {a : Addr} (e : Ex H H') (h : Tu H a xs us) : Tu H' a xs us := Tu.mv (fun o q => e _ o q) h
theorem ev_chain {a b : Bool} (ha : Ev ta σ H x) (hb : Ev tb σ H y) (hc : Ev tc σ H z) (h1 : RV r x y H (.bl a)) (h2 : a = true → RV r' y z H (.bl b)) : Ev (tChain r r' ta tb tc) σ H (.bl (a && b)) := fun H1 e Q q =>
  ha H1 e _ fun H2 e2 => hb H2 (e.trans e2) _ fun H3 e3 => h1 H3 ((e.trans e2).trans e3) _ fun H4 e4 => ⟨a, rfl, by
    cases a with
    | false => exact q H4 ((e2.trans e3).trans e4)
    | true => exact hc H4 (((e.trans e2).trans e3).trans e4) _ fun H5 e5 => h2 rfl H5 ((((e.trans e2).trans e3).trans e4).trans e5) _ fun H6 e6 => q H6 ((((e2.trans e3).trans e4).trans e5).trans e6)⟩
theorem rv_le {i j : Int} : RV (rI0 fun i j => .bl (decide (i ≤ j))) (.int i) (.int j) H (.bl (decide (i ≤ j))) := rv_I0
abbrev rIsi (C : Addr) (T : String) : List V → Hp → VK → Prop := fun xs H Q => ∃ (v : V) (u : U) (w : Addr), xs = [v, .ty T] ∧ At w C H v u ∧ Q (.bl (isT u T)) H
theorem ev_isi {T : String} (h : Ev te σ H v) (hat : At w C H v u) : Ev (tCB (rIsi C T) (tCons te (tCons (tC (.ty T)) tNil))) σ H (.bl (isT u T)) :=
  ev_cb (ea_cons h (ea_cons ev_c ea_nil)) fun H1 e Q q => ⟨v, u, w, rfl, ex_at e hat, q H1 (Ex.refl H1)⟩
abbrev rLenQ (K : PySem.W.Frag) : List V → Hp → VK → Prop := fun xs H Q => ∃ p ys, xs = [.ref p] ∧ (SqL K H p ys ∨ SqT K H p ys) ∧ Q (.int ys.length) H
theorem ev_lenT {a : Addr} (h : Ev te σ H (.ref a)) (hx : Tu H a xs us) : Ev (tCB (rLenQ K) (tCons te tNil)) σ H (.int (xs.length : Int)) :=
  ev_cb (ea_cons h ea_nil) fun H1 e Q q => ⟨a, xs, rfl, .inr (Tu.st (Tu.ex e hx)), q H1 (Ex.refl H1)⟩
abbrev rLenZ : List V → Hp → VK → Prop := fun xs H Q => ∃ z : Str, xs = [.str z] ∧ z.length ≤ sizeLine ∧ Q (.int z.length) H
theorem ev_lenS {z : Str} (h : Ev te σ H (.str z)) (hz : z.length ≤ sizeLine) : Ev (tCB rLenZ (tCons te tNil)) σ H (.int (z.length : Int)) :=
  ev_cb (ea_cons h ea_nil) fun H1 e Q q => ⟨z, rfl, hz, q H1 (Ex.refl H1)⟩
theorem ev_ixT {a : Addr} {j : Nat} (h : Ev te σ H (.ref a)) (hx : Tu H a xs us) (hj : xs[j]? = some v) : Ev (tOp (rIxT K) te (tC (.int (j : Int)))) σ H v :=
  ev_op h ev_c (rv_ixT (Tu.st hx) (atI_nat hj))
theorem ev_lenP {a : Addr} (h : Ev te σ H (.ref a)) (hx : H a = some (.tup xs)) : Ev (tCB (rLenQ K) (tCons te tNil)) σ H (.int (xs.length : Int)) :=
  ev_cb (ea_cons h ea_nil) fun H1 e Q q => ⟨a, xs, rfl, .inr (st_of (e _ _ hx)), q H1 (Ex.refl H1)⟩
theorem ev_ixP {a : Addr} {j : Nat} (h : Ev te σ H (.ref a)) (hx : H a = some (.tup xs)) (hj : xs[j]? = some v) : Ev (tOp (rIxT K) te (tC (.int (j : Int)))) σ H v :=
  ev_op h ev_c (rv_ixT (st_of hx) (atI_nat hj))
theorem et_yes : EvT tYes σ H true := fun H1 _ Q q => q H1 (Ex.refl H1)
theorem len_fine {n : Nat} (h : n ≤ 1000000) : n ≤ sizeLine := Nat.le_trans h (Nat.le_of_lt bit_line)
/-- all([f(x) for x in a tuple]) -/
theorem ev_allT {a : Addr} {j : Nat} {vs : List Nat} {g : U → Bool} (h : Ev tl σ H (.ref a)) (hx : Tu H a xs us) (hz : us.length ≤ 500000) (hl : AtL w C H xs us) (hw : ∀ x, wipe ((wipe σ vs).set j (some x)) vs = wipe σ vs)
    (he : ∀ (x : V) (u : U), u ∈ us → At w C H x u → Ev te ((wipe σ vs).set j (some x)) H (.bl (g u))) :
    Ev (tCB (rAll K) (tCons (tLc (iTup K tl) (gName j) tYes te vs) tNil)) σ H (.bl (us.all g)) := fun H0 e Q q => h H0 e _ fun H1 e1 => ⟨a, rfl, ⟨xs, Tu.st (Tu.ex (e.trans e1) hx)⟩, fun Dl hD =>
  lc_tup (xs := xs) (fun i H' => Ex H1 H' ∧ H' Dl = some (.lst ((us.take i).map fun u => V.bl (g u)))) ⟨Ex.new hD, upd_same⟩ (fun i H' _ p => Tu.st (Tu.ex ((e.trans e1).trans p.1) hx)) (fun i x H2 hi p => by
    obtain ⟨p1, p2⟩ := p
    have hlen := AtL.length hl
    have hu : i < us.length := by
      have := (List.getElem?_eq_some_iff.mp hi).1
      omega
    obtain ⟨x', hx', hax⟩ := AtL.get hl (List.getElem?_eq_getElem hu)
    rw [hi] at hx'
    cases hx'
    refine ⟨hw x, he x us[i] (List.getElem_mem hu) hax H2 ((e.trans e1).trans p1) _ fun H3 e3 => ⟨_, e3 _ _ p2, ?_, fun q o hq => ?_, ?_⟩⟩
    · rw [List.length_map, List.length_take]
      have := bit_line
      unfold bit at this
      omega
    · rw [upd_ne (ne_of_none hq hD)]
      exact e3 _ _ (p1 _ _ hq)
    · rw [upd_same, List.take_add_one, List.getElem?_eq_getElem hu, List.map_append]
      rfl) (fun H' p => ⟨Dl, us.map g, rfl, sq_of (by
        rw [p.2, AtL.length hl, List.take_length, List.map_map]
        rfl), by
        have e2 : (us.map g).all id = us.all g := by
          rw [List.all_map]
          rfl
        rw [e2]
        exact q _ (e1.trans p.1)⟩)⟩
/-- all([f(c) for c in a string]) -/
theorem ev_allS {z : Str} {j : Nat} {vs : List Nat} {g : Nat → Bool} (h : Ev tl σ H (.str z)) (hz : z.length ≤ 500000) (hw : ∀ x, wipe ((wipe σ vs).set j (some x)) vs = wipe σ vs)
    (he : ∀ c ∈ TL.tl z, Ev te ((wipe σ vs).set j (some (.str ⟨#[c]⟩))) H (.bl (g c))) :
    Ev (tCB (rAll K) (tCons (tLc (iStr tl) (gName j) tYes te vs) tNil)) σ H (.bl ((TL.tl z).all g)) := fun H0 e Q q => h H0 e _ fun H1 e1 => ⟨z, rfl, fun Dl hD =>
  lc_it walk_str (fun i H' => Ex H1 H' ∧ H' Dl = some (.lst (((TL.tl z).take i).map fun u => V.bl (g u)))) ⟨Ex.new hD, upd_same⟩ (fun _ _ _ _ => True.intro) (fun i x H2 H2' hi p y => by
    obtain ⟨p1, p2⟩ := p
    obtain ⟨rfl, c, hc, rfl⟩ := y
    have hc' := codes_get hc
    have hl : i < (TL.tl z).length := (List.getElem?_eq_some_iff.mp hc').1
    refine ⟨hw _, he c (List.mem_of_getElem? hc') H2' ((e.trans e1).trans p1) _ fun H3 e3 => ⟨_, e3 _ _ p2, ?_, fun q o hq => ?_, ?_⟩⟩
    · rw [List.length_map, List.length_take]
      have := bit_line
      unfold bit at this
      have hq := TL.len_tl z
      omega
    · rw [upd_ne (ne_of_none hq hD)]
      exact e3 _ _ (p1 _ _ hq)
    · rw [upd_same, List.take_add_one, hc', List.map_append]
      rfl) (fun H' p => ⟨Dl, (TL.tl z).map g, rfl, sq_of (by
        rw [p.2, show z.cps.size = (TL.tl z).length from (TL.len_tl z).symm, List.take_length, List.map_map]
        rfl), by
        have e2 : ((TL.tl z).map g).all id = (TL.tl z).all g := by
          rw [List.all_map]
          rfl
        rw [e2]
        exact q _ (e1.trans p.1)⟩)⟩
end
/-! ### judges: a flag of any value, nothing is changed -/
def spJ (C : Addr) (g : U → Bool) : Sp := fun vs H Q _ => ∃ (v : V) (u : U) (w : Addr), vs = [v] ∧ At w C H v u ∧ Fine u ∧ ∀ H', Same H H' → Q (.bl (g u)) H'
structure Jd (P : Program) (w : World) (K : PySem.W.Frag) (mg : Str → Option Value) (base : Heap) (C : Addr) (k : Nat) (x : Str) (p : Str) (f : Addr) (fd : FuncData) (g : U → Bool) : Prop where
  ok : FnOk P w K mg base CX0 k f fd [p] (spJ C g)
  g : mg x = some (.ref f)
  kp : PySem.W.keepIn K (.ref f) = true
  b : Binds K fd [p] []
section
variable {P : Program} {wd : World} {K : PySem.W.Frag} {mg : Str → Option Value} {base : Heap} {C : Addr}
theorem Jd.imp {x p : Str} {k : Nat} {f : Addr} {fd : FuncData} {g g' : U → Bool} (J : Jd P wd K mg base C k x p f fd g) (h : ∀ u, Fine u → g u = g' u) : Jd P wd K mg base C k x p f fd g' :=
  ⟨J.ok.imp fun vs H Q E ⟨v, u, w, e, a, fi, q⟩ => ⟨v, u, w, e, a, fi, fun H' s => by rw [h u fi]; exact q H' s⟩, J.g, J.kp, J.b⟩
theorem spv_J {g : U → Bool} {H : Hp} {v : V} {u : U} {w : Addr} (hat : At w C H v u) (fi : Fine u) : Evl.SpV (spJ C g) [v] H (.bl (g u)) := fun H1 e Q q E => ⟨v, u, w, rfl, ex_at e hat, fi, q⟩
theorem ev_J {g : U → Bool} {H : Hp} {v : V} {u : U} {w : Addr} {σ : L2.St} {te : TE} {E : XK} (h : Evl.Ev te σ H v) (hat : At w C H v u) (fi : Fine u) : Evl.Ev (tCall (spJ C g) [] E (tCons te tNil)) σ H (.bl (g u)) :=
  Evl.ev_call (Evl.ea_cons h Evl.ea_nil) (spv_J hat fi)
theorem lenJ {g : U → Bool} {p : Str} : ∀ vs H Q E, spJ C g vs H Q E → vs.length = [p].length := fun vs H Q E h => by
  obtain ⟨v, u, w, rfl, _⟩ := h
  rfl
end
section
variable {X : Cx} {C : Addr} {CX : CXT} {E : XK}
theorem pe_J {x p : Str} {k j : Nat} {f : Addr} {fd : FuncData} {g : U → Bool} {e : Expr} {te : TE} {ps pos : Pos} (J : Jd X.prog X.w X.K X.mg X.base C k x p f fd g) (hr : Room j X.A) (h : k ≤ j) (hg : Gl X x) (hx : Passes CX0 X E) (he : PE X e te) (hdb : (x == ("__debug__" : Str)) = false := by decide)
    (hst : starEach [e] X.env = (false, eval e X.env) :: starEach [] X.env := by rfl) (hpl : (backTo pos (starEach [] X.env)).any (·.1) = false := by rfl) :
    PE X (.Call (.Name x ps) [e] [] pos) (tCall (spJ C g) [] E (tCons te tNil)) :=
  pe_call J.ok (hr.mono h) hg J.g J.kp J.b .nil hx (pa_cons he pa_nil hst) hdb hst hpl
end
end Hs
/-! the program's flags of any value -/
namespace Hs
open PySem PySem.Spec PyProof.Rows L2 Hu Evl
/-- an error's class: without an __eq__ of its own, no tuple's -/
structure Eqx (K : PySem.W.Frag) (C : Addr) : Prop where
  m : PySem.W.mroIn K C (.type "object") = some true
  e : PySem.W.findIn K (.ref C) "__eq__" = some (some (.builtin "object.__eq__"))
  t : PySem.W.subIn K (.ref C) (.type "tuple") = some false
/-- what the text leaves to the built-ins, and its errors -/
structure Bs (K : PySem.W.Frag) (mg : Str → Option Value) (C : Addr) : Prop where
  B : Bt mg
  E : Xc K mg "NoTable" C "NoTable"
  q : Eqx K C
/-- the numbers that the text names -/
structure Cn (mg : Str → Option Value) : Prop where
  homes : ∃ t, mg "MOST_HOMES" = some (.int 9 t)
  hands : ∃ t, mg "MOST_HANDS" = some (.int 99 t)
  pieces : ∃ t, mg "MOST_PIECES" = some (.int 12 t)
  signs : ∃ t, mg "PIECE_SIGNS" = some (.int 8 t)
  names : ∃ t, mg "NAME_SIGNS" = some (.int 8 t)
theorem boot_bool' : bootBuiltins "bool" = some (.type "bool") := by decide +kernel
theorem boot_int' : bootBuiltins "int" = some (.type "int") := by decide +kernel
section
variable {X : Cx} {C : Addr} {e : Expr} {te : TE} {p p2 pos : Pos}
theorem pe_isiX {T : String} {T' : Str} (S : Bs X.K X.mg C) (hg : Gl X "isinstance") (hgT : Gl X T') (hT : X.mg T' = none) (bT : bootBuiltins T' = some (.type T)) (hm : T ∈ ["int", "bool", "str", "tuple"]) (he : PE X e te) (hn : T' ≠ "__name__") (hd : (T' == ("__debug__" : Str)) = false)
    (hst : starEach [e] X.env = (false, eval e X.env) :: starEach [] X.env := by rfl) (hst2 : starEach [e, .Name T' p2] X.env = (false, eval e X.env) :: starEach [.Name T' p2] X.env := by rfl) (hpl : (backTo pos (starEach [.Name T' p2] X.env)).any (·.1) = false := by rfl)
    (hst3 : starEach [.Name T' p2] X.env = (false, eval (.Name T' p2) X.env) :: starEach [] X.env := by rfl) :
    PE X (.Call (.Name "isinstance" p) [e, .Name T' p2] [] pos) (tCB (rIsi C T) (tCons te (tCons (tC (.ty T)) tNil))) :=
  pe_callB (call_isiU T S.E hm) hg S.B.isi boot_isi (pa_cons he (pa_cons (pe_bltn hgT hT bT (show RelV (.ty T) (.type T) from rfl) hn hd) pa_nil hst3) hst2) (by decide) (by decide) hst2 hpl
end
def iv (u : U) (p : Int → Bool) : Bool := match u with | .int i => p i | _ => false
def sv (u : U) (p : Str → Bool) : Bool := match u with | .str z => p z | _ => false
def tv (u : U) (p : List U → Bool) : Bool := match u with | .tup us => p us | _ => false
def gInt (u : U) : Bool := iv u fun _ => true
def gFrom (u : U) : Bool := iv u fun i => decide (1 ≤ i)
def gHome (u : U) : Bool := iv u fun i => decide (0 ≤ i) && decide (i < 9)
def gHand (u : U) : Bool := iv u fun i => decide (1 ≤ i) && decide (i ≤ 99)
def gPair (u : U) : Bool := tv u fun us => decide (us.length = 2)
def gSigns (u : U) : Bool := sv u okz
def lowc (c : Nat) : Bool := decide (97 ≤ c) && decide (c ≤ 122)
def gNam (u : U) : Bool := sv u fun z => (decide (1 ≤ z.length) && decide (z.length ≤ 8)) && (TL.tl z).all lowc
def gText (u : U) : Bool := sv u fun z => okz z && decide (z.length ≤ 96)
def gPiece (u : U) : Bool := sv u fun z => okz z && (decide (1 ≤ z.length) && decide (z.length ≤ 8))
def two (us : List U) (p : U → U → Bool) : Bool := match us with | [a, b] => p a b | _ => false
def gId (u : U) : Bool := tv u fun us => two us fun a b => gHand a && gFrom b
def gRow (u : U) : Bool := match u with | .non => true | .tup us => decide (us.length ≤ 12) && us.all gId | _ => false
def gStamp (u : U) : Bool := tv u fun us => two us fun a b => iv a fun i => iv b fun j => (decide (i = 0) && decide (j = 0)) || (decide (1 ≤ i) && (decide (1 ≤ j) && decide (j ≤ 99)))
def gHead (u : U) : Bool := tv u fun us => two us fun a b => gStamp a && gRow b
def intU (u : U) : Int := match u with | .int i => i | _ => 0
def ascI (ns : List Int) : Bool := (List.range (ns.length - 1)).all fun k => decide (ns.getD k 0 < ns.getD (k + 1) 0)
def gMembers (u : U) : Bool := tv u fun us => ((decide (1 ≤ us.length) && decide (us.length ≤ 9)) && us.all gHome) && ascI (us.map intU)
section
variable {P : Program} {wd : World} {K : PySem.W.Frag} {mg : Str → Option Value} {base : Heap} {C : Addr}
theorem scIsInt : FnScope ["thing"] ["thing"] (defScope sIsInt) := ⟨rfl, rfl, rfl, by decide +kernel, rfl, by decide +kernel, by decide +kernel⟩
theorem gInt_is (u : U) : (isT u "int" && !isT u "bool") = gInt u := by
  cases u <;> simp [isT, isS, tyU, gInt, iv]
theorem jd_int {f : Addr} {fd : FuncData} (D : Df K mg "is_integer" sIsInt ["thing"] f fd) (S : Bs K mg C) : Jd P wd K mg base C 1 "is_integer" "thing" f fd gInt := by
  refine ⟨D.F.ok scIsInt lenJ (fun cdv A outer s H vs Q E hr h => ?_), D.g, D.F.kp, D.b⟩
  obtain ⟨v, u, w, rfl, hat, fi, k⟩ := h
  refine ⟨_, pss_one (ps_ret (pe_and (pe_isiX S (by rfl) (by rfl) S.B.int boot_int' (by decide) (pv 0) (by decide) (by decide)) (pe_one (pe_not (pe_isiX S (by rfl) (by rfl) S.B.boo boot_bool' (by decide) (pv 0) (by decide) (by decide)))))), ?_⟩
  refine s_ret (ev_andV (ev_isi (ev_var rfl) hat) fun _ => ev_notV (ev_isi (ev_var rfl) hat)) fun H1 e => ?_
  rw [gInt_is]
  exact k H1 e
theorem scFrom : FnScope ["thing"] ["thing"] (defScope sFromOne) := ⟨rfl, rfl, rfl, by decide +kernel, rfl, by decide +kernel, by decide +kernel⟩
theorem gInt_int {u : U} (h : gInt u = true) : ∃ i, u = .int i := by
  cases u with
  | int i => exact ⟨i, rfl⟩
  | _ => cases h
theorem at_int {w : Addr} {H : Hp} {v : V} {i : Int} (h : At w C H v (.int i)) : v = .int i := by
  cases h
  rfl
theorem at_str {w : Addr} {H : Hp} {v : V} {z : Str} (h : At w C H v (.str z)) : v = .str z := by
  cases h
  rfl
theorem at_tup {w : Addr} {H : Hp} {v : V} {us : List U} (h : At w C H v (.tup us)) : ∃ a xs, v = .ref a ∧ Tu H a xs us ∧ a ≠ w ∧ AtL w C H xs us := by
  cases h with
  | tup h n l => exact ⟨_, _, rfl, h, n, l⟩
/-- one more test of an integer -/
theorem iv_and (u : U) (p : Int → Bool) : (gInt u && iv u p) = iv u p := by
  cases u <;> rfl
theorem jd_from {f fI : Addr} {fd fdI : FuncData} (D : Df K mg "is_from_one" sFromOne ["thing"] f fd) (S : Bs K mg C) (J : Jd P wd K mg base C 1 "is_integer" "thing" fI fdI gInt) : Jd P wd K mg base C 2 "is_from_one" "thing" f fd gFrom := by
  refine ⟨D.F.ok scFrom lenJ (fun cdv A outer s H vs Q E hr h => ?_), D.g, D.F.kp, D.b⟩
  obtain ⟨v, u, w, rfl, hat, fi, k⟩ := h
  refine ⟨_, pss_one (ps_ret (pe_and (pe_J J hr (by decide) (by rfl) pass0 (pv 0)) (pe_one (pe_cmpR op_ge (pv 0) pe_int (nomark _))))), ?_⟩
  refine s_ret (ev_andV (b := gFrom u) (ev_J (ev_var rfl) hat fi) fun q => ?_) fun H1 e => ?_
  · obtain ⟨i, rfl⟩ := gInt_int q
    cases at_int hat
    exact ev_op (ev_var rfl) ev_c rv_I0
  · unfold gFrom
    rw [iv_and]
    exact k H1 e
theorem scHome : FnScope ["thing"] ["thing"] (defScope sHome) := ⟨rfl, rfl, rfl, by decide +kernel, rfl, by decide +kernel, by decide +kernel⟩
theorem jd_home {f fI : Addr} {fd fdI : FuncData} (D : Df K mg "is_home" sHome ["thing"] f fd) (S : Bs K mg C) (N : Cn mg) (J : Jd P wd K mg base C 1 "is_integer" "thing" fI fdI gInt) : Jd P wd K mg base C 2 "is_home" "thing" f fd gHome := by
  refine ⟨D.F.ok scHome lenJ (fun cdv A outer s H vs Q E hr h => ?_), D.g, D.F.kp, D.b⟩
  obtain ⟨v, u, w, rfl, hat, fi, k⟩ := h
  obtain ⟨t, h9⟩ := N.homes
  refine ⟨_, pss_one (ps_ret (pe_and (pe_J J hr (by decide) (by rfl) pass0 (pv 0)) (pe_one (pe_chain op_le op_lt pe_int (pv 0) (pe_glob (v := .int 9) rfl h9 ⟨_, rfl⟩))))), ?_⟩
  refine s_ret (ev_andV (b := gHome u) (ev_J (ev_var rfl) hat fi) fun q => ?_) fun H1 e => ?_
  · obtain ⟨i, rfl⟩ := gInt_int q
    cases at_int hat
    exact ev_chain ev_c (ev_var rfl) ev_c rv_I0 fun _ => rv_I0
  · unfold gHome
    rw [iv_and]
    exact k H1 e
theorem scHand : FnScope ["thing"] ["thing"] (defScope sHand) := ⟨rfl, rfl, rfl, by decide +kernel, rfl, by decide +kernel, by decide +kernel⟩
theorem jd_hand {f fI : Addr} {fd fdI : FuncData} (D : Df K mg "is_hand" sHand ["thing"] f fd) (S : Bs K mg C) (N : Cn mg) (J : Jd P wd K mg base C 1 "is_integer" "thing" fI fdI gInt) : Jd P wd K mg base C 2 "is_hand" "thing" f fd gHand := by
  refine ⟨D.F.ok scHand lenJ (fun cdv A outer s H vs Q E hr h => ?_), D.g, D.F.kp, D.b⟩
  obtain ⟨v, u, w, rfl, hat, fi, k⟩ := h
  obtain ⟨t, h9⟩ := N.hands
  refine ⟨_, pss_one (ps_ret (pe_and (pe_J J hr (by decide) (by rfl) pass0 (pv 0)) (pe_one (pe_chain op_le op_le pe_int (pv 0) (pe_glob (v := .int 99) rfl h9 ⟨_, rfl⟩))))), ?_⟩
  refine s_ret (ev_andV (b := gHand u) (ev_J (ev_var rfl) hat fi) fun q => ?_) fun H1 e => ?_
  · obtain ⟨i, rfl⟩ := gInt_int q
    cases at_int hat
    exact ev_chain ev_c (ev_var rfl) ev_c rv_I0 fun _ => rv_I0
  · unfold gHand
    rw [iv_and]
    exact k H1 e
theorem scPair : FnScope ["thing"] ["thing"] (defScope sPair) := ⟨rfl, rfl, rfl, by decide +kernel, rfl, by decide +kernel, by decide +kernel⟩
theorem tv_and (u : U) (p : List U → Bool) : (isT u "tuple" && tv u p) = tv u p := by
  cases u <;> simp [isT, isS, tyU, tv]
theorem sv_and (u : U) (p : Str → Bool) : (isT u "str" && sv u p) = sv u p := by
  cases u <;> simp [isT, isS, tyU, sv]
theorem dec_eq {n m : Nat} : decide (V.int (n : Int) = V.int (m : Int)) = decide (n = m) := by
  by_cases h : n = m
  · rw [decide_eq_true h, h, decide_eq_true rfl]
  · rw [decide_eq_false h, decide_eq_false]
    intro e
    have := V.int.inj e
    omega
theorem jd_pair {f : Addr} {fd : FuncData} (D : Df K mg "is_pair" sPair ["thing"] f fd) (S : Bs K mg C) : Jd P wd K mg base C 1 "is_pair" "thing" f fd gPair := by
  refine ⟨D.F.ok scPair lenJ (fun cdv A outer s H vs Q E hr h => ?_), D.g, D.F.kp, D.b⟩
  obtain ⟨v, u, w, rfl, hat, fi, k⟩ := h
  refine ⟨_, pss_one (ps_ret (pe_and (pe_isiX S (by rfl) (by rfl) S.B.tup boot_tuple' (by decide) (pv 0) (by decide) (by decide)) (pe_one (pe_cmpR op_eq (pe_callB call_len_seq (by rfl) S.B.len PySem.boot_len (pa_cons (pv 0) pa_nil)) pe_int (nomark _))))), ?_⟩
  refine s_ret (ev_andV (b := gPair u) (ev_isi (ev_var rfl) hat) fun q => ?_) fun H1 e => ?_
  · obtain ⟨us, rfl⟩ := isT_tup q
    obtain ⟨a, xs, rfl, ha, _, hl⟩ := at_tup hat
    have := ev_op (r := rEq) (σ := [some (V.ref a)]) (ev_lenT (K := K) (te := tVar 0) (ev_var rfl) ha) (ev_c (v := .int 2)) (rv_eq rfl)
    rw [show (2 : Int) = ((2 : Nat) : Int) from rfl, dec_eq, AtL.length hl] at this
    exact this
  · unfold gPair
    rw [tv_and]
    exact k H1 e
theorem scSig : FnScope ["thing", "sign"] ["thing"] (defScope sIsSigns) := ⟨rfl, rfl, rfl, by decide +kernel, rfl, by decide +kernel, by decide +kernel⟩
abbrev rLeS : R2 := fun x y H Q => ∃ i j : Str, x = .str i ∧ y = .str j ∧ Q (.bl (!decide (j.cps.toList < i.cps.toList))) H
theorem rv_leS {a b : Nat} {H : Hp} : RV rLeS (.str ⟨#[a]⟩) (.str ⟨#[b]⟩) H (.bl (decide (a ≤ b))) := fun H1 _ Q q => ⟨_, _, rfl, rfl, by
  show Q (.bl (!decide (([b] : List Nat) < [a]))) H1
  rw [not_lt1]
  exact q H1 (Ex.refl H1)⟩
theorem jd_signs {f : Addr} {fd : FuncData} (D : Df K mg "is_signs" sIsSigns ["thing"] f fd) (S : Bs K mg C) : Jd P wd K mg base C 1 "is_signs" "thing" f fd gSigns := by
  refine ⟨D.F.ok scSig lenJ (fun cdv A outer s H vs Q E hr h => ?_), D.g, D.F.kp, D.b⟩
  obtain ⟨v, u, w, rfl, hat, fi, k⟩ := h
  refine ⟨_, pss_one (ps_ret (pe_and (pe_isiX S (by rfl) (by rfl) S.B.str boot_str (by decide) (pv 0) (by decide) (by decide))
    (pe_one (pe_callB (cr_all rfl) (by rfl) S.B.all boot_all' (pa_cons (pe_lc (own := [("sign", 1)]) (g := gName 1) (tt := tYes) rfl scSig.nd (pi_str (pv 0)) (blkOk_by (N := ["thing", "sign"]) (sc := defScope sIsSigns) (by decide +kernel))
      (fun _ _ _ _ _ => pg_name (i := 1) scSig.nd rfl (Or.inl rfl)) (fun _ _ _ _ _ => pts_nil) (fun _ _ _ _ _ => pe_chain op_le_str op_le_str pe_str (pv 1) pe_str)) pa_nil))))), ?_⟩
  refine s_ret (ev_andV (b := gSigns u) (ev_isi (ev_var rfl) hat) fun q => ?_) fun H1 e => ?_
  · obtain ⟨z, rfl⟩ := isT_str q
    cases at_str hat
    exact ev_allS (ev_var rfl) fi.str (fun _ => rfl) fun c _ => ev_chain ev_c (ev_var rfl) ev_c rv_leS fun _ => rv_leS
  · unfold gSigns
    rw [sv_and]
    exact k H1 e
end
end Hs
namespace Hs
open PySem PySem.Spec PyProof.Rows L2 Hu Evl
section
variable {P : Program} {wd : World} {K : PySem.W.Frag} {mg : Str → Option Value} {base : Heap} {C : Addr}
theorem dec_le {n m : Nat} : decide ((n : Int) ≤ (m : Int)) = decide (n ≤ m) := by
  by_cases h : n ≤ m
  · rw [decide_eq_true h, decide_eq_true (by omega)]
  · rw [decide_eq_false h, decide_eq_false (by omega)]
theorem dec_lt {n m : Nat} : decide ((n : Int) < (m : Int)) = decide (n < m) := by
  by_cases h : n < m
  · rw [decide_eq_true h, decide_eq_true (by omega)]
  · rw [decide_eq_false h, decide_eq_false (by omega)]
theorem _root_.Hu.Fine.line {z : Str} (h : Fine (.str z)) : z.length ≤ sizeLine := len_fine (by have := h.str; omega)
theorem gSigns_str {u : U} (h : gSigns u = true) : ∃ z, u = .str z := by
  cases u with
  | str z => exact ⟨z, rfl⟩
  | _ => cases h
def lenIn (lo hi : Nat) (u : U) : Bool := sv u fun z => decide (lo ≤ z.length) && decide (z.length ≤ hi)
theorem scIsPiece : FnScope ["thing"] ["thing"] (defScope sPiece) := ⟨rfl, rfl, rfl, by decide +kernel, rfl, by decide +kernel, by decide +kernel⟩
theorem jd_piece {f fI : Addr} {fd fdI : FuncData} (D : Df K mg "is_piece" sPiece ["thing"] f fd) (S : Bs K mg C) (N : Cn mg) (J : Jd P wd K mg base C 1 "is_signs" "thing" fI fdI gSigns) : Jd P wd K mg base C 2 "is_piece" "thing" f fd gPiece := by
  refine ⟨D.F.ok scIsPiece lenJ (fun cdv A outer s H vs Q E hr h => ?_), D.g, D.F.kp, D.b⟩
  obtain ⟨v, u, w, rfl, hat, fi, k⟩ := h
  obtain ⟨t, h9⟩ := N.signs
  refine ⟨_, pss_one (ps_ret (pe_and (pe_J J hr (by decide) (by rfl) pass0 (pv 0)) (pe_one (pe_chain op_le op_le pe_int (pe_callB call_len_str (by rfl) S.B.len PySem.boot_len (pa_cons (pv 0) pa_nil)) (pe_glob (v := .int 8) rfl h9 ⟨_, rfl⟩))))), ?_⟩
  refine s_ret (ev_andV (b := lenIn 1 8 u) (ev_J (ev_var rfl) hat fi) fun q => ?_) fun H1 e => ?_
  · obtain ⟨z, rfl⟩ := gSigns_str q
    cases at_str hat
    exact ev_is (ev_chain ev_c (ev_lenS (ev_var rfl) fi.line) ev_c rv_I0 fun _ => rv_I0) (by rw [show (8 : Int) = ((8 : Nat) : Int) from rfl, show (1 : Int) = ((1 : Nat) : Int) from rfl, dec_le, dec_le]; rfl)
  · have e2 : (gSigns u && lenIn 1 8 u) = gPiece u := by cases u <;> rfl
    rw [e2]
    exact k H1 e
theorem scIsName : FnScope ["thing", "sign"] ["thing"] (defScope sName) := ⟨rfl, rfl, rfl, by decide +kernel, rfl, by decide +kernel, by decide +kernel⟩
theorem jd_name {f : Addr} {fd : FuncData} (D : Df K mg "is_name" sName ["thing"] f fd) (S : Bs K mg C) (N : Cn mg) : Jd P wd K mg base C 2 "is_name" "thing" f fd gNam := by
  refine ⟨D.F.ok scIsName lenJ (fun cdv A outer s H vs Q E hr h => ?_), D.g, D.F.kp, D.b⟩
  obtain ⟨v, u, w, rfl, hat, fi, k⟩ := h
  obtain ⟨t, h8⟩ := N.names
  refine ⟨_, pss_cons (ps_if (PW.pt (pw_or (pt_not (pt_val (pe_isiX S (by rfl) (by rfl) S.B.str boot_str (by decide) (pv 0) (by decide) (by decide))))
      (pw_or1 (pt_not (pt_chain op_le op_le pe_int (pe_callB call_len_str (by rfl) S.B.len PySem.boot_len (pa_cons (pv 0) pa_nil)) (pe_glob (v := .int 8) rfl h8 ⟨_, rfl⟩))))))
      (pss_one (ps_ret pe_bl)) pss_nil)
    (pss_one (ps_ret (pe_callB (cr_all rfl) (by rfl) S.B.all boot_all' (pa_cons (pe_lc (own := [("sign", 1)]) (g := gName 1) (tt := tYes) rfl scIsName.nd (pi_str (pv 0)) (blkOk_by (N := ["thing", "sign"]) (sc := defScope sName) (by decide +kernel))
      (fun _ _ _ _ _ => pg_name (i := 1) scIsName.nd rfl (Or.inl rfl)) (fun _ _ _ _ _ => pts_nil) (fun _ _ _ _ _ => pe_chain op_le_str op_le_str pe_str (pv 1) pe_str)) pa_nil)))), ?_⟩
  refine s_if (b := !isT u "str" || !lenIn 1 8 u) (et_or (et_not (et_B (ev_isi (ev_var rfl) hat))) fun q => ?_) (fun q H1 e => ?_) (fun q H1 e => ?_)
  · rw [Bool.not_eq_false'] at q
    obtain ⟨z, rfl⟩ := isT_str q
    cases at_str hat
    exact et_not (et_test (ev_is (ev_chain ev_c (ev_lenS (ev_var rfl) fi.line) ev_c rv_I0 fun _ => rv_I0) (by rw [show (8 : Int) = ((8 : Nat) : Int) from rfl, show (1 : Int) = ((1 : Nat) : Int) from rfl, dec_le, dec_le]; rfl)))
  · refine s_ret ev_c fun H2 e2 => ?_
    have e3 : gNam u = false := by
      cases u with
      | str z =>
        simp [isT, isS, tyU] at q
        show (lenIn 1 8 (.str z) && _) = false
        rw [q]
        rfl
      | _ => rfl
    rw [← e3]
    exact k H2 (e.trans e2)
  · rw [Bool.or_eq_false_iff, Bool.not_eq_false', Bool.not_eq_false'] at q
    obtain ⟨z, rfl⟩ := isT_str q.1
    cases at_str hat
    refine s_ret (ev_allS (g := lowc) (ev_var rfl) fi.str (fun _ => rfl) fun c _ => ev_chain ev_c (ev_var rfl) ev_c rv_leS fun _ => rv_leS) fun H2 e2 => ?_
    have e3 : gNam (.str z) = (TL.tl z).all lowc := by
      show (lenIn 1 8 (.str z) && _) = _
      rw [q.2]
      rfl
    rw [← e3]
    exact k H2 (e.trans e2)
theorem two_of {us : List U} (h : us.length = 2) : ∃ a b, us = [a, b] := by
  match us, h with
  | [a, b], _ => exact ⟨a, b, rfl⟩
theorem atl_two {w : Addr} {H : Hp} {xs : List V} {a b : U} (h : AtL w C H xs [a, b]) : ∃ x y, xs = [x, y] ∧ At w C H x a ∧ At w C H y b := by
  cases h with
  | cons h1 h => cases h with
    | cons h2 h => cases h with
      | nil => exact ⟨_, _, rfl, h1, h2⟩
theorem gPair_two {u : U} (h : gPair u = true) : ∃ a b, u = .tup [a, b] := by
  cases u with
  | tup us =>
    obtain ⟨a, b, rfl⟩ := two_of (of_decide_eq_true h)
    exact ⟨a, b, rfl⟩
  | _ => cases h
theorem pair_at {w : Addr} {H : Hp} {v : V} {a b : U} (h : At w C H v (.tup [a, b])) : ∃ p x y, v = .ref p ∧ Tu H p [x, y] [a, b] ∧ At w C H x a ∧ At w C H y b := by
  obtain ⟨p, xs, rfl, hp, _, hl⟩ := at_tup h
  obtain ⟨x, y, rfl, h1, h2⟩ := atl_two hl
  exact ⟨p, x, y, rfl, hp, h1, h2⟩
theorem pair_and (u : U) (p : U → U → Bool) : (gPair u && tv u fun us => two us p) = tv u fun us => two us p := by
  cases u with
  | tup us =>
    match us with
    | [] => rfl
    | [a] => rfl
    | [a, b] => rfl
    | a :: b :: c :: r => simp [gPair, tv, two]
  | _ => rfl
theorem _root_.Hu.Fine.fst {a b : U} (h : Fine (.tup [a, b])) : Fine a := h.tup a (by simp)
theorem _root_.Hu.Fine.snd {a b : U} (h : Fine (.tup [a, b])) : Fine b := h.tup b (by simp)
theorem scId : FnScope ["thing"] ["thing"] (defScope sBlockId) := ⟨rfl, rfl, rfl, by decide +kernel, rfl, by decide +kernel, by decide +kernel⟩
theorem jd_id {f f1 f2 f3 : Addr} {fd d1 d2 d3 : FuncData} (D : Df K mg "is_block_id" sBlockId ["thing"] f fd) (S : Bs K mg C) (JP : Jd P wd K mg base C 1 "is_pair" "thing" f1 d1 gPair) (JH : Jd P wd K mg base C 2 "is_hand" "thing" f2 d2 gHand) (JF : Jd P wd K mg base C 2 "is_from_one" "thing" f3 d3 gFrom) :
    Jd P wd K mg base C 3 "is_block_id" "thing" f fd gId := by
  refine ⟨D.F.ok scId lenJ (fun cdv A outer s H vs Q E hr h => ?_), D.g, D.F.kp, D.b⟩
  obtain ⟨v, u, w, rfl, hat, fi, k⟩ := h
  refine ⟨_, pss_one (ps_ret (pe_and (pe_J JP hr (by decide) (by rfl) pass0 (pv 0)) (pe_and (pe_J JH hr (by decide) (by rfl) pass0 (pe_ix ix_tup (pv 0) pe_int (fun _ _ => rfl))) (pe_one (pe_J JF hr (by decide) (by rfl) pass0 (pe_ix ix_tup (pv 0) pe_int (fun _ _ => rfl))))))), ?_⟩
  refine s_ret (ev_andV (b := gId u) (ev_J (ev_var rfl) hat fi) fun q => ?_) fun H1 e => ?_
  · obtain ⟨a, b, rfl⟩ := gPair_two q
    obtain ⟨p, x, y, rfl, hp, ha, hb⟩ := pair_at hat
    exact ev_andV (ev_J (ev_ixT (j := 0) (ev_var rfl) hp rfl) ha fi.fst) fun _ => ev_J (ev_ixT (j := 1) (ev_var rfl) hp rfl) hb fi.snd
  · unfold gId
    rw [pair_and]
    exact k H1 e
theorem scRow : FnScope ["thing", "item"] ["thing"] (defScope sRow) := ⟨rfl, rfl, rfl, by decide +kernel, rfl, by decide +kernel, by decide +kernel⟩
theorem ev_isN {σ : L2.St} {H : Hp} {te : TE} {v : V} (h : Ev te σ H v) : Ev (tOp rIsN te (tC .non)) σ H (.bl (decide (v = .non))) := ev_op h ev_c fun H1 _ Q q => ⟨rfl, q H1 (Ex.refl H1)⟩
def isNon (u : U) : Bool := match u with | .non => true | _ => false
theorem at_non {w : Addr} {H : Hp} {v : V} {u : U} (h : At w C H v u) : decide (v = .non) = isNon u := by
  cases h <;> rfl
def lenT (hi : Nat) (u : U) : Bool := tv u fun us => decide (us.length ≤ hi)
theorem ev_lenTU {w : Addr} {σ : L2.St} {H : Hp} {te : TE} {a : Addr} {xs : List V} {us : List U} (h : Ev te σ H (.ref a)) (hx : Tu H a xs us) (hl : AtL w C H xs us) : Ev (tCB (rLenQ K) (tCons te tNil)) σ H (.int (us.length : Int)) :=
  ev_is (ev_lenT h hx) (by rw [AtL.length hl])
theorem not_le' {n m : Nat} : decide ((m : Int) < (n : Int)) = !decide (n ≤ m) := by
  by_cases h : n ≤ m
  · rw [decide_eq_true h, decide_eq_false (by omega)]
    rfl
  · rw [decide_eq_false h, decide_eq_true (by omega)]
    rfl
theorem jd_row {f f1 : Addr} {fd d1 : FuncData} (D : Df K mg "is_row" sRow ["thing"] f fd) (S : Bs K mg C) (N : Cn mg) (J : Jd P wd K mg base C 3 "is_block_id" "thing" f1 d1 gId) :
    Jd P wd K mg base C 4 "is_row" "thing" f fd gRow := by
  refine ⟨D.F.ok scRow lenJ (fun cdv A outer s H vs Q E hr h => ?_), D.g, D.F.kp, D.b⟩
  obtain ⟨v, u, w, rfl, hat, fi, k⟩ := h
  obtain ⟨t, h12⟩ := N.pieces
  refine ⟨_, pss_cons (ps_if (pt_cmpR op_isN1 (pv 0) pe_non (nomark _)) (pss_one (ps_ret pe_bl)) pss_nil)
    (pss_cons (ps_if (PW.pt (pw_or (pt_not (pt_val (pe_isiX S (by rfl) (by rfl) S.B.tup boot_tuple' (by decide) (pv 0) (by decide) (by decide))))
      (pw_or1 (pt_cmpR op_gt (pe_callB call_len_seq (by rfl) S.B.len PySem.boot_len (pa_cons (pv 0) pa_nil)) (pe_glob (v := .int 12) rfl h12 ⟨_, rfl⟩) (nomark _)))))
      (pss_one (ps_ret pe_bl)) pss_nil)
    (pss_one (ps_ret (pe_callB (cr_all rfl) (by rfl) S.B.all boot_all' (pa_cons (pe_lc (own := [("item", 1)]) (g := gName 1) (tt := tYes) rfl scRow.nd (pi_tup (pv 0)) (blkOk_by (N := ["thing", "item"]) (sc := defScope sRow) (by decide +kernel))
      (fun _ _ _ _ _ => pg_name (i := 1) scRow.nd rfl (Or.inl rfl)) (fun _ _ _ _ _ => pts_nil) (fun _ _ _ _ _ => pe_J J hr (by decide) (by rfl) pass0 (pv 1))) pa_nil))))), ?_⟩
  refine s_if (b := isNon u) (et_test (ev_is (ev_isN (ev_var rfl)) (by rw [at_non hat]))) (fun q H1 e => ?_) (fun q H1 e => ?_)
  · refine s_ret ev_c fun H2 e2 => ?_
    have := k H2 (e.trans e2)
    cases u with
    | non => exact this
    | _ => cases q
  · have hat1 := ex_at e hat
    refine s_if (b := !isT u "tuple" || !lenT 12 u) (et_or (et_not (et_B (ev_isi (ev_var rfl) hat1))) fun q => ?_) (fun q H2 e2 => ?_) (fun q H2 e2 => ?_)
    · rw [Bool.not_eq_false'] at q
      obtain ⟨us, rfl⟩ := isT_tup q
      obtain ⟨a, xs, rfl, ha, _, hl⟩ := at_tup hat1
      exact et_test (ev_is (ev_op (ev_lenTU (K := K) (ev_var rfl) ha hl) ev_c rv_I0) (by rw [show (12 : Int) = ((12 : Nat) : Int) from rfl, not_le']; rfl))
    · refine s_ret ev_c fun H3 e3 => ?_
      have e4 : gRow u = false := by
        cases u with
        | tup us =>
          simp [isT, isS, tyU] at q
          show (lenT 12 (.tup us) && _) = false
          rw [q]
          rfl
        | non => cases (show true = false from by assumption)
        | _ => rfl
      rw [← e4]
      exact k H3 ((e.trans e2).trans e3)
    · rw [Bool.or_eq_false_iff, Bool.not_eq_false', Bool.not_eq_false'] at q
      obtain ⟨us, rfl⟩ := isT_tup q.1
      obtain ⟨a, xs, rfl, ha, _, hl⟩ := at_tup (ex_at e2 hat1)
      refine s_ret (ev_allT (g := gId) (ev_var rfl) ha fi.len hl (fun _ => rfl) fun x u hu hx => ev_J (ev_var rfl) hx (fi.tup u hu)) fun H3 e3 => ?_
      have e4 : gRow (.tup us) = us.all gId := by
        show (lenT 12 (.tup us) && _) = _
        rw [q.2]
        rfl
      rw [← e4]
      exact k H3 ((e.trans e2).trans e3)
end
end Hs
namespace Hs
open PySem PySem.Spec PyProof.Rows L2 Hu Evl
section
variable {P : Program} {wd : World} {K : PySem.W.Frag} {mg : Str → Option Value} {base : Heap} {C : Addr}
theorem scStamp : FnScope ["thing"] ["thing"] (defScope sStamp) := ⟨rfl, rfl, rfl, by decide +kernel, rfl, by decide +kernel, by decide +kernel⟩
theorem shp2 (i j : Int) : SeqAt.shaped (.tuple [.int i, .int j]) = true := by
  show ((PyData.tuple [.int i, .int j]).canLay0 && decide ((PyData.tuple [.int i, .int j]).depth ≤ 64)) = true
  simp [PyData.canLay0, PyData.canLayAll0, PyData.depth, PyData.depthAll]
theorem eqv2 (i j k l : Int) : PyData.eqv (.tuple [.int i, .int j]) (.tuple [.int k, .int l]) = (decide (i = k) && decide (j = l)) := by
  simp only [PyData.eqv, PyData.eqvAll, Bool.and_true]
  congr 1
theorem dp2 {H : Hp} {p : Addr} {i j : Int} (h : H p = some (.tup [.int i, .int j])) : Dp K H (.ref p) (.tuple [.int i, .int j]) := .tup (st_of h) (.cons (.int i) (.cons (.int j) .nil))
theorem rv_eq2 {H : Hp} {p q : Addr} {i j k l : Int} (hp : H p = some (.tup [.int i, .int j])) (hq : H q = some (.tup [.int k, .int l])) : RV (rEqD K) (.ref p) (.ref q) H (.bl (decide (i = k) && decide (j = l))) := fun H1 e Q f =>
  ⟨_, _, dp2 (e _ _ hp), dp2 (e _ _ hq), shp2 _ _, shp2 _ _, by rw [eqv2]; exact f H1 (Ex.refl H1)⟩
theorem room_hu {k : Nat} {A : Around} (r : Room k A) : A.units + 64 < cLine := r.units
/-- a pair of integers -/
def ints2 (u : U) : Bool := tv u fun us => two us fun a b => gInt a && gInt b
theorem ints2_two {u : U} (h : ints2 u = true) : ∃ i j, u = .tup [.int i, .int j] := by
  cases u with
  | tup us =>
    match us, h with
    | [a, b], h =>
      have h1 : (gInt a && gInt b) = true := h
      rw [Bool.and_eq_true] at h1
      obtain ⟨i, rfl⟩ := gInt_int h1.1
      obtain ⟨j, rfl⟩ := gInt_int h1.2
      exact ⟨i, j, rfl⟩
  | _ => cases h
theorem jd_stamp {f f1 f2 f3 f4 : Addr} {fd d1 d2 d3 d4 : FuncData} (D : Df K mg "is_stamp" sStamp ["thing"] f fd) (S : Bs K mg C) (JP : Jd P wd K mg base C 1 "is_pair" "thing" f1 d1 gPair) (JI : Jd P wd K mg base C 1 "is_integer" "thing" f2 d2 gInt)
    (JF : Jd P wd K mg base C 2 "is_from_one" "thing" f3 d3 gFrom) (JH : Jd P wd K mg base C 2 "is_hand" "thing" f4 d4 gHand) : Jd P wd K mg base C 3 "is_stamp" "thing" f fd gStamp := by
  refine ⟨D.F.ok scStamp lenJ (fun cdv A outer s H vs Q E hr h => ?_), D.g, D.F.kp, D.b⟩
  obtain ⟨v, u, w, rfl, hat, fi, k⟩ := h
  refine ⟨_, pss_cons (ps_if (PW.pt (pw_or (pt_not (pt_val (pe_J JP hr (by decide) (by rfl) pass0 (pv 0)))) (pw_or (pt_not (pt_val (pe_J JI hr (by decide) (by rfl) pass0 (pe_ix ix_tup (pv 0) pe_int (fun _ _ => rfl)))))
      (pw_or1 (pt_not (pt_val (pe_J JI hr (by decide) (by rfl) pass0 (pe_ix ix_tup (pv 0) pe_int (fun _ _ => rfl)))))))))
      (pss_one (ps_ret pe_bl)) pss_nil)
    (pss_one (ps_ret (pe_or (pe_cmpR (op_eqD (room_hu hr)) (pv 0) (pe_tup (pa_cons pe_int (pa_cons pe_int pa_nil))) (nomark _)) (pe_one (pe_and (pe_J JF hr (by decide) (by rfl) pass0 (pe_ix ix_tup (pv 0) pe_int (fun _ _ => rfl)))
      (pe_one (pe_J JH hr (by decide) (by rfl) pass0 (pe_ix ix_tup (pv 0) pe_int (fun _ _ => rfl))))))))), ?_⟩
  have e0 : (!gPair u || (!(tv u fun us => two us fun a b => gInt a) || !ints2 u)) = !ints2 u := by
    cases u with
    | tup us =>
      match us with
      | [] => rfl
      | [a] => rfl
      | [a, b] =>
        show (!true || (!gInt a || !(gInt a && gInt b))) = !(gInt a && gInt b)
        cases gInt a <;> cases gInt b <;> rfl
      | a :: b :: c :: r => simp [gPair, tv, two, ints2]
    | _ => rfl
  refine s_if (b := !gPair u || (!(tv u fun us => two us fun a b => gInt a) || !ints2 u)) (et_or (et_not (et_B (ev_J (ev_var rfl) hat fi))) fun q => ?_) (fun q H1 e => ?_) (fun q H1 e => ?_)
  · rw [Bool.not_eq_false'] at q
    obtain ⟨a, b, rfl⟩ := gPair_two q
    obtain ⟨p, x, y, rfl, hp, ha, hb⟩ := pair_at hat
    refine et_or (et_not (et_B (ev_J (g := gInt) (u := a) (ev_ixT (j := 0) (ev_var rfl) hp rfl) ha fi.fst))) fun q2 => et_is (et_not (et_B (ev_J (g := gInt) (u := b) (ev_ixT (j := 1) (ev_var rfl) hp rfl) hb fi.snd))) ?_
    have q3 : (!gInt a) = false := q2
    rw [Bool.not_eq_false'] at q3
    show (!gInt b) = !(gInt a && gInt b)
    rw [q3]
    rfl
  · refine s_ret ev_c fun H2 e2 => ?_
    rw [e0] at q
    have e4 : gStamp u = false := by
      cases u with
      | tup us =>
        match us with
        | [] => rfl
        | [a] => rfl
        | [a, b] =>
          have q' : (!(gInt a && gInt b)) = true := q
          show (iv a fun i => iv b fun j => _) = false
          cases a <;> try rfl
          cases b <;> first | rfl | cases q'
        | a :: b :: c :: r => rfl
      | _ => rfl
    rw [← e4]
    exact k H2 (e.trans e2)
  · rw [e0, Bool.not_eq_false'] at q
    obtain ⟨i, j, rfl⟩ := ints2_two q
    obtain ⟨p, x, y, rfl, hp, ha, hb⟩ := pair_at (ex_at e hat)
    have hx := at_int ha
    have hy := at_int hb
    subst hx hy
    refine s_ret (ev_orV (ev_opU (ev_var rfl) (eu_tup (ea_cons ev_c (ea_cons ev_c ea_nil)) (by decide)) fun q H1 hq e1 => rv_eq2 (Tu.ex e1 hp) hq) fun _ => ev_andV (ev_J (ev_ixT (j := 0) (ev_var rfl) hp rfl) ha fi.fst) fun _ => ev_J (ev_ixT (j := 1) (ev_var rfl) hp rfl) hb fi.snd) fun H2 e2 => ?_
    exact k H2 (e.trans e2)
/-! ### rising -/
def spAsc : Sp := fun vs H Q _ => ∃ (a : Addr) (ns : List Int), vs = [.ref a] ∧ H a = some (.tup (ns.map V.int)) ∧ 1 ≤ ns.length ∧ ns.length ≤ 1000 ∧ ∀ H', Same H H' → Q (.bl (ascI ns)) H'
theorem scAsc : FnScope ["things", "k"] ["things"] (defScope sAscending) := ⟨rfl, rfl, rfl, by decide +kernel, rfl, by decide +kernel, by decide +kernel⟩
theorem scRising : FnScope ["things", "k"] ["things"] (defScope lRising) := ⟨rfl, rfl, rfl, by decide +kernel, rfl, by decide +kernel, by decide +kernel⟩
theorem given_all (n : Nat) (v : Nat → V) : given n (fun _ => true) v = (List.range n).map v := by
  unfold given
  rw [List.filter_eq_self.mpr fun _ _ => rfl]
theorem getD_at {ns : List Int} {i : Nat} (h : i < ns.length) : (ns.map V.int)[i]? = some (.int (ns.getD i 0)) := by
  rw [List.getElem?_map, List.getD_eq_getElem?_getD, List.getElem?_eq_getElem h]
  rfl
theorem ev_cb1 {r : List V → Hp → VK → Prop} {σ : L2.St} {H : Hp} {te : TE} {xs : List V} {z : V} (h : EvL te σ H xs) (hr : ∀ p H1, H1 p = some (.lst xs) → Ex H H1 → ∀ Q : VK, (∀ H2, Ex H1 H2 → Q z H2) → r [.ref p] H1 Q) : Ev (tCB r (tCons te tNil)) σ H z :=
  fun H0 e Q q => h H0 e _ fun p H1 hp e1 h1 => hr p H1 h1 (e.trans e1) Q fun H2 e2 => q H2 (e1.trans e2)
theorem asc_reads {σ : L2.St} {H : Hp} {a : Addr} {ns : List Int} (h0 : σ = [some (.ref a), none]) (ha : H a = some (.tup (ns.map V.int))) (h1 : 1 ≤ ns.length) (h2 : ns.length ≤ 1000) :
    Ev (tCB (rAll K) (tCons (tLc (iRng1 (tCons (tOp (rI0 fun i j => .int (i - j)) (tCB (rLenQ K) (tCons (tVar 0) tNil)) (tC (.int 1))) tNil)) (gName 1) tYes (tOp (rI0 fun i j => .bl (decide (i < j))) (tOp (rIxT K) (tVar 0) (tVar 1)) (tOp (rIxT K) (tVar 0) (tOp (rI0 fun i j => .int (i + j)) (tVar 1) (tC (.int 1))))) [1]) tNil)) σ H (.bl (ascI ns)) := by
  subst h0
  have hl : (ns.map V.int).length = ns.length := List.length_map ..
  have hn : (((ns.map V.int).length : Nat) : Int) - 1 = ((ns.length - 1 : Nat) : Int) := by
    rw [hl]
    omega
  have main : EvL (tLc (iRng1 (tCons (tOp (rI0 fun i j => .int (i - j)) (tCB (rLenQ K) (tCons (tVar 0) tNil)) (tC (.int 1))) tNil)) (gName 1) tYes (tOp (rI0 fun i j => .bl (decide (i < j))) (tOp (rIxT K) (tVar 0) (tVar 1)) (tOp (rIxT K) (tVar 0) (tOp (rI0 fun i j => .int (i + j)) (tVar 1) (tC (.int 1))))) [1]) [some (.ref a), none] H
      (given ((((ns.map V.int).length : Nat) : Int) - 1).toNat (fun _ => true) fun k => .bl (decide (ns.getD k 0 < ns.getD (k + 1) 0))) :=
    el_lcR1 (σ := [some (.ref a), none]) (j := 1) (vs := [1]) (n := (((ns.map V.int).length : Nat) : Int) - 1) (fun _ => true) (fun k => .bl (decide (ns.getD k 0 < ns.getD (k + 1) 0))) (ea_cons (ev_op (ev_lenP (ev_var rfl) ha) ev_c rv_I0) ea_nil) (by omega) (fun _ => rfl) (fun _ _ _ _ => et_yes) (fun i H2 e2 hi _ => by
      have hi' : i + 1 < ns.length := by omega
      have i1 : atI (ns.map V.int) (i : Int) = some (.int (ns.getD i 0)) := atI_nat (getD_at (by omega))
      have i2 : atI (ns.map V.int) ((i : Int) + 1) = some (.int (ns.getD (i + 1) 0)) := atI_nat (j := i + 1) (getD_at hi')
      exact ev_op (ev_op (ev_var rfl) (ev_var rfl) (rv_ixT (st_of (e2 _ _ ha)) i1)) (ev_op (ev_var rfl) (ev_op (ev_var rfl) ev_c rv_I0) (rv_ixT (st_of (e2 _ _ ha)) i2)) rv_I0)
  refine ev_cb1 main fun p H2 h2 e2 Q q => ⟨p, (List.range (ns.length - 1)).map fun k => decide (ns.getD k 0 < ns.getD (k + 1) 0), rfl, sq_of ?_, ?_⟩
  · rw [h2, hn, given_all, Int.toNat_natCast, List.map_map]
    rfl
  · have e : ((List.range (ns.length - 1)).map fun k => decide (ns.getD k 0 < ns.getD (k + 1) 0)).all id = ascI ns := by
      rw [List.all_map]
      rfl
    rw [e]
    exact q H2 (Ex.refl H2)
theorem ok_asc {f : Addr} {fd : FuncData} (F : Fun K "is_ascending" "is_ascending" sAscending f fd) (B : Bt mg) : FnOk P wd K mg base CX0 1 f fd ["things"] spAsc := by
  refine F.ok scAsc (fun vs H Q E h => ?_) (fun cdv A outer s H vs Q E hr h => ?_)
  · obtain ⟨n, m, rfl, _⟩ := h
    rfl
  · obtain ⟨a, ns, rfl, ha, h1, h2, k⟩ := h
    refine ⟨_, pss_one (ps_ret (pe_callB (cr_all rfl) (by rfl) B.all boot_all' (pa_cons (pe_lc (own := [("k", 1)]) (g := gName 1) (tt := tYes) rfl scAsc.nd (pi_range1 (by rfl) B.range (pa_cons (pe_op op_sub (pe_callB call_len_seq (by rfl) B.len PySem.boot_len (pa_cons (pv 0) pa_nil)) pe_int) pa_nil)) (blkOk_by (N := ["things", "k"]) (sc := defScope sAscending) (by decide +kernel))
      (fun _ _ _ _ _ => pg_name (i := 1) scAsc.nd rfl (Or.inl rfl)) (fun _ _ _ _ _ => pts_nil) (fun _ _ _ _ _ => pe_cmpR op_lt (pe_ix (show IxR _ (rIxT K) from ix_tup) (pv 0) (pv 1) (fun _ _ => rfl)) (pe_ix (show IxR _ (rIxT K) from ix_tup) (pv 0) (pe_op op_add (pv 1) pe_int) (fun _ _ => rfl)) (nomark _))) pa_nil))), ?_⟩
    exact s_ret (asc_reads rfl ha h1 h2) k
theorem ok_rising {f : Addr} {fd : FuncData} (F : Fun K "_law_rising" "_law_rising" lRising f fd) (B : Bt mg) : FnOk P wd K mg base CX0 1 f fd ["things"] spAsc := by
  refine F.ok scRising (fun vs H Q E h => ?_) (fun cdv A outer s H vs Q E hr h => ?_)
  · obtain ⟨n, m, rfl, _⟩ := h
    rfl
  · obtain ⟨a, ns, rfl, ha, h1, h2, k⟩ := h
    refine ⟨_, pss_one (ps_ret (pe_callB (cr_all rfl) (by rfl) B.all boot_all' (pa_cons (pe_lc (own := [("k", 1)]) (g := gName 1) (tt := tYes) rfl scRising.nd (pi_range1 (by rfl) B.range (pa_cons (pe_op op_sub (pe_callB call_len_seq (by rfl) B.len PySem.boot_len (pa_cons (pv 0) pa_nil)) pe_int) pa_nil)) (blkOk_by (N := ["things", "k"]) (sc := defScope lRising) (by decide +kernel))
      (fun _ _ _ _ _ => pg_name (i := 1) scRising.nd rfl (Or.inl rfl)) (fun _ _ _ _ _ => pts_nil) (fun _ _ _ _ _ => pe_cmpR op_lt (pe_ix (show IxR _ (rIxT K) from ix_tup) (pv 0) (pv 1) (fun _ _ => rfl)) (pe_ix (show IxR _ (rIxT K) from ix_tup) (pv 0) (pe_op op_add (pv 1) pe_int) (fun _ _ => rfl)) (nomark _))) pa_nil))), ?_⟩
    exact s_ret (asc_reads rfl ha h1 h2) k
/-! ### members -/
theorem ints_of {w : Addr} {H : Hp} : ∀ {us : List U} {xs : List V}, AtL w C H xs us → us.all gInt = true → xs = (us.map intU).map V.int
  | _, _, .nil, _ => rfl
  | u :: us, _, .cons h l, q => by
    rw [List.all_cons, Bool.and_eq_true] at q
    obtain ⟨i, rfl⟩ := gInt_int q.1
    rw [ints_of l q.2, at_int h]
    rfl
theorem home_int {u : U} (h : gHome u = true) : gInt u = true := by
  cases u with
  | int i => rfl
  | _ => cases h
theorem homes_ints {us : List U} (h : us.all gHome = true) : us.all gInt = true := List.all_eq_true.mpr fun u hu => home_int (List.all_eq_true.mp h u hu)
theorem isB_first {u : U} {us : List U} (h : blkS u = false) : isB (u :: us) = false := by
  unfold isB
  rw [List.all_cons, h, Bool.false_and]
theorem isB_homes {us : List U} (h : us.all gHome = true) (h1 : 1 ≤ us.length) : isB us = false := by
  cases us with
  | nil => simp at h1
  | cons u us =>
    rw [List.all_cons, Bool.and_eq_true] at h
    obtain ⟨i, rfl⟩ := gInt_int (home_int h.1)
    exact isB_first rfl
theorem scMembers : FnScope ["thing", "item"] ["thing"] (defScope sMembers) := ⟨rfl, rfl, rfl, by decide +kernel, rfl, by decide +kernel, by decide +kernel⟩
def lenB (lo hi : Nat) (u : U) : Bool := tv u fun us => decide (lo ≤ us.length) && decide (us.length ≤ hi)
theorem spv_asc {H : Hp} {a : Addr} {ns : List Int} (ha : H a = some (.tup (ns.map V.int))) (h1 : 1 ≤ ns.length) (h2 : ns.length ≤ 1000) : SpV spAsc [.ref a] H (.bl (ascI ns)) := fun H1 e Q q E => ⟨a, ns, rfl, e _ _ ha, h1, h2, q⟩
theorem jd_members {f f1 f2 : Addr} {fd d1 d2 : FuncData} (D : Df K mg "is_members" sMembers ["thing"] f fd) (S : Bs K mg C) (N : Cn mg) (J : Jd P wd K mg base C 2 "is_home" "thing" f1 d1 gHome) (DA : Df K mg "is_ascending" sAscending ["things"] f2 d2) :
    Jd P wd K mg base C 4 "is_members" "thing" f fd gMembers := by
  refine ⟨D.F.ok scMembers lenJ (fun cdv A outer s H vs Q E hr h => ?_), D.g, D.F.kp, D.b⟩
  obtain ⟨v, u, w, rfl, hat, fi, k⟩ := h
  obtain ⟨t, h9⟩ := N.homes
  have GA : FnOk P wd K mg base CX0 3 f2 d2 ["things"] spAsc := (ok_asc DA.F S.B).mono (by decide)
  refine ⟨_, pss_cons (ps_if (PW.pt (pw_or (pt_not (pt_val (pe_isiX S (by rfl) (by rfl) S.B.tup boot_tuple' (by decide) (pv 0) (by decide) (by decide))))
      (pw_or1 (pt_not (pt_chain op_le op_le pe_int (pe_callB call_len_seq (by rfl) S.B.len PySem.boot_len (pa_cons (pv 0) pa_nil)) (pe_glob (v := .int 9) rfl h9 ⟨_, rfl⟩))))))
      (pss_one (ps_ret pe_bl)) pss_nil)
    (pss_one (ps_ret (pe_and (pe_callB (cr_all rfl) (by rfl) S.B.all boot_all' (pa_cons (pe_lc (own := [("item", 1)]) (g := gName 1) (tt := tYes) rfl scMembers.nd (pi_tup (pv 0)) (blkOk_by (N := ["thing", "item"]) (sc := defScope sMembers) (by decide +kernel))
      (fun _ _ _ _ _ => pg_name (i := 1) scMembers.nd rfl (Or.inl rfl)) (fun _ _ _ _ _ => pts_nil) (fun _ _ _ _ _ => pe_J J hr (by decide) (by rfl) pass0 (pv 1))) pa_nil))
      (pe_one (pe_call GA hr (by rfl) DA.g DA.F.kp DA.b .nil pass0 (pa_cons (pv 0) pa_nil)))))), ?_⟩
  refine s_if (b := !isT u "tuple" || !lenB 1 9 u) (et_or (et_not (et_B (ev_isi (ev_var rfl) hat))) fun q => ?_) (fun q H1 e => ?_) (fun q H1 e => ?_)
  · rw [Bool.not_eq_false'] at q
    obtain ⟨us, rfl⟩ := isT_tup q
    obtain ⟨a, xs, rfl, ha, _, hl⟩ := at_tup hat
    exact et_not (et_test (ev_is (ev_chain ev_c (ev_lenTU (K := K) (ev_var rfl) ha hl) ev_c rv_I0 fun _ => rv_I0) (by rw [show (9 : Int) = ((9 : Nat) : Int) from rfl, show (1 : Int) = ((1 : Nat) : Int) from rfl, dec_le, dec_le]; rfl)))
  · refine s_ret ev_c fun H2 e2 => ?_
    have e3 : gMembers u = false := by
      cases u with
      | tup us =>
        simp [isT, isS, tyU] at q
        show ((lenB 1 9 (.tup us) && _) && _) = false
        rw [q]
        rfl
      | _ => rfl
    rw [← e3]
    exact k H2 (e.trans e2)
  · rw [Bool.or_eq_false_iff, Bool.not_eq_false', Bool.not_eq_false'] at q
    obtain ⟨us, rfl⟩ := isT_tup q.1
    obtain ⟨a, xs, rfl, ha, _, hl⟩ := at_tup (ex_at e hat)
    have hb : (decide (1 ≤ us.length) && decide (us.length ≤ 9)) = true := q.2
    rw [Bool.and_eq_true] at hb
    have b1 : 1 ≤ us.length := of_decide_eq_true hb.1
    have b2 : us.length ≤ 9 := of_decide_eq_true hb.2
    refine s_ret (ev_andV (b := ascI (us.map intU)) (ev_allT (g := gHome) (ev_var rfl) ha fi.len hl (fun _ => rfl) fun x u hu hx => ev_J (ev_var rfl) hx (fi.tup u hu)) fun q2 => ?_) fun H2 e2 => ?_
    · have hx := ints_of hl (homes_ints q2)
      rw [hx] at ha
      exact ev_call (ea_cons (ev_var rfl) ea_nil) (spv_asc (ha.plain (isB_homes q2 b1)) (by rw [List.length_map]; exact b1) (by rw [List.length_map]; omega))
    · have e3 : gMembers (.tup us) = (us.all gHome && ascI (us.map intU)) := by
        show ((lenB 1 9 (.tup us) && us.all gHome) && _) = _
        rw [q.2]
        rfl
      rw [← e3]
      exact k H2 (e.trans e2)
end
end Hs
/-! tuples of integers and texts: which is less -/
namespace Hk
open PySem PySem.Spec PyProof.Rows L2
/-- two keys of one kind -/
def kin : L2.Key → L2.Key → Bool
  | .inl _, .inl _ => true
  | .inr _, .inr _ => true
  | _, _ => false
def kEq : L2.Key → L2.Key → Bool
  | .inl i, .inl j => i == j
  | .inr x, .inr y => x == y
  | _, _ => false
def kLt : L2.Key → L2.Key → Bool
  | .inl i, .inl j => decide (i < j)
  | .inr x, .inr y => decide (x.cps.toList < y.cps.toList)
  | _, _ => false
/-- by the first pair that differs -/
def ltK : List L2.Key → List L2.Key → Bool
  | [], [] => false
  | [], _ :: _ => true
  | _ :: _, [] => false
  | k :: ks, l :: ls => if kEq k l = true then ltK ks ls else kLt k l
def kinds : List L2.Key → List L2.Key → Bool
  | k :: ks, l :: ls => kin k l && kinds ks ls
  | _, _ => true
theorem kEq_iff {k l : L2.Key} : kEq k l = true ↔ k = l := by
  cases k with
  | inl i => cases l with
    | inl j => simp [kEq]
    | inr y => simp [kEq]
  | inr x => cases l with
    | inl j => simp [kEq]
    | inr y => simp [kEq]
def d0 : L2.Key := .inl 0
theorem lexAt_is : ∀ (ks ls : List L2.Key) (i : Nat) (e r : Nat → Bool), (∀ j, e (i + j) = kEq (ks.getD j d0) (ls.getD j d0)) → (∀ j, r (i + j) = kLt (ks.getD j d0) (ls.getD j d0)) →
    Ob.lexAt e r (decide (ks.length < ls.length)) i (min ks.length ls.length) = ltK ks ls
  | [], [], i, e, r, _, _ => rfl
  | [], _ :: _, i, e, r, _, _ => by
    show Ob.lexAt e r _ i 0 = true
    rw [Ob.lexAt_zero]
    simp
  | _ :: _, [], i, e, r, _, _ => by
    show Ob.lexAt e r _ i 0 = false
    rw [Ob.lexAt_zero]
    simp
  | k :: ks, l :: ls, i, e, r, he, hr => by
    have h0 := he 0
    have h1 := hr 0
    rw [Nat.add_zero] at h0 h1
    have ih := lexAt_is ks ls (i + 1) e r (fun j => by
      have := he (j + 1)
      rw [show i + 1 + j = i + (j + 1) from by omega, this]
      rfl) (fun j => by
      have := hr (j + 1)
      rw [show i + 1 + j = i + (j + 1) from by omega, this]
      rfl)
    have el : decide ((k :: ks).length < (l :: ls).length) = decide (ks.length < ls.length) := by
      rw [List.length_cons, List.length_cons]
      by_cases q : ks.length < ls.length
      · rw [decide_eq_true q, decide_eq_true (by omega)]
      · rw [decide_eq_false q, decide_eq_false (by omega)]
    have em : min (k :: ks).length (l :: ls).length = min ks.length ls.length + 1 := by
      rw [List.length_cons, List.length_cons]
      omega
    rw [el, em, Ob.lexAt_succ, ih, h0, h1]
    rfl
section
variable {X : Cx}
def rLtK (K : PySem.W.Frag) : R2 := fun x y H Q => ∃ (a b : Addr) (ks ls : List L2.Key), x = .ref a ∧ y = .ref b ∧ SqT K H a (ks.map kV) ∧ SqT K H b (ls.map kV) ∧ kinds ks ls = true ∧ Q (.bl (ltK ks ls)) H
theorem rel_at : ∀ {ks : List L2.Key} {us : List Value}, Vals (ks.map kV) us → ∀ j (h : j < us.length), RelV (kV (ks.getD j d0)) us[j]
  | [], us, r, j, h => by
    cases r
    exact absurd h (Nat.not_lt_zero _)
  | k :: ks, us, r, j, h => by
    rw [List.map_cons] at r
    cases r with
    | cons r1 r2 =>
      cases j with
      | zero => exact r1
      | succ j => exact rel_at r2 j (Nat.lt_of_succ_lt_succ h)
theorem kinds_at : ∀ {ks ls : List L2.Key}, kinds ks ls = true → ∀ j, j < ks.length → j < ls.length → kin (ks.getD j d0) (ls.getD j d0) = true
  | [], _, _, j, h, _ => absurd h (Nat.not_lt_zero _)
  | _ :: _, [], _, j, _, h => absurd h (Nat.not_lt_zero _)
  | k :: ks, l :: ls, q, j, h1, h2 => by
    unfold kinds at q
    rw [Bool.and_eq_true] at q
    cases j with
    | zero => exact q.1
    | succ j => exact kinds_at q.2 j (Nat.lt_of_succ_lt_succ h1) (Nat.lt_of_succ_lt_succ h2)
theorem op_ltK (hu : X.A.units < cLine) : OpR X (compareOp .Lt) (rLtK X.K) := by
  intro pins s σ H x y v u Q I rx ry h
  obtain ⟨a, b, ks, ls, rfl, rfl, ha, hb, hk, q⟩ := h
  cases rx
  cases ry
  obtain ⟨xs, r1, p1, _⟩ := I.tuple ha
  obtain ⟨ys, r2, p2, _⟩ := I.tuple hb
  have l1 : xs.toArray.size = ks.length := by
    have := r1.length
    rw [List.length_map] at this
    rw [List.size_toArray, this]
  have l2 : ys.toArray.size = ls.length := by
    have := r2.length
    rw [List.length_map] at this
    rw [List.size_toArray, this]
  have main := Ob.RcOp.tuples_lt (A := X.A) (s := s) (e := fun j => kEq (ks.getD j d0) (ls.getD j d0)) (r := fun j => kLt (ks.getD j d0) (ls.getD j d0)) p1 p2 hu (fun j h1 h2 => by
    have v1 := rel_at r1 j (by simpa using h1)
    have v2 := rel_at r2 j (by simpa using h2)
    have kk := kinds_at hk j (l1 ▸ h1) (l2 ▸ h2)
    have g1 : xs.toArray[j] = xs[j]'(by simpa using h1) := by simp
    have g2 : ys.toArray[j] = ys[j]'(by simpa using h2) := by simp
    rw [g1, g2]
    generalize ks.getD j d0 = k at v1 kk ⊢
    generalize ls.getD j d0 = l at v2 kk ⊢
    cases k with
    | inl i => cases l with
      | inl j =>
        obtain ⟨t, e1⟩ := v1
        obtain ⟨t', e2⟩ := v2
        rw [e1, e2]
        exact SeqAt.EqAt.int_int _ _ _ _
      | inr y => cases kk
    | inr z => cases l with
      | inl j => cases kk
      | inr y =>
        obtain ⟨t, e1⟩ := v1
        obtain ⟨t', e2⟩ := v2
        rw [e1, e2]
        exact SeqAt.EqAt.str_str _ _ _ _) (fun j h1 h2 _ => by
    have v1 := rel_at r1 j (by simpa using h1)
    have v2 := rel_at r2 j (by simpa using h2)
    have kk := kinds_at hk j (l1 ▸ h1) (l2 ▸ h2)
    have g1 : xs.toArray[j] = xs[j]'(by simpa using h1) := by simp
    have g2 : ys.toArray[j] = ys[j]'(by simpa using h2) := by simp
    rw [g1, g2]
    generalize ks.getD j d0 = k at v1 kk ⊢
    generalize ls.getD j d0 = l at v2 kk ⊢
    cases k with
    | inl i => cases l with
      | inl j =>
        obtain ⟨t, e1⟩ := v1
        obtain ⟨t', e2⟩ := v2
        rw [e1, e2]
        exact Ob.RcOp.lt_int _ _ _ _
      | inr y => cases kk
    | inr z => cases l with
      | inl j => cases kk
      | inr y =>
        obtain ⟨t, e1⟩ := v1
        obtain ⟨t', e2⟩ := v2
        rw [e1, e2]
        exact fun prog w E Q h => PyProof.Rows.lt_str h)
  rw [l1, l2, lexAt_is ks ls 0 _ _ (fun j => by rw [Nat.zero_add]) (fun j => by rw [Nat.zero_add])] at main
  exact main X.prog X.w X.xe (EP X pins σ Q) ⟨.bl (ltK ks ls), H, I, rfl, q⟩
end
/-! ### a strict order -/
theorem strLt_irrefl (a : List Nat) : ¬ a < a := List.lt_irrefl a
theorem kLt_irrefl (k : L2.Key) : kLt k k = false := by
  cases k with
  | inl i => simp [kLt]
  | inr x => exact decide_eq_false (List.lt_irrefl _)
end Hk
namespace PySem.SeqAt
open PySem PySem.Spec PyProof.Rows
theorem dict_eq_declines_tuple (l b : Addr) (es : Array DictEntry) (items2 : Array Value) (n n2 : Nat) (dd dd2 : Option Addr) (sl sl2 : Array (Option Value)) :
    Meets (Builtin.«dict.__eq__» ⟨[.ref l, .ref b], []⟩) (fun _ R s => s.heap.get? l = some { cls := .type "dict", dict := dd, data := .dict es n, slots := sl } ∧ s.heap.get? b = some { cls := .type "tuple", dict := dd2, data := .seq items2 n2, slots := sl2 } ∧ R (.ok (.ret .notImplemented)) s) :=
  .of_wp fun prog w A R s h => by obtain ⟨hp, g, d, tk, os⟩ := s; obtain ⟨hl, hb, h⟩ := h; have f1 := F.sub_tuple_dict; wp_walk using wpAny_loadPart' hl, wpAny_loadPart' hb; exact ⟨_, rfl, h⟩
theorem tuple_eq_declines_dict (l b : Addr) (items : Array Value) (es : Array DictEntry) (n n2 : Nat) (dd dd2 : Option Addr) (sl sl2 : Array (Option Value)) :
    Meets (Builtin.«tuple.__eq__» ⟨[.ref l, .ref b], []⟩) (fun _ R s => s.heap.get? l = some { cls := .type "tuple", dict := dd, data := .seq items n, slots := sl } ∧ s.heap.get? b = some { cls := .type "dict", dict := dd2, data := .dict es n2, slots := sl2 } ∧ R (.ok (.ret .notImplemented)) s) :=
  .of_wp fun prog w A R s h => by obtain ⟨hp, g, d, tk, os⟩ := s; obtain ⟨hl, hb, h⟩ := h; have f1 := F.sub_dict_tuple; wp_walk using wpAny_loadPart' hl, wpAny_loadPart' hb; exact ⟨_, rfl, h⟩
theorem dict_eq_declines_int (l : Addr) (es : Array DictEntry) (n : Nat) (dd : Option Addr) (sl : Array (Option Value)) (b : Int) (u : Tok) :
    Meets (Builtin.«dict.__eq__» ⟨[.ref l, .int b u], []⟩) (fun _ R s => s.heap.get? l = some { cls := .type "dict", dict := dd, data := .dict es n, slots := sl } ∧ R (.ok (.ret .notImplemented)) s) :=
  .of_wp fun prog w A R s h => by obtain ⟨hp, g, d, tk, os⟩ := s; obtain ⟨hl, h⟩ := h; have f1 := F.sub_int_dict; wp_walk using wpAny_loadPart' hl; exact ⟨_, rfl, h⟩
theorem int_eq_declines_dict (b : Int) (u : Tok) (l : Addr) (es : Array DictEntry) (n : Nat) (dd : Option Addr) (sl : Array (Option Value)) :
    Meets (Builtin.«int.__eq__» ⟨[.int b u, .ref l], []⟩) (fun _ R s => s.heap.get? l = some { cls := .type "dict", dict := dd, data := .dict es n, slots := sl } ∧ R (.ok (.ret .notImplemented)) s) :=
  .of_wp fun prog w A R s h => by obtain ⟨hp, g, d, tk, os⟩ := s; obtain ⟨hl, h⟩ := h; wp_walk using wpAny_loadPart' hl, wpAny_load hl; exact ⟨_, rfl, h⟩
section
variable {A : Around} {s : Shared}
theorem RcAt.dict_int {l : Addr} {es : Array DictEntry} {n : Nat} {dd : Option Addr} {sl : Array (Option Value)} (b : Int) (u : Tok) (ho : s.heap.get? l = some { cls := .type "dict", dict := dd, data := .dict es n, slots := sl }) (hu : A.units < cLine) : RcAt A s (.ref l) (.int b u) false := fun prog w E Q h =>
  rc_eq_decline_or (k := false) ⟨_, ho, rfl⟩ (typeIs_int s b u) (by decide) F.sub_int_dict F.slot_dict_eq F.slot_int_eq_refl
    (fun _ hq => call_meets F.slot_dict_eq ⟨_, ho, rfl⟩ F.entry_dict_eq (F.args_dict_eq_2 _ _) (dict_eq_declines_int l es n dd sl b u) ⟨ho, hq⟩)
    (fun _ hq => call_meets F.slot_int_eq_refl (typeIs_int s b u) F.entry_int_eq (F.args_int_eq_2 _ _) (int_eq_declines_dict b u l es n dd sl) ⟨ho, hq⟩)
    (fun _ hq => wpAny_of_eq (rfl : isSame (.ref l) (.int b u) = pure false) hq) (.inr hu) h
theorem EqAt.dict_int {l : Addr} {es : Array DictEntry} {n : Nat} {dd : Option Addr} {sl : Array (Option Value)} (b : Int) (u : Tok) (ho : s.heap.get? l = some { cls := .type "dict", dict := dd, data := .dict es n, slots := sl }) (hu : A.units < cLine) : EqAt A s (.ref l) (.int b u) false := fun prog w E Q h => by
  unfold eqBool
  refine wpAny_holding ?_
  refine wpAny_ite_split (fun hab => absurd (eq_of_beq hab) nofun) (fun _ => ?_)
  exact wpAny_bind (RcAt.dict_int b u ho hu prog w E _ (wpAny_truthy_bool h))
theorem RcAt.dict_tuple {l b : Addr} {es : Array DictEntry} {n : Nat} {dd : Option Addr} {sl : Array (Option Value)} {items2 : Array Value} (ho : s.heap.get? l = some { cls := .type "dict", dict := dd, data := .dict es n, slots := sl }) (hb : s.heap.IsTuple b items2) (hu : A.units < cLine) : RcAt A s (.ref l) (.ref b) false := by
  obtain ⟨⟨cls2, dd2, data2, sl2⟩, ho2, hc2, n2, hd2⟩ := id hb
  simp only at hc2 hd2
  subst hc2 hd2
  have hne : l ≠ b := fun e => by
    subst e
    have e1 := congrArg (Option.map Obj.data) (ho.symm.trans ho2)
    cases e1
  exact fun prog w E Q h => rc_eq_decline_or (k := false) ⟨_, ho, rfl⟩ ⟨_, ho2, rfl⟩ (by decide) F.sub_tuple_dict F.slot_dict_eq F.slot_tuple_eq_refl
    (fun _ hq => call_meets F.slot_dict_eq ⟨_, ho, rfl⟩ F.entry_dict_eq (F.args_dict_eq_2 _ _) (dict_eq_declines_tuple l b es items2 n n2 dd dd2 sl sl2) ⟨ho, ho2, hq⟩)
    (fun _ hq => call_meets F.slot_tuple_eq_refl ⟨_, ho2, rfl⟩ F.entry_tuple_eq (F.args_tuple_eq_2 _ _) (tuple_eq_declines_dict b l items2 es n2 n dd2 dd sl2 sl) ⟨ho2, ho, hq⟩)
    (fun _ hq => wpAny_isSame_ref_other hne ho ho2 (by simp) hq) (.inr hu) h
theorem EqAt.dict_tuple {l b : Addr} {es : Array DictEntry} {n : Nat} {dd : Option Addr} {sl : Array (Option Value)} {items2 : Array Value} (ho : s.heap.get? l = some { cls := .type "dict", dict := dd, data := .dict es n, slots := sl }) (hb : s.heap.IsTuple b items2) (hu : A.units < cLine) : EqAt A s (.ref l) (.ref b) false := by
  have hne : l ≠ b := fun e => by
    obtain ⟨o2, ho2, hc2, n2, hd2⟩ := hb
    subst e
    have e1 := congrArg (Option.map Obj.data) (ho.symm.trans ho2)
    have e2 : some (Data.dict es n) = some o2.data := e1
    rw [hd2] at e2
    cases e2
  exact .of_refs hne (RcAt.dict_tuple ho hb hu)
end
end PySem.SeqAt
namespace HX
open PySem PySem.Spec PyProof.Rows PySem.SeqAt
section
variable {prog : Program} {w : World} {A : Around} {E : Value → Shared → Prop} {s : Shared} {K : PySem.W.Frag} {x C : Addr} {ox : Obj} {od : Option Obj}
/-- what compares with an instance without an __eq__ of its own -/
theorem entry_other {M : Model} {y : Value} {Q : Fin → Shared → Prop} (hs : ∀ Q' : Bool → Shared → Prop, Q' false s → wpAny M A (isSame (.ref x) y) Q' E s) (hq : Q (.done (.ret .notImplemented)) s) : wpAny M A (Builtin.«object.__eq__» ⟨[.ref x, y], []⟩) Q E s := by
  unfold Builtin.«object.__eq__»
  repeat (first | with_reducible refine hs _ ?_ | wp_step)
  exact hq
theorem rc_other {y : Value} {T : String} (hu : A.units < cLine) (X : K.In s.heap) (I : PySem.W.InstAt s.heap x ox C od) (hm : PySem.W.mroIn K C (.type "object") = some true) (hs : PySem.W.findIn K (.ref C) "__eq__" = some (some (.builtin "object.__eq__")))
    (hy : s.TypeIs y T) (hsame : ∀ (M : Model) (A' : Around) (E' : Value → Shared → Prop) (Q' : Bool → Shared → Prop), Q' false s → wpAny M A' (isSame (.ref x) y) Q' E' s) (sub : PySem.W.subIn K (.type T) (.ref C) = some false)
    (two : ∀ (prog : Program) (w : World) (E : Value → Shared → Prop), wpAny (model prog w) A (tryCompare y "__eq__" (.ref x)) (fun r s' => r = none ∧ s' = s) E s) :
    RcAt A s (.ref x) y false := fun prog w E Q h => by
  have callObj : ∀ Q : Value → Shared → Prop, Q .notImplemented s → wpAny (model prog w) A (call (.builtin "object.__eq__") [.ref x, y]) Q E s := fun Q hq =>
    wpAny_call (codeAny_call_builtin F.cmp_object.eq.plain F.cmpEntry_eq (PySem.W.check_slot F.cmpKind_eq F.cmpSplit_eq (I.type.andThen (PySem.W.looks_mroIn X hm)) (F.cmpArgs_eq _ _) (entry_other (fun Q' q => hsame _ _ _ Q' q) hq)))
  have one : wpAny (model prog w) A (tryCompare (.ref x) "__eq__" y) (fun r s' => r = none ∧ s' = s) E s := by
    unfold tryCompare
    exact wpAny_bind (HN.ifBound_objEq X I hs (callObj _ (wpAny_pure ⟨rfl, rfl⟩)))
  simp only [richCompare, cmpInfo_Eq, oneThing_ref]
  refine wpAny_holding (wpAny_bind (wpAny_cRoomFor hu ?_))
  refine wpAny_bind (I.type.here ?_)
  refine wpAny_bind (wpAny_typeOf hy ?_)
  split
  · refine wpAny_bind ((PySem.W.looks_subIn X sub).here ?_)
    simp only [Bool.false_eq_true, if_false, Bool.not_false, if_true]
    refine wpAny_bind (m := tryCompare (.ref x) _ y) (wpAny_mono one (fun r s1 z => ?_) fun _ _ e => e)
    obtain ⟨z1, z2⟩ := z
    subst z1
    subst z2
    refine wpAny_bind (m := tryCompare y _ (.ref x)) (wpAny_mono (two prog w E) (fun r s2 z => ?_) fun _ _ e => e)
    obtain ⟨z1, z2⟩ := z
    subst z1
    subst z2
    exact wpAny_bind (wpAny_rule (wpAny_bind (hsame _ _ _ _ (wpAny_pure h))))
  · rename_i q
    exact absurd (by simp) q
theorem sub_of {T : String} (e : fastBuiltinMro T = some [.type T, .type "object"]) : PySem.W.subIn K (.type T) (.ref C) = some false := by
  show (fastBuiltinMro T).map (·.contains (.ref C)) = some false
  rw [e]
  first
    | rfl
    | simp
/-- an instance is no tuple -/
theorem isi_tup {M : Model} {R : Bool → Shared → Prop} (X : K.In s.heap) (I : PySem.W.InstAt s.heap x ox C od) (st : PySem.W.subIn K (.ref C) (.type "tuple") = some false) (h : R false s) : wpAny M A (isInstance (.ref x) (.type "tuple")) R E s := by
  simp only [isInstance]
  exact wpAny_bind (I.type.here ((PySem.W.looks_subIn X st).here h))
theorem rcAt_tup {b : Addr} {items : Array Value} (hu : A.units < cLine) (X : K.In s.heap) (I : PySem.W.InstAt s.heap x ox C od) (hm : PySem.W.mroIn K C (.type "object") = some true) (hs : PySem.W.findIn K (.ref C) "__eq__" = some (some (.builtin "object.__eq__"))) (st : PySem.W.subIn K (.ref C) (.type "tuple") = some false)
    (hb : s.heap.IsTuple b items) : RcAt A s (.ref x) (.ref b) false := by
  obtain ⟨⟨cls2, dd2, data2, sl2⟩, ho2, hc2, n2, hd2⟩ := id hb
  simp only at hc2 hd2
  subst hc2 hd2
  have hne : x ≠ b := fun e => by
    subst e
    have e1 := congrArg (Option.map Obj.cls) (I.at_.symm.trans ho2)
    have e2 : some ox.cls = some (Value.type "tuple") := e1
    rw [I.cls] at e2
    cases e2
  refine rc_other (T := "tuple") hu X I hm hs ⟨_, ho2, rfl⟩ (fun M A' E' Q' q => wpAny_isSame_ref_other hne I.at_ ho2 (by simp; rw [I.cls]; exact fun e => by cases e) q) (sub_of (by decide +kernel)) fun prog w E => ?_
  refine wpAny_tryCompare_declines ⟨_, ho2, rfl⟩ F.slot_tuple_eq_refl (wpAny_call_entry F.slot_tuple_eq_refl ⟨_, ho2, rfl⟩ F.entry_tuple_eq ?_ (F.args_tuple_eq_2 _ _))
  unfold Builtin.«tuple.__eq__»
  wp_walk using isi_tup X I st
  exact ⟨_, rfl, rfl, rfl, rfl⟩
theorem rcAt_int {vs : Array Value} (b : Int) (u : Tok) (hu : A.units < cLine) (X : K.In s.heap) (I : PySem.W.InstAt s.heap x ox C od) (hm : PySem.W.mroIn K C (.type "object") = some true) (hs : PySem.W.findIn K (.ref C) "__eq__" = some (some (.builtin "object.__eq__"))) (hd : ox.data = .fields vs) :
    RcAt A s (.ref x) (.int b u) false := by
  obtain ⟨cls, dd, data, sl⟩ := ox
  simp only at hd
  subst hd
  have ho := I.at_
  exact rc_other (T := "int") hu X I hm hs (typeIs_int s b u) (fun M A' E' Q' q => wpAny_of_eq (rfl : isSame (.ref x) (.int b u) = pure false) q) (sub_of (by decide +kernel)) fun prog w E => by
    refine wpAny_tryCompare_declines (typeIs_int s b u) F.slot_int_eq_refl (wpAny_call_entry F.slot_int_eq_refl (typeIs_int s b u) F.entry_int_eq ?_ (F.args_int_eq_2 _ _))
    obtain ⟨hp, g, d, tk, os⟩ := s
    unfold Builtin.«int.__eq__»
    wp_walk using wpAny_loadPart' ho, wpAny_load ho
    exact ⟨_, rfl, rfl, rfl, rfl⟩
theorem eqAt_tup {b : Addr} {items : Array Value} (hu : A.units < cLine) (X : K.In s.heap) (I : PySem.W.InstAt s.heap x ox C od) (hm : PySem.W.mroIn K C (.type "object") = some true) (hs : PySem.W.findIn K (.ref C) "__eq__" = some (some (.builtin "object.__eq__"))) (st : PySem.W.subIn K (.ref C) (.type "tuple") = some false)
    (hb : s.heap.IsTuple b items) : EqAt A s (.ref x) (.ref b) false := by
  have hne : x ≠ b := fun e => by
    obtain ⟨o2, ho2, hc2, _⟩ := hb
    subst e
    have e1 := congrArg (Option.map Obj.cls) (I.at_.symm.trans ho2)
    have e2 : some ox.cls = some o2.cls := e1
    rw [I.cls, hc2] at e2
    cases e2
  exact .of_refs hne (rcAt_tup hu X I hm hs st hb)
end
end HX
/-! any value against an empty tuple; a tuple of such against four empty ones; is_ascending of anything that compares -/
namespace Hs
open PySem PySem.Spec PyProof.Rows L2 Hu Evl
/-- compared with (): nothing, a flag, an integer, a text, a tuple, a list -/
inductive Nc (K : PySem.W.Frag) (H : Hp) : V → Bool → Prop
  | non : Nc K H .non false
  | bl (b : Bool) : Nc K H (.bl b) false
  | int (i : Int) : Nc K H (.int i) false
  | str (z : Str) : Nc K H (.str z) false
  | tup {a : Addr} {xs : List V} : SqT K H a xs → Nc K H (.ref a) xs.isEmpty
  | lst {a : Addr} {xs : List V} : SqL K H a xs → Nc K H (.ref a) false
  | dct {a : Addr} {kvs : List (L2.Key × V)} : H a = some (.dK kvs) → Nc K H (.ref a) false
  | exc {a t C : Addr} : Eqx K C → H a = some (ExN C t a) → Nc K H (.ref a) false
/-- compared with an integer -/
inductive Ni (K : PySem.W.Frag) (H : Hp) (i : Int) : V → Bool → Prop
  | non : Ni K H i .non false
  | bl (b : Bool) : Ni K H i (.bl b) ((if b then 1 else 0) == i)
  | int (j : Int) : Ni K H i (.int j) (j == i)
  | str (z : Str) : Ni K H i (.str z) false
  | tup {a : Addr} {xs : List V} : SqT K H a xs → Ni K H i (.ref a) false
  | lst {a : Addr} {xs : List V} : SqL K H a xs → Ni K H i (.ref a) false
  | dct {a : Addr} {kvs : List (L2.Key × V)} : H a = some (.dK kvs) → Ni K H i (.ref a) false
  | exc {a t C : Addr} : Eqx K C → H a = some (ExN C t a) → Ni K H i (.ref a) false
theorem inst_exn {prog : Program} {w : World} {H : Hp} {h : Heap} {a t C : Addr} (ok : HOk prog w H h) (e : H a = some (ExN C t a)) : ∃ o vs, PySem.W.InstAt h a o C none ∧ o.data = .fields vs := by
  obtain ⟨⟨o, vs, q1, q2, q3, q4, q5⟩, _, _⟩ := ok a _ e
  obtain ⟨cls, dd, data, sl⟩ := o
  simp only at q2 q3 q5
  subst q2 q3 q5
  exact ⟨_, vs, ⟨q1, rfl, rfl, True.intro⟩, rfl⟩
theorem dict_dk {prog : Program} {w : World} {H : Hp} {h : Heap} {a : Addr} {kvs : List (L2.Key × V)} (ok : HOk prog w H h) (e : H a = some (.dK kvs)) : ∃ dd es ep sl, h.get? a = some { cls := .type "dict", dict := dd, data := .dict es ep, slots := sl } := by
  obtain ⟨_, hsys, vs, kv, o, es, ep, g1, g2, g3, _⟩ := ok a _ e
  obtain ⟨cls, dd, data, sl⟩ := o
  have g2' : cls = .type "dict" := g2.1
  simp only at g3
  subst g2' g3
  exact ⟨dd, es, ep, sl, g1⟩
section
variable {X : Cx} {pins : List (Addr × Obj)} {σ : L2.St} {H : Hp} {s : Shared} {x : V} {u : Value} {e : Bool} {c : Addr}
theorem empty_arr {α : Type} {xs : List V} {its : List Value} (h : Vals xs its) : (its.toArray.size == 0) = xs.isEmpty := by
  rw [List.size_toArray, ← h.length]
  cases xs <;> rfl
theorem vals_nil {its : List Value} (h : Vals [] its) : its = [] := by
  cases h
  rfl
theorem Nc.rc {A : Around} (n : Nc X.K H x e) (I : Inv X pins σ H s) (r : RelV x u) (hc : SqT X.K H c []) (hu2 : A.units < cLine) : SeqAt.EqAt A s u (.ref c) e := by
  obtain ⟨cs, rc, pc, _⟩ := I.tuple hc
  have ec := vals_nil rc
  subst ec
  cases n with
  | non =>
    cases r
    exact SeqAt.EqAt.none_tuple pc hu2
  | bl b =>
    cases r
    exact SeqAt.EqAt.bool_tuple b pc hu2
  | int i =>
    obtain ⟨t, rfl⟩ := r
    exact SeqAt.EqAt.int_tuple i t pc hu2
  | str z =>
    obtain ⟨t, rfl⟩ := r
    exact SeqAt.EqAt.str_tuple z t pc hu2
  | @tup a xs h =>
    cases r
    obtain ⟨its, r1, p1, _⟩ := I.tuple h
    by_cases q : a = c
    · subst q
      have := I.tuple_inj h hc
      subst this
      exact SeqAt.EqAt.same _
    · have m := SeqAt.RcAt.tuples (A := A) (s := s) (e := fun _ => true) p1 pc hu2 (fun j h1 h2 => absurd h2 (by simp))
      have e1 : ((List.range (min its.toArray.size (#[] : Array Value).size)).all (fun _ => true) && its.toArray.size == (#[] : Array Value).size) = xs.isEmpty := by
        rw [← empty_arr (α := Unit) r1]
        simp
      rw [show ([] : List Value).toArray = #[] from rfl, e1] at m
      exact SeqAt.EqAt.of_refs q m
  | @lst a xs h =>
    cases r
    obtain ⟨its, r1, p1, _⟩ := I.list h
    exact SeqAt.EqAt.list_tuple p1.isList pc hu2
  | @dct a kvs h =>
    cases r
    obtain ⟨dd, es, ep, sl, g⟩ := dict_dk I.hok h
    exact SeqAt.EqAt.dict_tuple g pc hu2
  | @exc a t C q h =>
    cases r
    obtain ⟨o, vs, i, _⟩ := inst_exn I.hok h
    exact HX.eqAt_tup hu2 I.kIn i q.m q.e q.t pc
/-- x == () -/
def rEqN (K : PySem.W.Frag) : R2 := fun x y H Q => ∃ c e, y = .ref c ∧ SqT K H c [] ∧ Nc K H x e ∧ Q (.bl e) H
theorem op_eqN (hu : X.A.units + 64 < cLine) : OpR X (compareOp .Eq) (rEqN X.K) := by
  intro pins s σ H x y v u Q I rx ry h
  obtain ⟨c, e, rfl, hc, n, q⟩ := h
  cases ry
  obtain ⟨cs, rc, pc, _⟩ := I.tuple hc
  have ec := vals_nil rc
  subst ec
  have hu2 : X.A.units < cLine := by omega
  have done : EP X pins σ Q (.bool e) s := ⟨.bl e, H, I, rfl, q⟩
  cases n with
  | non =>
    cases rx
    exact SeqAt.RcAt.none_tuple pc hu2 X.prog X.w X.xe _ done
  | bl b =>
    cases rx
    exact SeqAt.RcAt.bool_tuple b pc hu2 X.prog X.w X.xe _ done
  | int i =>
    obtain ⟨t, rfl⟩ := rx
    exact SeqAt.RcAt.int_tuple i t pc hu2 X.prog X.w X.xe _ done
  | str z =>
    obtain ⟨t, rfl⟩ := rx
    exact SeqAt.RcAt.str_tuple z t pc hu2 X.prog X.w X.xe _ done
  | @tup a xs h =>
    cases rx
    obtain ⟨its, r1, p1, _⟩ := I.tuple h
    have m := SeqAt.RcAt.tuples (A := X.A) (s := s) (e := fun _ => true) p1 pc hu2 (fun j h1 h2 => absurd h2 (by simp))
    have e1 : ((List.range (min its.toArray.size (#[] : Array Value).size)).all (fun _ => true) && its.toArray.size == (#[] : Array Value).size) = xs.isEmpty := by
      rw [← empty_arr (α := Unit) r1]
      simp
    rw [show ([] : List Value).toArray = #[] from rfl, e1] at m
    exact m X.prog X.w X.xe _ done
  | @lst a xs h =>
    cases rx
    obtain ⟨its, r1, p1, _⟩ := I.list h
    exact SeqAt.RcAt.list_tuple p1.isList pc hu2 X.prog X.w X.xe _ done
  | @dct a kvs h =>
    cases rx
    obtain ⟨dd, es, ep, sl, g⟩ := dict_dk I.hok h
    exact SeqAt.RcAt.dict_tuple g pc hu2 X.prog X.w X.xe _ done
  | @exc a t C q' h =>
    cases rx
    obtain ⟨o, vs, i, _⟩ := inst_exn I.hok h
    exact HX.rcAt_tup hu2 I.kIn i q'.m q'.e q'.t pc X.prog X.w X.xe _ done
/-- x == an integer -/
def rEqI (K : PySem.W.Frag) : R2 := fun x y H Q => ∃ i e, y = .int i ∧ Ni K H i x e ∧ Q (.bl e) H
theorem op_eqI (hu : X.A.units + 64 < cLine) : OpR X (compareOp .Eq) (rEqI X.K) := by
  intro pins s σ H x y v u Q I rx ry h
  obtain ⟨i, e, rfl, n, q⟩ := h
  obtain ⟨ty, rfl⟩ := ry
  have hu2 : X.A.units < cLine := by omega
  have done : EP X pins σ Q (.bool e) s := ⟨.bl e, H, I, rfl, q⟩
  cases n with
  | non =>
    cases rx
    exact SeqAt.RcAt.none_int i ty X.prog X.w X.xe _ done
  | bl b =>
    cases rx
    exact SeqAt.RcAt.bool_int b i ty X.prog X.w X.xe _ done
  | int j =>
    obtain ⟨t, rfl⟩ := rx
    exact SeqAt.RcAt.int_int j t i ty X.prog X.w X.xe _ done
  | str z =>
    obtain ⟨t, rfl⟩ := rx
    exact SeqAt.RcAt.str_int z t i ty X.prog X.w X.xe _ done
  | @tup a xs h =>
    cases rx
    obtain ⟨its, r1, p1, _⟩ := I.tuple h
    exact SeqAt.RcAt.tuple_int i ty p1 hu2 X.prog X.w X.xe _ done
  | @lst a xs h =>
    cases rx
    obtain ⟨its, r1, p1, _⟩ := I.list h
    exact SeqAt.RcAt.list_int i ty p1.isList hu2 X.prog X.w X.xe _ done
  | @dct a kvs h =>
    cases rx
    obtain ⟨dd, es, ep, sl, g⟩ := dict_dk I.hok h
    exact SeqAt.RcAt.dict_int i ty g hu2 X.prog X.w X.xe _ done
  | @exc a t C q' h =>
    cases rx
    obtain ⟨o, vs, i', hd⟩ := inst_exn I.hok h
    exact HX.rcAt_int i ty hu2 I.kIn i' q'.m q'.e hd X.prog X.w X.xe _ done
end
end Hs
namespace Hs
open PySem PySem.Spec PyProof.Rows L2 Hu Evl
/-! ### a tuple against empty ones -/
inductive NcL (K : PySem.W.Frag) (H : Hp) : List V → List Bool → Prop
  | nil : NcL K H [] []
  | cons {x : V} {e : Bool} {xs : List V} {es : List Bool} : Nc K H x e → NcL K H xs es → NcL K H (x :: xs) (e :: es)
theorem NcL.len {K : PySem.W.Frag} {H : Hp} {xs : List V} {es : List Bool} (h : NcL K H xs es) : xs.length = es.length := by
  induction h with
  | nil => rfl
  | cons _ _ ih => rw [List.length_cons, List.length_cons, ih]
theorem NcL.at {K : PySem.W.Frag} {H : Hp} {xs : List V} {es : List Bool} (h : NcL K H xs es) : ∀ (j : Nat) (x : V), xs[j]? = some x → Nc K H x (es.getD j true) := by
  induction h with
  | nil => exact fun j x e => by simp at e
  | cons h1 _ ih =>
    refine fun j x e => ?_
    cases j with
    | zero =>
      cases e
      exact h1
    | succ j => exact ih j x e
theorem range_all : ∀ es : List Bool, (List.range es.length).all (fun j => es.getD j true) = es.all id
  | [] => rfl
  | e :: es => by
    rw [List.length_cons, List.range_succ_eq_map, List.all_cons, List.all_map, List.all_cons, ← range_all es]
    rfl
section
variable {X : Cx}
theorem valsGet {xs : List V} {us : List Value} (h : Vals xs us) (j : Nat) (hj : j < us.length) : ∃ x, xs[j]? = some x ∧ RelV x us[j] := by
  induction h generalizing j with
  | nil => exact absurd hj (Nat.not_lt_zero _)
  | cons h1 h2 ih =>
    cases j with
    | zero => exact ⟨_, rfl, h1⟩
    | succ j => exact ih j (Nat.lt_of_succ_lt_succ hj)
/-- x == ((), .., ()) -/
def rEqNs (K : PySem.W.Frag) : R2 := fun x y H Q => ∃ (a b : Addr) (xs : List V) (cs : List Addr) (es : List Bool), x = .ref a ∧ y = .ref b ∧ SqT K H a xs ∧ SqT K H b (cs.map V.ref) ∧ (∀ c ∈ cs, SqT K H c []) ∧ cs.length = xs.length ∧ NcL K H xs es ∧ Q (.bl (es.all id)) H
theorem op_eqNs (hu : X.A.units + 64 < cLine) : OpR X (compareOp .Eq) (rEqNs X.K) := by
  intro pins s σ H x y v u Q I rx ry h
  obtain ⟨a, b, xs, cs, es, rfl, rfl, ha, hb, hc, hl, n, q⟩ := h
  cases rx
  cases ry
  obtain ⟨its, r1, p1, _⟩ := I.tuple ha
  obtain ⟨its2, r2, p2, _⟩ := I.tuple hb
  have l1 := r1.length
  have l2 := r2.length
  rw [List.length_map] at l2
  have m := SeqAt.RcAt.tuples (A := X.A) (s := s) (e := fun j => es.getD j true) p1 p2 (by omega) (fun j h1 h2 => by
    have g1 : its.toArray[j] = its[j]'(by simpa using h1) := by simp
    have g2 : its2.toArray[j] = its2[j]'(by simpa using h2) := by simp
    rw [g1, g2]
    obtain ⟨x, e1, rx⟩ := valsGet r1 j (by simpa using h1)
    obtain ⟨y, e2, ry⟩ := valsGet r2 j (by simpa using h2)
    rw [List.getElem?_map] at e2
    cases e3 : cs[j]? with
    | none =>
      rw [e3] at e2
      cases e2
    | some c =>
      rw [e3] at e2
      have e4 : V.ref c = y := Option.some.inj e2
      subst e4
      have e5 : its2[j]'(by simpa using h2) = Value.ref c := ry
      rw [e5]
      exact (n.at j x e1).rc (A := X.A.in1) I rx (hc c (List.mem_of_getElem? e3)) (show X.A.units + 1 < cLine by omega))
  have e1 : ((List.range (min its.toArray.size its2.toArray.size)).all (fun j => es.getD j true) && its.toArray.size == its2.toArray.size) = es.all id := by
    have z1 : its.toArray.size = es.length := by rw [List.size_toArray, ← l1, n.len]
    have z2 : its2.toArray.size = es.length := by rw [List.size_toArray, ← l2, hl, n.len]
    rw [z1, z2, Nat.min_self, range_all]
    simp
  rw [e1] at m
  exact m X.prog X.w X.xe (EP X pins σ Q) ⟨.bl _, H, I, rfl, q⟩
end
/-! ### is_ascending -/
section
variable {K : PySem.W.Frag} {σ : L2.St} {H : Hp} {t te : TE}
theorem el_rngM {ta : TA} {te : TE} {j : Nat} {vs : List Nat} {n : Int} (v : Nat → V) (h : EvA ta σ H [.int n]) (hn : -1 ≤ n ∧ n ≤ 40000) (hw : ∀ x, wipe ((wipe σ vs).set j (some x)) vs = wipe σ vs)
    (he : ∀ (i : Nat), (i : Int) < n → Ev te ((wipe σ vs).set j (some (.int (i : Int)))) H (v i)) :
    EvL (tLc (iRng1 ta) (gName j) tYes te vs) σ H ((List.range n.toNat).map v) := fun H0 e Q q => h H0 e _ fun H1 e1 => ⟨n, rfl, by omega, by omega, fun Dl hD =>
  lc_range (lo := 0) (n := n.toNat) (Cw H1 (fun _ => true) v Dl) ⟨hD, Ex.new hD, upd_same⟩ (fun i H' hi p => by
    have e0 : (0 : Int) + (i : Int) = (i : Int) := Int.zero_add _
    show wipe ((wipe σ vs).set j (some (.int ((0 : Int) + (i : Int))))) vs = wipe σ vs ∧ tYes ((wipe σ vs).set j (some (.int ((0 : Int) + (i : Int))))) H' fun b H3 => if b = true then te ((wipe σ vs).set j (some (.int ((0 : Int) + (i : Int))))) H3 fun y H4 => ∃ acc, H4 Dl = some (.lst acc) ∧ acc.length < sizeLine ∧ Cw H1 (fun _ => true) v Dl (i + 1) (upd H4 Dl (.lst (acc ++ [y]))) else Cw H1 (fun _ => true) v Dl (i + 1) H3
    rw [e0]
    exact ⟨hw _, cw_turn p (by omega) et_yes (fun _ => (he i (by omega)).mono (e.trans e1))⟩) (fun H' p => q Dl H' (fresh_back e1 p.1) (e1.trans p.2.1) (by rw [← given_all]; exact p.2.2))⟩
end
def ascN (n : Nat) (lt : Nat → Bool) : Bool := (List.range (n - 1)).all lt
/-- is_ascending: ri how an item is taken, r how two compare -/
def spAscG (K : PySem.W.Frag) (ri r : R2) : Sp := fun vs H Q _ => ∃ (a : Addr) (xs : List V) (lt : Nat → Bool), vs = [.ref a] ∧ (SqL K H a xs ∨ SqT K H a xs) ∧ xs.length ≤ 40000 ∧
  (∀ (k : Nat) x, xs[k]? = some x → RV ri (.ref a) (.int (k : Int)) H x) ∧ (∀ (k : Nat) x y, xs[k]? = some x → xs[k + 1]? = some y → RV r x y H (.bl (lt k))) ∧ ∀ H', Same H H' → Q (.bl (ascN xs.length lt)) H'
section
variable {P : Program} {wd : World} {K : PySem.W.Frag} {mg : Str → Option Value} {base : Heap} {C : Addr}
theorem sq_ex {H H' : Hp} {a : Addr} {xs : List V} (e : Ex H H') (h : SqL K H a xs ∨ SqT K H a xs) : SqL K H' a xs ∨ SqT K H' a xs := h.elim (fun h => .inl (ex_l e h)) (fun h => .inr (ex_t e h))
theorem ascG_reads {σ : L2.St} {H : Hp} {a : Addr} {xs : List V} {lt : Nat → Bool} {ri r : R2} (h0 : σ = [some (.ref a), none]) (ha : SqL K H a xs ∨ SqT K H a xs) (hz : xs.length ≤ 40000)
    (hi : ∀ (k : Nat) x, xs[k]? = some x → RV ri (.ref a) (.int (k : Int)) H x) (hr : ∀ (k : Nat) x y, xs[k]? = some x → xs[k + 1]? = some y → RV r x y H (.bl (lt k))) :
    Ev (tCB (rAll K) (tCons (tLc (iRng1 (tCons (tOp (rI0 fun i j => .int (i - j)) (tCB (rLenQ K) (tCons (tVar 0) tNil)) (tC (.int 1))) tNil)) (gName 1) tYes (tOp r (tOp ri (tVar 0) (tVar 1)) (tOp ri (tVar 0) (tOp (rI0 fun i j => .int (i + j)) (tVar 1) (tC (.int 1))))) [1]) tNil)) σ H (.bl (ascN xs.length lt)) := by
  subst h0
  have main : EvL (tLc (iRng1 (tCons (tOp (rI0 fun i j => .int (i - j)) (tCB (rLenQ K) (tCons (tVar 0) tNil)) (tC (.int 1))) tNil)) (gName 1) tYes (tOp r (tOp ri (tVar 0) (tVar 1)) (tOp ri (tVar 0) (tOp (rI0 fun i j => .int (i + j)) (tVar 1) (tC (.int 1))))) [1]) [some (.ref a), none] H
      ((List.range ((xs.length : Int) - 1).toNat).map fun k => .bl (lt k)) :=
    el_rngM (n := (xs.length : Int) - 1) (fun k => .bl (lt k)) (ea_cons (ev_op (ev_cb (ea_cons (ev_var rfl) ea_nil) fun H1 e Q q => ⟨a, xs, rfl, sq_ex e ha, q H1 (Ex.refl H1)⟩) ev_c rv_I0) ea_nil) (by omega) (fun _ => rfl) (fun i hi' => by
      have h1 : i + 1 < xs.length := by omega
      exact ev_op (ev_op (ev_var rfl) (ev_var rfl) (hi i _ (List.getElem?_eq_getElem (by omega)))) (ev_op (ev_var rfl) (ev_op (z := .int ((i + 1 : Nat) : Int)) (ev_var rfl) ev_c rv_I0) (hi (i + 1) _ (List.getElem?_eq_getElem h1))) (hr i _ _ (List.getElem?_eq_getElem (by omega)) (List.getElem?_eq_getElem h1)))
  refine ev_cb1 main fun p H2 h2 e2 Q q => ⟨p, (List.range (xs.length - 1)).map lt, rfl, sq_of ?_, ?_⟩
  · rw [h2, show ((xs.length : Int) - 1).toNat = xs.length - 1 from by omega, List.map_map]
    rfl
  · have e : ((List.range (xs.length - 1)).map lt).all id = ascN xs.length lt := by
      rw [List.all_map]
      rfl
    rw [e]
    exact q H2 (Ex.refl H2)
theorem ok_ascG {ri r : R2} {f : Addr} {fd : FuncData} (F : Fun K "is_ascending" "is_ascending" sAscending f fd) (B : Bt mg) (hix : ∀ X : Cx, X.K = K → IxR X ri) (hop : ∀ X : Cx, X.K = K → X.A.units + 64 < cLine → OpR X (compareOp .Lt) r) :
    FnOk P wd K mg base CX0 1 f fd ["things"] (spAscG K ri r) := by
  refine F.ok scAsc (fun vs H Q E h => ?_) (fun cdv A outer s H vs Q E hr h => ?_)
  · obtain ⟨n, m, _, rfl, _⟩ := h
    rfl
  · obtain ⟨a, xs, lt, rfl, ha, hz, hi, hl, k⟩ := h
    refine ⟨_, pss_one (ps_ret (pe_callB (cr_all rfl) (by rfl) B.all boot_all' (pa_cons (pe_lc (own := [("k", 1)]) (g := gName 1) (tt := tYes) rfl scAsc.nd (pi_range1 (by rfl) B.range (pa_cons (pe_op op_sub (pe_callB call_len_seq (by rfl) B.len PySem.boot_len (pa_cons (pv 0) pa_nil)) pe_int) pa_nil)) (blkOk_by (N := ["things", "k"]) (sc := defScope sAscending) (by decide +kernel))
      (fun _ _ _ _ _ => pg_name (i := 1) scAsc.nd rfl (Or.inl rfl)) (fun _ _ _ _ _ => pts_nil) (fun _ _ _ _ _ => pe_cmpR (hop _ rfl (room_hu hr)) (pe_ix (hix _ rfl) (pv 0) (pv 1) (fun _ _ => rfl)) (pe_ix (hix _ rfl) (pv 0) (pe_op op_add (pv 1) pe_int) (fun _ _ => rfl)) (nomark _))) pa_nil))), ?_⟩
    exact s_ret (ascG_reads rfl ha hz hi hl) k
end
end Hs
namespace Hs
open PySem PySem.Spec PyProof.Rows L2 Hu Evl
abbrev sCount : Stmt := topS 12
abbrev sTO : Stmt := topS 27
abbrev sAhead : Stmt := topS 28
abbrev sVote : Stmt := topS 29
abbrev sHeads : Stmt := topS 30
abbrev sNamed : Stmt := topS 31
abbrev sBlocks : Stmt := topS 32
abbrev sBlk : Stmt := topS 33
/-! ### judges of some values -/
def spJw (C : Addr) (S : U → Prop) (g : U → Bool) : Sp := fun vs H Q _ => ∃ (v : V) (u : U) (w : Addr), vs = [v] ∧ At w C H v u ∧ Fine u ∧ S u ∧ (∃ o, H w = some o) ∧ ∀ H', Same H H' → Q (.bl (g u)) H'
structure Jw (P : Program) (w : World) (K : PySem.W.Frag) (mg : Str → Option Value) (base : Heap) (C : Addr) (k : Nat) (x : Str) (p : Str) (f : Addr) (fd : FuncData) (S : U → Prop) (g : U → Bool) : Prop where
  ok : FnOk P w K mg base CX0 k f fd [p] (spJw C S g)
  g : mg x = some (.ref f)
  kp : PySem.W.keepIn K (.ref f) = true
  b : Binds K fd [p] []
theorem lenJw {C : Addr} {S : U → Prop} {g : U → Bool} {p : Str} : ∀ vs H Q E, spJw C S g vs H Q E → vs.length = [p].length := fun vs H Q E h => by
  obtain ⟨v, u, w, rfl, _⟩ := h
  rfl
theorem ev_Jw {C : Addr} {S : U → Prop} {g : U → Bool} {H : Hp} {v : V} {u : U} {w : Addr} {σ : L2.St} {te : TE} {E : XK} (h : Evl.Ev te σ H v) (hat : At w C H v u) (fi : Fine u) (hs : S u) (hw : ∃ o, H w = some o) : Evl.Ev (tCall (spJw C S g) [] E (tCons te tNil)) σ H (.bl (g u)) :=
  Evl.ev_call (Evl.ea_cons h Evl.ea_nil) fun H1 e Q q E => ⟨v, u, w, rfl, ex_at e hat, fi, hs, hw.imp fun o z => e _ _ z, q⟩
section
variable {X : Cx} {C : Addr} {CX : CXT} {E : XK}
theorem pe_Jw {x p : Str} {k j : Nat} {f : Addr} {fd : FuncData} {S : U → Prop} {g : U → Bool} {e : Expr} {te : TE} {ps pos : Pos} (J : Jw X.prog X.w X.K X.mg X.base C k x p f fd S g) (hr : Room j X.A) (h : k ≤ j) (hg : Gl X x) (hx : Passes CX0 X E) (he : PE X e te) (hdb : (x == ("__debug__" : Str)) = false := by decide)
    (hst : starEach [e] X.env = (false, eval e X.env) :: starEach [] X.env := by rfl) (hpl : (backTo pos (starEach [] X.env)).any (·.1) = false := by rfl) :
    PE X (.Call (.Name x ps) [e] [] pos) (tCall (spJw C S g) [] E (tCons te tNil)) :=
  pe_call J.ok (hr.mono h) hg J.g J.kp J.b .nil hx (pa_cons he pa_nil hst) hdb hst hpl
end
def nilU (u : U) : Bool := match u with | .tup us => us.isEmpty | _ => false
abbrev okN (_ : U) : Prop := True
theorem nc_at {K : PySem.W.Frag} {w C : Addr} {H : Hp} {v : V} {u : U} (hx : Eqx K C) (h : At w C H v u) : Nc K H v (nilU u) := by
  cases h with
  | non => exact .non
  | bl b => exact .bl b
  | int i => exact .int i
  | str z => exact .str z
  | @tup a xs us ha _ hl =>
    have : us.isEmpty = xs.isEmpty := by cases hl <;> rfl
    show Nc K H (.ref a) us.isEmpty
    rw [this]
    exact .tup (Tu.st ha)
  | lst ha _ hl => exact .lst (sq_of ha)
  | dct ha _ _ _ _ => exact .dct ha
  | exc ha _ _ _ => exact .exc hx ha
/-- an integer by == -/
def isI (i : Int) (u : U) : Bool := match u with | .bl b => (if b then 1 else 0) == i | .int j => j == i | _ => false
theorem ni_at {K : PySem.W.Frag} {w C : Addr} {H : Hp} {v : V} {u : U} (i : Int) (hx : Eqx K C) (h : At w C H v u) : Ni K H i v (isI i u) := by
  cases h with
  | non => exact .non
  | bl b => exact .bl b
  | int i => exact .int i
  | str z => exact .str z
  | tup ha _ hl => exact .tup (Tu.st ha)
  | lst ha _ hl => exact .lst (sq_of ha)
  | dct ha _ _ _ _ => exact .dct ha
  | exc ha _ _ _ => exact .exc hx ha
theorem Ni.ex {K : PySem.W.Frag} {H H' : Hp} {i : Int} {v : V} {e : Bool} (x : Ex H H') (h : Ni K H i v e) : Ni K H' i v e := by
  cases h with
  | non => exact .non
  | bl b => exact .bl b
  | int i => exact .int i
  | str z => exact .str z
  | tup h => exact .tup (ex_t x h)
  | lst h => exact .lst (ex_l x h)
  | dct h => exact .dct (x _ _ h)
  | exc q h => exact .exc q (x _ _ h)
theorem rv_eqI {K : PySem.W.Frag} {H : Hp} {i : Int} {v : V} {e : Bool} (h : Ni K H i v e) : RV (rEqI K) v (.int i) H (.bl e) := fun H1 x Q q => ⟨i, e, rfl, h.ex x, q H1 (Ex.refl H1)⟩
theorem Nc.ex {K : PySem.W.Frag} {H H' : Hp} {v : V} {e : Bool} (x : Ex H H') (h : Nc K H v e) : Nc K H' v e := by
  cases h with
  | non => exact .non
  | bl b => exact .bl b
  | int i => exact .int i
  | str z => exact .str z
  | tup h => exact .tup (ex_t x h)
  | lst h => exact .lst (ex_l x h)
  | dct h => exact .dct (x _ _ h)
  | exc q h => exact .exc q (x _ _ h)
theorem rv_eqN {K : PySem.W.Frag} {H : Hp} {v : V} {e : Bool} {c : Addr} (h : Nc K H v e) (hc : H c = some (.tup [])) : RV (rEqN K) v (.ref c) H (.bl e) := fun H1 x Q q => ⟨c, e, rfl, ex_t x (st_of hc), h.ex x, q H1 (Ex.refl H1)⟩
/-! ### lists of tuples of keys -/
inductive TkL (H : Hp) : List V → List (List L2.Key) → Prop
  | nil : TkL H [] []
  | cons {p : Addr} {ks : List L2.Key} {vs : List V} {kss : List (List L2.Key)} : H p = some (.tup (ks.map kV)) → TkL H vs kss → TkL H (.ref p :: vs) (ks :: kss)
theorem TkL.ex {H H' : Hp} {vs : List V} {kss : List (List L2.Key)} (e : Ex H H') (h : TkL H vs kss) : TkL H' vs kss := by
  induction h with
  | nil => exact .nil
  | cons h _ ih => exact .cons (e _ _ h) ih
theorem TkL.tups {H H' : Hp} {vs : List V} {kss : List (List L2.Key)} (e : ∀ b zs, H b = some (.tup zs) → H' b = some (.tup zs)) (h : TkL H vs kss) : TkL H' vs kss := by
  induction h with
  | nil => exact .nil
  | cons h _ ih => exact .cons (e _ _ h) ih
theorem TkL.len {H : Hp} {vs : List V} {kss : List (List L2.Key)} (h : TkL H vs kss) : vs.length = kss.length := by
  induction h with
  | nil => rfl
  | cons _ _ ih => rw [List.length_cons, List.length_cons, ih]
theorem TkL.snoc {H : Hp} {vs : List V} {kss : List (List L2.Key)} {p : Addr} {ks : List L2.Key} (h : TkL H vs kss) (hp : H p = some (.tup (ks.map kV))) : TkL H (vs ++ [.ref p]) (kss ++ [ks]) := by
  induction h with
  | nil => exact .cons hp .nil
  | cons h _ ih => exact .cons h ih
theorem TkL.get {H : Hp} {vs : List V} {kss : List (List L2.Key)} (h : TkL H vs kss) : ∀ {j : Nat} {v : V}, vs[j]? = some v → ∃ p ks, v = .ref p ∧ kss[j]? = some ks ∧ H p = some (.tup (ks.map kV)) := by
  induction h with
  | nil => exact fun e => by simp at e
  | cons h _ ih =>
    intro j v e
    cases j with
    | zero =>
      cases e
      exact ⟨_, _, rfl, rfl, h⟩
    | succ j => exact ih e
/-- tuples of keys in a row -/
def ascK (kss : List (List L2.Key)) : Bool := ascN kss.length fun k => Hk.ltK (kss.getD k []) (kss.getD (k + 1) [])
def kinK (kss : List (List L2.Key)) : Prop := ∀ ks ∈ kss, ∀ ls ∈ kss, Hk.kinds ks ls = true
section
variable {K : PySem.W.Frag} {σ : L2.St} {H : Hp} {tl te : TE} {xs : List V} {us : List U} {w C : Addr}
theorem ev_callL1 {sp : Sp} {E : XK} {z : V} (h : EvL te σ H xs) (hs : ∀ p H1, H1 p = some (.lst xs) → Ex H H1 → ∀ Q : VK, (∀ H2, Ex H1 H2 → Q z H2) → ∀ E, sp [.ref p] H1 Q E) : Ev (tCall sp [] E (tCons te tNil)) σ H z :=
  fun H0 e Q q => h H0 e _ fun p H1 hp e1 h1 => hs p H1 h1 (e.trans e1) Q (fun H2 e2 => q H2 (e1.trans e2)) _
/-- [f(x) for x in a tuple], each a tuple of keys -/
theorem lc_newK {a : Addr} {j : Nat} {vs : List Nat} {f : U → List L2.Key} (h : Ev tl σ H (.ref a)) (hx : Tu H a xs us) (hz : us.length ≤ 40000) (hl : AtL w C H xs us) (hw : ∀ x, wipe ((wipe σ vs).set j (some x)) vs = wipe σ vs)
    (he : ∀ (x : V) (u : U) G, u ∈ us → Ex H G → At w C G x u → ∀ Q : VK, (∀ p G', Ex G G' → G' p = some (.tup ((f u).map kV)) → Q (.ref p) G') → te ((wipe σ vs).set j (some x)) G Q) :
    ∀ H0, Ex H H0 → ∀ Q : VK, (∀ p ys H', H0 p = none → Ex H0 H' → H' p = some (.lst ys) → TkL H' ys (us.map f) → Q (.ref p) H') → tLc (iTup K tl) (gName j) tYes te vs σ H0 Q := fun H0 e Q q => h H0 e _ fun H1 e1 => ⟨a, rfl, ⟨xs, Tu.st (Tu.ex (e.trans e1) hx)⟩, fun Dl hD =>
  lc_tup (xs := xs) (fun i H' => Ex H1 H' ∧ ∃ ys, H' Dl = some (.lst ys) ∧ TkL H' ys ((us.take i).map f)) ⟨Ex.new hD, [], upd_same, .nil⟩ (fun i H' _ p => Tu.st (Tu.ex ((e.trans e1).trans p.1) hx)) (fun i x H2 hi p => by
    obtain ⟨p1, ys, p2, p3⟩ := p
    have hlen := AtL.length hl
    have hu : i < us.length := by
      have := (List.getElem?_eq_some_iff.mp hi).1
      omega
    obtain ⟨x', hx', hax⟩ := AtL.get hl (List.getElem?_eq_getElem hu)
    rw [hi] at hx'
    cases hx'
    have e2 := (e.trans e1).trans p1
    refine ⟨hw x, he x us[i] H2 (List.getElem_mem hu) e2 (ex_at e2 hax) _ fun b H3 e3 o3 => ⟨ys, e3 _ _ p2, ?_, fun q o hq => ?_, ys ++ [.ref b], upd_same, ?_⟩⟩
    · have hyl := p3.len
      rw [List.length_map, List.length_take] at hyl
      have := bit_line
      unfold bit at this
      omega
    · rw [upd_ne (ne_of_none hq hD)]
      exact e3 _ _ (p1 _ _ hq)
    · have nt : ∀ b' zs, H3 b' = some (.tup zs) → upd H3 Dl (.lst (ys ++ [.ref b])) b' = some (.tup zs) := fun b' zs hb' => by
        rw [upd_ne (fun z => by rw [z, e3 _ _ p2] at hb'; cases hb')]
        exact hb'
      have t3 := (p3.ex e3).tups nt
      rw [List.take_add_one, List.getElem?_eq_getElem hu, List.map_append]
      exact t3.snoc (nt _ _ o3)) (fun H' p => by
    obtain ⟨p1, ys, p2, p3⟩ := p
    rw [AtL.length hl, List.take_length] at p3
    exact q Dl ys H' (fresh_back e1 hD) (e1.trans p1) p2 p3)⟩
/-- [v(x) for x in a tuple], the values found -/
theorem el_mapX {us : List U} {a : Addr} {j : Nat} {vs : List Nat} (v : Nat → V) (h : Ev tl σ H (.ref a)) (hx : Tu H a xs us) (hz : xs.length ≤ 40000) (hw : ∀ x, wipe ((wipe σ vs).set j (some x)) vs = wipe σ vs)
    (he : ∀ (i : Nat) (x : V), xs[i]? = some x → Ev te ((wipe σ vs).set j (some x)) H (v i)) :
    EvL (tLc (iTup K tl) (gName j) tYes te vs) σ H ((List.range xs.length).map v) := fun H0 e Q q => h H0 e _ fun H1 e1 => ⟨a, rfl, ⟨xs, Tu.st (Tu.ex (e.trans e1) hx)⟩, fun Dl hD =>
  lc_tup (xs := xs) (Cw H1 (fun _ => true) v Dl) ⟨hD, Ex.new hD, upd_same⟩ (fun i H' _ p => Tu.st (Tu.ex ((e.trans e1).trans p.2.1) hx)) (fun i x H' hi p => ⟨hw x, cw_turn p (by have := (List.getElem?_eq_some_iff.mp hi).1; omega) et_yes (fun _ => (he i x hi).mono (e.trans e1))⟩)
    (fun H' p => q Dl H' (fresh_back e1 p.1) (e1.trans p.2.1) (by rw [← given_all]; exact p.2.2))⟩
end
/-! ### is_ascending of texts, of tuples of keys -/
abbrev rLtS : R2 := fun x y H Q => ∃ i j, x = .str i ∧ y = .str j ∧ Q (.bl (decide (i.cps.toList < j.cps.toList))) H
def e0z : Str := ⟨#[]⟩
def ascZ (zs : List Str) : Bool := ascN zs.length fun k => decide ((zs.getD k e0z).cps.toList < (zs.getD (k + 1) e0z).cps.toList)
theorem getD_some {α : Type} {xs : List α} {k : Nat} {x d : α} (h : xs[k]? = some x) : xs.getD k d = x := by
  rw [List.getD_eq_getElem?_getD, h]
  rfl
section
variable {P : Program} {wd : World} {K : PySem.W.Frag} {mg : Str → Option Value} {base : Heap} {C : Addr}
theorem asc_strL {H : Hp} {a : Addr} {zs : List Str} (ha : H a = some (.lst (zs.map V.str))) (hz : zs.length ≤ 40000) (Q : VK) (q : ∀ H2, Ex H H2 → Q (.bl (ascZ zs)) H2) (E : XK) : spAscG K (rIxL K) rLtS [.ref a] H Q E := by
  refine ⟨a, zs.map V.str, (fun k => decide ((zs.getD k e0z).cps.toList < (zs.getD (k + 1) e0z).cps.toList)), rfl, .inl (sq_of ha), (by rw [List.length_map]; exact hz), fun k x hx => rv_ixL (sq_of ha) (atI_nat hx), fun k x y hx hy => ?_, ?_⟩
  · rw [List.getElem?_map] at hx hy
    cases h1 : zs[k]? with
    | none => rw [h1] at hx; cases hx
    | some z => cases h2 : zs[k + 1]? with
      | none => rw [h2] at hy; cases hy
      | some z2 =>
        rw [h1] at hx
        rw [h2] at hy
        cases hx
        cases hy
        dsimp only
        rw [getD_some h1, getD_some h2]
        exact fun H1 e Q q => ⟨z, z2, rfl, rfl, q H1 (Ex.refl H1)⟩
  · rw [List.length_map]
    exact q
theorem asc_tkL {H : Hp} {a : Addr} {ys : List V} {kss : List (List L2.Key)} (ha : H a = some (.lst ys)) (ht : TkL H ys kss) (hk : kinK kss) (hz : kss.length ≤ 40000) (Q : VK) (q : ∀ H2, Ex H H2 → Q (.bl (ascK kss)) H2) (E : XK) : spAscG K (rIxL K) (Hk.rLtK K) [.ref a] H Q E := by
  refine ⟨a, ys, (fun k => Hk.ltK (kss.getD k []) (kss.getD (k + 1) [])), rfl, .inl (sq_of ha), (by rw [ht.len]; exact hz), fun k x hx => rv_ixL (sq_of ha) (atI_nat hx), fun k x y hx hy => ?_, ?_⟩
  · obtain ⟨p, ks, rfl, h1, hp⟩ := ht.get hx
    obtain ⟨p2, ls, rfl, h2, hp2⟩ := ht.get hy
    dsimp only
    rw [getD_some h1, getD_some h2]
    exact fun H1 e Q q => ⟨p, p2, ks, ls, rfl, rfl, st_of (e _ _ hp), st_of (e _ _ hp2), hk _ (List.mem_of_getElem? h1) _ (List.mem_of_getElem? h2), q H1 (Ex.refl H1)⟩
  · rw [ht.len]
    exact q
theorem ok_ascZ {f : Addr} {fd : FuncData} (F : Fun K "is_ascending" "is_ascending" sAscending f fd) (B : Bt mg) : FnOk P wd K mg base CX0 1 f fd ["things"] (spAscG K (rIxL K) rLtS) :=
  ok_ascG F B (fun X e => e ▸ ix_list) (fun X e _ => op_lt_str)
theorem ok_ascK {f : Addr} {fd : FuncData} (F : Fun K "is_ascending" "is_ascending" sAscending f fd) (B : Bt mg) : FnOk P wd K mg base CX0 1 f fd ["things"] (spAscG K (rIxL K) (Hk.rLtK K)) :=
  ok_ascG F B (fun X e => e ▸ ix_list) (fun X e h => e ▸ Hk.op_ltK (by omega))
end
end Hs
namespace Hs
open PySem PySem.Spec PyProof.Rows L2 Hu Evl
/-! ### heads, blocks, votes -/
def gCnt (u : U) : Bool := iv u fun i => decide (0 ≤ i)
def gTO (m : Nat) (u : U) : Bool := tv u fun us => decide (us.length = m)
def gAhead (u : U) : Bool := nilU u || gMembers u
def gVote (u : U) : Bool := isNon u || tv u fun us => two us fun a b => gStamp a && gMembers b
def nth (u : U) (k : Nat) : U := match u with | .tup us => us.getD k .non | _ => .non
def gNamed (u : U) : Bool := gTO 3 u && (gNam (nth u 0) && (gStamp (nth u 1) && gRow (nth u 2)))
def strU (u : U) : Str := match u with | .str z => z | _ => e0z
def gHeads (u : U) : Bool := tv u fun us => us.all gNamed && ascZ (us.map fun u => strU (nth u 0))
def gBlk (u : U) : Bool := gPair u && (gId (nth u 0) && gPiece (nth u 1))
def keyU (u : U) : L2.Key := match u with | .str z => .inr z | .int i => .inl i | _ => .inl 0
def keysU (u : U) : List L2.Key := match u with | .tup us => us.map keyU | _ => []
def gBlocks (u : U) : Bool := tv u fun us => us.all gBlk && ascK (us.map fun u => keysU (nth u 0))
/-- small enough for its rows to be looked through -/
def Sm (u : U) : Prop := wt u ≤ 160000
theorem wt_two (u : U) : 2 ≤ wt u := by
  cases u <;> simp only [wt] <;> omega
theorem wt_len4 : ∀ us : List U, 4 * us.length ≤ wtL us
  | [] => Nat.zero_le _
  | u :: us => by have := wt_len4 us; have := wt_two u; simp only [wtL, List.length_cons]; omega
theorem Sm.len {us : List U} (h : Sm (.tup us)) : us.length ≤ 40000 := by
  have := wt_len4 us
  unfold Sm at h
  simp only [wt] at h
  omega
section
variable {P : Program} {wd : World} {K : PySem.W.Frag} {mg : Str → Option Value} {base : Heap} {C : Addr}
theorem scCnt : FnScope ["thing"] ["thing"] (defScope sCount) := ⟨rfl, rfl, rfl, by decide +kernel, rfl, by decide +kernel, by decide +kernel⟩
theorem jd_cnt {f fI : Addr} {fd fdI : FuncData} (D : Df K mg "is_count" sCount ["thing"] f fd) (S : Bs K mg C) (J : Jd P wd K mg base C 1 "is_integer" "thing" fI fdI gInt) : Jd P wd K mg base C 2 "is_count" "thing" f fd gCnt := by
  refine ⟨D.F.ok scCnt lenJ (fun cdv A outer s H vs Q E hr h => ?_), D.g, D.F.kp, D.b⟩
  obtain ⟨v, u, w, rfl, hat, fi, k⟩ := h
  refine ⟨_, pss_one (ps_ret (pe_and (pe_J J hr (by decide) (by rfl) pass0 (pv 0)) (pe_one (pe_cmpR op_ge (pv 0) pe_int (nomark _))))), ?_⟩
  refine s_ret (ev_andV (b := gCnt u) (ev_J (ev_var rfl) hat fi) fun q => ?_) fun H1 e => ?_
  · obtain ⟨i, rfl⟩ := gInt_int q
    cases at_int hat
    exact ev_op (ev_var rfl) ev_c rv_I0
  · unfold gCnt
    rw [iv_and]
    exact k H1 e
/-! is_tuple_of -/
theorem scTO : FnScope ["many", "thing"] ["many", "thing"] (defScope sTO) := ⟨rfl, rfl, rfl, by decide +kernel, rfl, by decide +kernel, by decide +kernel⟩
def spTO (C : Addr) : Sp := fun vs H Q _ => ∃ (m : Nat) (v : V) (u : U) (w : Addr), vs = [.int (m : Int), v] ∧ At w C H v u ∧ ∀ H', Same H H' → Q (.bl (gTO m u)) H'
theorem ok_TO {f : Addr} {fd : FuncData} (D : Df K mg "is_tuple_of" sTO ["many", "thing"] f fd) (S : Bs K mg C) : FnOk P wd K mg base CX0 1 f fd ["many", "thing"] (spTO C) := by
  refine D.F.ok scTO (fun vs H Q E h => ?_) (fun cdv A outer s H vs Q E hr h => ?_)
  · obtain ⟨m, v, u, w, rfl, _⟩ := h
    rfl
  · obtain ⟨m, v, u, w, rfl, hat, k⟩ := h
    refine ⟨_, pss_one (ps_ret (pe_and (pe_isiX S (by rfl) (by rfl) S.B.tup boot_tuple' (by decide) (pv 1) (by decide) (by decide)) (pe_one (pe_cmpR op_eq (pe_callB call_len_seq (by rfl) S.B.len PySem.boot_len (pa_cons (pv 1) pa_nil)) (pv 0) (nomark _))))), ?_⟩
    refine s_ret (ev_andV (b := gTO m u) (ev_isi (ev_var rfl) hat) fun q => ?_) fun H1 e => ?_
    · obtain ⟨us, rfl⟩ := isT_tup q
      obtain ⟨a, xs, rfl, ha, _, hl⟩ := at_tup hat
      have := ev_op (r := rEq) (σ := [some (V.int (m : Int)), some (V.ref a)]) (ev_lenT (K := K) (te := tVar 1) (ev_var rfl) ha) (ev_var (i := 0) rfl) (rv_eq rfl)
      rw [dec_eq, AtL.length hl] at this
      exact this
    · unfold gTO
      rw [tv_and]
      exact k H1 e
structure JTO (P : Program) (wd : World) (K : PySem.W.Frag) (mg : Str → Option Value) (base : Heap) (C : Addr) (f : Addr) (fd : FuncData) : Prop where
  D : Df K mg "is_tuple_of" sTO ["many", "thing"] f fd
  ok : FnOk P wd K mg base CX0 1 f fd ["many", "thing"] (spTO C)
theorem ev_TO {σ : L2.St} {H : Hp} {tm te : TE} {E : XK} {m : Nat} {v : V} {u : U} {w : Addr} (hm : Ev tm σ H (.int (m : Int))) (h : Ev te σ H v) (hat : At w C H v u) : Ev (tCall (spTO C) [] E (tCons tm (tCons te tNil))) σ H (.bl (gTO m u)) :=
  ev_call (ea_cons hm (ea_cons h ea_nil)) fun H1 e Q q E => ⟨m, v, u, w, rfl, ex_at e hat, q⟩
theorem gTO_of {m : Nat} {u : U} (h : gTO m u = true) : ∃ us, u = .tup us ∧ us.length = m := by
  cases u with
  | tup us => exact ⟨us, rfl, of_decide_eq_true h⟩
  | _ => cases h
theorem atl_get {w : Addr} {H : Hp} {xs : List V} {us : List U} (h : AtL w C H xs us) {k : Nat} (hk : k < us.length) : ∃ x, xs[k]? = some x ∧ At w C H x (us.getD k .non) := by
  obtain ⟨x, hx, ha⟩ := AtL.get h (List.getElem?_eq_getElem hk)
  refine ⟨x, hx, ?_⟩
  rw [getD_some (List.getElem?_eq_getElem hk)]
  exact ha
/-- an item of a tuple, with its data -/
theorem ev_nth {σ : L2.St} {H : Hp} {te : TE} {v : V} {u : U} {w : Addr} {m k : Nat} (h : Ev te σ H v) (hat : At w C H v u) (hm : gTO m u = true) (hk : k < m) : ∃ x, Ev (tOp (rIxT K) te (tC (.int (k : Int)))) σ H x ∧ At w C H x (nth u k) := by
  obtain ⟨us, rfl, rfl⟩ := gTO_of hm
  obtain ⟨a, xs, rfl, ha, _, hl⟩ := at_tup hat
  obtain ⟨x, hx, hax⟩ := atl_get hl hk
  exact ⟨x, ev_ixT h ha hx, hax⟩
theorem fine_nth {m k : Nat} {u : U} (hm : gTO m u = true) (hk : k < m) (fi : Fine u) : Fine (nth u k) := by
  obtain ⟨us, rfl, rfl⟩ := gTO_of hm
  show Fine (us.getD k .non)
  rw [getD_some (List.getElem?_eq_getElem hk)]
  exact fi.tup _ (List.getElem_mem hk)
/-! is_ahead -/
theorem scAhead : FnScope ["thing"] ["thing"] (defScope sAhead) := ⟨rfl, rfl, rfl, by decide +kernel, rfl, by decide +kernel, by decide +kernel⟩
theorem jw_ahead {f f1 : Addr} {fd d1 : FuncData} (D : Df K mg "is_ahead" sAhead ["thing"] f fd) (S : Bs K mg C) (J : Jd P wd K mg base C 4 "is_members" "thing" f1 d1 gMembers) : Jw P wd K mg base C 5 "is_ahead" "thing" f fd okN gAhead := by
  refine ⟨D.F.ok scAhead lenJw (fun cdv A outer s H vs Q E hr h => ?_), D.g, D.F.kp, D.b⟩
  obtain ⟨v, u, w, rfl, hat, fi, hs, hw, k⟩ := h
  refine ⟨_, pss_one (ps_ret (pe_or (pe_cmpR (op_eqN (room_hu hr)) (pv 0) (pe_tup pa_nil) (nomark _)) (pe_one (pe_J J hr (by decide) (by rfl) pass0 (pv 0))))), ?_⟩
  exact s_ret (ev_orV (ev_opU (ev_var rfl) (eu_tup ea_nil (by decide)) fun q H1 hq e1 => rv_eqN ((nc_at S.q hat).ex e1) hq) fun _ => ev_J (ev_var rfl) hat fi) fun H1 e => k H1 e
/-! is_vote -/
theorem scVote : FnScope ["thing"] ["thing"] (defScope sVote) := ⟨rfl, rfl, rfl, by decide +kernel, rfl, by decide +kernel, by decide +kernel⟩
theorem jd_vote {f f1 f2 f3 : Addr} {fd d1 d2 d3 : FuncData} (D : Df K mg "is_vote" sVote ["thing"] f fd) (S : Bs K mg C) (JP : Jd P wd K mg base C 1 "is_pair" "thing" f1 d1 gPair) (JS : Jd P wd K mg base C 3 "is_stamp" "thing" f2 d2 gStamp)
    (JM : Jd P wd K mg base C 4 "is_members" "thing" f3 d3 gMembers) : Jd P wd K mg base C 5 "is_vote" "thing" f fd gVote := by
  refine ⟨D.F.ok scVote lenJ (fun cdv A outer s H vs Q E hr h => ?_), D.g, D.F.kp, D.b⟩
  obtain ⟨v, u, w, rfl, hat, fi, k⟩ := h
  refine ⟨_, pss_one (ps_ret (pe_or (pe_cmpR op_isN1 (pv 0) pe_non (nomark _)) (pe_one (pe_and (pe_J JP hr (by decide) (by rfl) pass0 (pv 0)) (pe_and (pe_J JS hr (by decide) (by rfl) pass0 (pe_ix ix_tup (pv 0) pe_int (fun _ _ => rfl))) (pe_one (pe_J JM hr (by decide) (by rfl) pass0 (pe_ix ix_tup (pv 0) pe_int (fun _ _ => rfl))))))))), ?_⟩
  refine s_ret (ev_orV (a := isNon u) (ev_is (ev_isN (ev_var rfl)) (by rw [at_non hat])) fun _ => ev_andV (b := tv u fun us => two us fun a b => gStamp a && gMembers b) (ev_J (ev_var rfl) hat fi) fun q => ?_) fun H1 e => ?_
  · obtain ⟨a, b, rfl⟩ := gPair_two q
    obtain ⟨p, x, y, rfl, hp, ha, hb⟩ := pair_at hat
    exact ev_andV (ev_J (ev_ixT (j := 0) (ev_var rfl) hp rfl) ha fi.fst) fun _ => ev_J (ev_ixT (j := 1) (ev_var rfl) hp rfl) hb fi.snd
  · rw [pair_and]
    exact k H1 e
/-! _is_named_head -/
theorem scNamed : FnScope ["thing"] ["thing"] (defScope sNamed) := ⟨rfl, rfl, rfl, by decide +kernel, rfl, by decide +kernel, by decide +kernel⟩
theorem jd_named {f f1 f2 f3 f4 : Addr} {fd d1 d2 d3 d4 : FuncData} (D : Df K mg "_is_named_head" sNamed ["thing"] f fd) (S : Bs K mg C) (JT : JTO P wd K mg base C f1 d1) (JN : Jd P wd K mg base C 2 "is_name" "thing" f2 d2 gNam)
    (JS : Jd P wd K mg base C 3 "is_stamp" "thing" f3 d3 gStamp) (JR : Jd P wd K mg base C 4 "is_row" "thing" f4 d4 gRow) : Jd P wd K mg base C 5 "_is_named_head" "thing" f fd gNamed := by
  refine ⟨D.F.ok scNamed lenJ (fun cdv A outer s H vs Q E hr h => ?_), D.g, D.F.kp, D.b⟩
  obtain ⟨v, u, w, rfl, hat, fi, k⟩ := h
  refine ⟨_, pss_one (ps_ret (pe_and (pe_call JT.ok (hr.mono (by decide)) (by rfl) JT.D.g JT.D.F.kp JT.D.b .nil pass0 (pa_cons pe_int (pa_cons (pv 0) pa_nil))) (pe_and (pe_J JN hr (by decide) (by rfl) pass0 (pe_ix ix_tup (pv 0) pe_int (fun _ _ => rfl)))
    (pe_and (pe_J JS hr (by decide) (by rfl) pass0 (pe_ix ix_tup (pv 0) pe_int (fun _ _ => rfl))) (pe_one (pe_J JR hr (by decide) (by rfl) pass0 (pe_ix ix_tup (pv 0) pe_int (fun _ _ => rfl)))))))), ?_⟩
  refine s_ret (ev_andV (a := gTO 3 u) (ev_TO (m := 3) ev_c (ev_var rfl) hat) fun q => ?_) fun H1 e => k H1 e
  obtain ⟨x0, e0, h0⟩ := ev_nth (K := K) (σ := [some v]) (te := tVar 0) (k := 0) (ev_var rfl) hat q (by decide)
  obtain ⟨x1, e1, h1⟩ := ev_nth (K := K) (σ := [some v]) (te := tVar 0) (k := 1) (ev_var rfl) hat q (by decide)
  obtain ⟨x2, e2, h2⟩ := ev_nth (K := K) (σ := [some v]) (te := tVar 0) (k := 2) (ev_var rfl) hat q (by decide)
  exact ev_andV (ev_J e0 h0 (fine_nth q (by decide) fi)) fun _ => ev_andV (ev_J e1 h1 (fine_nth q (by decide) fi)) fun _ => ev_J e2 h2 (fine_nth q (by decide) fi)
/-! _is_block -/
theorem scBlk : FnScope ["thing"] ["thing"] (defScope sBlk) := ⟨rfl, rfl, rfl, by decide +kernel, rfl, by decide +kernel, by decide +kernel⟩
theorem jd_blk {f f1 f2 f3 : Addr} {fd d1 d2 d3 : FuncData} (D : Df K mg "_is_block" sBlk ["thing"] f fd) (S : Bs K mg C) (JP : Jd P wd K mg base C 1 "is_pair" "thing" f1 d1 gPair) (JI : Jd P wd K mg base C 3 "is_block_id" "thing" f2 d2 gId)
    (JC : Jd P wd K mg base C 2 "is_piece" "thing" f3 d3 gPiece) : Jd P wd K mg base C 5 "_is_block" "thing" f fd gBlk := by
  refine ⟨D.F.ok scBlk lenJ (fun cdv A outer s H vs Q E hr h => ?_), D.g, D.F.kp, D.b⟩
  obtain ⟨v, u, w, rfl, hat, fi, k⟩ := h
  refine ⟨_, pss_one (ps_ret (pe_and (pe_J JP hr (by decide) (by rfl) pass0 (pv 0)) (pe_and (pe_J JI hr (by decide) (by rfl) pass0 (pe_ix ix_tup (pv 0) pe_int (fun _ _ => rfl))) (pe_one (pe_J JC hr (by decide) (by rfl) pass0 (pe_ix ix_tup (pv 0) pe_int (fun _ _ => rfl))))))), ?_⟩
  refine s_ret (ev_andV (ev_J (ev_var rfl) hat fi) fun q => ?_) fun H1 e => k H1 e
  obtain ⟨a, b, rfl⟩ := gPair_two q
  obtain ⟨p, x, y, rfl, hp, ha, hb⟩ := pair_at hat
  exact ev_andV (ev_J (ev_ixT (j := 0) (ev_var rfl) hp rfl) ha fi.fst) fun _ => ev_J (ev_ixT (j := 1) (ev_var rfl) hp rfl) hb fi.snd
end
end Hs
namespace Hs
open PySem PySem.Spec PyProof.Rows L2 Hu Evl
abbrev sTable : Stmt := topS 56
abbrev sKept : Stmt := topS 57
abbrev sLeases : Stmt := topS 58
abbrev sLease : Stmt := topS 59
def gLease (u : U) : Bool := gTO 4 u && (gNam (nth u 0) && gHand (nth u 1)) && (gCnt (nth u 2) && gCnt (nth u 3))
def keyL (u : U) : List L2.Key := [keyU (nth u 0), keyU (nth u 1)]
def gLeases (u : U) : Bool := tv u fun us => us.all gLease && ascK (us.map keyL)
theorem gNam_str {u : U} (h : gNam u = true) : ∃ z, u = .str z := by
  cases u with
  | str z => exact ⟨z, rfl⟩
  | _ => cases h
theorem and3 {a b c : Bool} (h : (a && (b && c)) = true) : a = true ∧ b = true ∧ c = true := by
  rw [Bool.and_eq_true, Bool.and_eq_true] at h
  exact h
theorem and2 {a b : Bool} (h : (a && b) = true) : a = true ∧ b = true := by
  rw [Bool.and_eq_true] at h
  exact h
section
variable {P : Program} {wd : World} {K : PySem.W.Frag} {mg : Str → Option Value} {base : Heap} {C : Addr}
theorem isB_str {vs : List U} {z : Str} (h : vs.getD 0 .non = .str z) : isB vs = false := by
  cases vs with
  | nil => cases h
  | cons v r =>
    have h' : v = .str z := h
    rw [h']
    exact isB_first rfl
theorem names_at {w : Addr} {H : Hp} : ∀ {us : List U} {xs : List V}, AtL w C H xs us → us.all gNamed = true → ∀ (i : Nat) (x : V), xs[i]? = some x → ∃ p ys, x = .ref p ∧ H p = some (.tup ys) ∧ ys[0]? = some (.str ((us.map fun u => strU (nth u 0)).getD i e0z))
  | [], _, .nil, _, i, x, h => by simp at h
  | u :: us, _, .cons hu l, q, i, x, h => by
    rw [List.all_cons] at q
    obtain ⟨q1, q2⟩ := and2 q
    cases i with
    | zero =>
      cases h
      obtain ⟨a1, a2, _⟩ := and3 (a := gTO 3 u) (b := gNam (nth u 0)) (c := gStamp (nth u 1) && gRow (nth u 2)) q1
      obtain ⟨vs, rfl, hl⟩ := gTO_of a1
      obtain ⟨p, ys, rfl, hp, _, hys⟩ := at_tup hu
      obtain ⟨y, hy, hay⟩ := atl_get hys (k := 0) (by omega)
      obtain ⟨z, hz⟩ := gNam_str a2
      have hz' : vs.getD 0 .non = .str z := hz
      rw [hz'] at hay
      rw [at_str hay] at hy
      refine ⟨p, ys, rfl, hp.plain (isB_str hz'), ?_⟩
      rw [hy]
      show some (V.str z) = some (V.str (strU (vs.getD 0 .non)))
      rw [hz']
      rfl
    | succ i => exact names_at l q2 i x h
theorem scHeads : FnScope ["thing", "item"] ["thing"] (defScope sHeads) := ⟨rfl, rfl, rfl, by decide +kernel, rfl, by decide +kernel, by decide +kernel⟩
theorem range_names (zs : List Str) (n : Nat) (h : n = zs.length) : (List.range n).map (fun i => V.str (zs.getD i e0z)) = zs.map V.str := by
  subst h
  refine List.ext_getElem? fun j => ?_
  rw [List.getElem?_map, List.getElem?_map]
  by_cases q : j < zs.length
  · rw [List.getElem?_range q, List.getElem?_eq_getElem q]
    show some (V.str (zs.getD j e0z)) = _
    rw [getD_some (List.getElem?_eq_getElem q)]
    rfl
  · rw [List.getElem?_eq_none (by simpa using q), List.getElem?_eq_none (by simpa using q)]
    rfl
theorem jw_heads {f f1 f2 : Addr} {fd d1 d2 : FuncData} (D : Df K mg "is_heads" sHeads ["thing"] f fd) (S : Bs K mg C) (J : Jd P wd K mg base C 5 "_is_named_head" "thing" f1 d1 gNamed) (DA : Df K mg "is_ascending" sAscending ["things"] f2 d2) :
    Jw P wd K mg base C 6 "is_heads" "thing" f fd Sm gHeads := by
  refine ⟨D.F.ok scHeads lenJw (fun cdv A outer s H vs Q E hr h => ?_), D.g, D.F.kp, D.b⟩
  obtain ⟨v, u, w, rfl, hat, fi, hs, hw, k⟩ := h
  have GA : FnOk P wd K mg base CX0 5 f2 d2 ["things"] (spAscG K (rIxL K) rLtS) := (ok_ascZ DA.F S.B).mono (by decide)
  refine ⟨_, pss_cons (ps_if (PW.pt (pw_or (pt_not (pt_val (pe_isiX S (by rfl) (by rfl) S.B.tup boot_tuple' (by decide) (pv 0) (by decide) (by decide))))
      (pw_or1 (pt_not (pt_val (pe_callB (cr_all rfl) (by rfl) S.B.all boot_all' (pa_cons (pe_lc (own := [("item", 1)]) (g := gName 1) (tt := tYes) rfl scHeads.nd (pi_tup (pv 0)) (blkOk_by (N := ["thing", "item"]) (sc := defScope sHeads) (by decide +kernel))
        (fun _ _ _ _ _ => pg_name (i := 1) scHeads.nd rfl (Or.inl rfl)) (fun _ _ _ _ _ => pts_nil) (fun _ _ _ _ _ => pe_J J hr (by decide) (by rfl) pass0 (pv 1))) pa_nil)))))))
      (pss_one (ps_ret pe_bl)) pss_nil)
    (pss_one (ps_ret (pe_call GA (hr.mono (by decide)) (by rfl) DA.g DA.F.kp DA.b .nil pass0 (pa_cons (pe_lc (own := [("item", 1)]) (g := gName 1) (tt := tYes) rfl scHeads.nd (pi_tup (pv 0)) (blkOk_by (N := ["thing", "item"]) (sc := defScope sHeads) (by decide +kernel))
        (fun _ _ _ _ _ => pg_name (i := 1) scHeads.nd rfl (Or.inl rfl)) (fun _ _ _ _ _ => pts_nil) (fun _ _ _ _ _ => pe_ix (show IxR _ (rIxT K) from ix_tup) (pv 1) pe_int (fun _ _ => rfl))) pa_nil)))), ?_⟩
  refine s_if (b := !isT u "tuple" || !(tv u fun us => us.all gNamed)) (et_or (et_not (et_B (ev_isi (ev_var rfl) hat))) fun q => ?_) (fun q H1 e => ?_) (fun q H1 e => ?_)
  · rw [Bool.not_eq_false'] at q
    obtain ⟨us, rfl⟩ := isT_tup q
    obtain ⟨a, xs, rfl, ha, _, hl⟩ := at_tup hat
    exact et_not (et_B (ev_allT (g := gNamed) (ev_var rfl) ha fi.len hl (fun _ => rfl) fun x u hu hx => ev_J (ev_var rfl) hx (fi.tup u hu)))
  · refine s_ret ev_c fun H2 e2 => ?_
    have e3 : gHeads u = false := by
      cases u with
      | tup us =>
        simp [isT, isS, tyU, tv] at q
        show (us.all gNamed && _) = false
        rw [Bool.and_eq_false_iff]
        exact .inl (by simpa using q)
      | _ => rfl
    rw [← e3]
    exact k H2 (e.trans e2)
  · rw [Bool.or_eq_false_iff, Bool.not_eq_false', Bool.not_eq_false'] at q
    obtain ⟨us, rfl⟩ := isT_tup q.1
    have q2 : us.all gNamed = true := q.2
    obtain ⟨a, xs, rfl, ha, _, hl⟩ := at_tup (ex_at e hat)
    have hlen := AtL.length hl
    dsimp only [tNext]
    refine s_ret (ev_callL1 (xs := (us.map fun u => strU (nth u 0)).map V.str) (z := .bl (ascZ (us.map fun u => strU (nth u 0)))) ?_ fun p H2 h2 e2 Q q E => asc_strL h2 (by rw [List.length_map]; exact Sm.len hs) Q q E) fun H2 e2 => ?_
    · rw [← range_names _ xs.length (by rw [List.length_map]; exact hlen)]
      exact el_mapX _ (ev_var rfl) ha (by rw [hlen]; exact Sm.len hs) (fun _ => rfl) fun i x hx => by
        obtain ⟨p, ys, rfl, hp, hy⟩ := names_at hl q2 i x hx
        exact ev_ixP (j := 0) (ev_var rfl) hp hy
    · have e3 : gHeads (.tup us) = ascZ (us.map fun u => strU (nth u 0)) := by
        show (us.all gNamed && _) = _
        rw [q2]
        rfl
      rw [← e3]
      exact k H2 (e.trans e2)
/-- a call with a new list of which something is known -/
theorem ev_callX {sp : Sp} {E : XK} {z : V} {te : TE} {σ : L2.St} {H : Hp} {R : List V → Hp → Prop} (h : ∀ H0, Ex H H0 → ∀ Q : VK, (∀ p ys H', H0 p = none → Ex H0 H' → H' p = some (.lst ys) → R ys H' → Q (.ref p) H') → te σ H0 Q)
    (hs : ∀ p ys H1, H1 p = some (.lst ys) → R ys H1 → ∀ Q : VK, (∀ H2, Ex H1 H2 → Q z H2) → ∀ E, sp [.ref p] H1 Q E) : Ev (tCall sp [] E (tCons te tNil)) σ H z :=
  fun H0 e Q q => h H0 e _ fun p ys H1 hp e1 h1 r => hs p ys H1 h1 r Q (fun H2 e2 => q H2 (e1.trans e2)) _
/-! is_blocks -/
theorem scBlocks : FnScope ["thing", "item"] ["thing"] (defScope sBlocks) := ⟨rfl, rfl, rfl, by decide +kernel, rfl, by decide +kernel, by decide +kernel⟩
theorem gHand_int {u : U} (h : gHand u = true) : ∃ i, u = .int i := by
  cases u with
  | int i => exact ⟨i, rfl⟩
  | _ => cases h
theorem gFrom_int {u : U} (h : gFrom u = true) : ∃ i, u = .int i := by
  cases u with
  | int i => exact ⟨i, rfl⟩
  | _ => cases h
theorem gId_two {u : U} (h : gId u = true) : ∃ i j, u = .tup [.int i, .int j] := by
  cases u with
  | tup us =>
    match us, h with
    | [a, b], h =>
      obtain ⟨h1, h2⟩ := and2 (a := gHand a) (b := gFrom b) h
      obtain ⟨i, rfl⟩ := gHand_int h1
      obtain ⟨j, rfl⟩ := gFrom_int h2
      exact ⟨i, j, rfl⟩
  | _ => cases h
theorem two_ints {w : Addr} {H : Hp} {v : V} {i j : Int} (h : At w C H v (.tup [.int i, .int j])) : ∃ p, v = .ref p ∧ H p = some (.tup [.int i, .int j]) := by
  obtain ⟨p, x, y, rfl, hp, hx, hy⟩ := pair_at h
  rw [at_int hx, at_int hy] at hp
  exact ⟨p, rfl, hp⟩
theorem gBlk_is {u : U} (h : gBlk u = true) : ∃ i j b, u = .tup [.tup [.int i, .int j], b] := by
  obtain ⟨h1, h2, _⟩ := and3 h
  obtain ⟨a, b, rfl⟩ := gPair_two h1
  obtain ⟨i, j, e⟩ := gId_two h2
  have e' : a = .tup [.int i, .int j] := e
  exact ⟨i, j, b, by rw [e']⟩
theorem kin_blks {us : List U} (h : us.all gBlk = true) : kinK (us.map fun u => keysU (nth u 0)) := fun ks h1 ls h2 => by
  obtain ⟨u, hu, rfl⟩ := List.mem_map.mp h1
  obtain ⟨x, hx, rfl⟩ := List.mem_map.mp h2
  obtain ⟨i, j, b, rfl⟩ := gBlk_is (List.all_eq_true.mp h u hu)
  obtain ⟨i', j', b', rfl⟩ := gBlk_is (List.all_eq_true.mp h x hx)
  rfl
theorem jw_blocks {f f1 f2 : Addr} {fd d1 d2 : FuncData} (D : Df K mg "is_blocks" sBlocks ["thing"] f fd) (S : Bs K mg C) (J : Jd P wd K mg base C 5 "_is_block" "thing" f1 d1 gBlk) (DA : Df K mg "is_ascending" sAscending ["things"] f2 d2) :
    Jw P wd K mg base C 6 "is_blocks" "thing" f fd Sm gBlocks := by
  refine ⟨D.F.ok scBlocks lenJw (fun cdv A outer s H vs Q E hr h => ?_), D.g, D.F.kp, D.b⟩
  obtain ⟨v, u, w, rfl, hat, fi, hs, hw, k⟩ := h
  have GA : FnOk P wd K mg base CX0 5 f2 d2 ["things"] (spAscG K (rIxL K) (Hk.rLtK K)) := (ok_ascK DA.F S.B).mono (by decide)
  refine ⟨_, pss_cons (ps_if (PW.pt (pw_or (pt_not (pt_val (pe_isiX S (by rfl) (by rfl) S.B.tup boot_tuple' (by decide) (pv 0) (by decide) (by decide))))
      (pw_or1 (pt_not (pt_val (pe_callB (cr_all rfl) (by rfl) S.B.all boot_all' (pa_cons (pe_lc (own := [("item", 1)]) (g := gName 1) (tt := tYes) rfl scBlocks.nd (pi_tup (pv 0)) (blkOk_by (N := ["thing", "item"]) (sc := defScope sBlocks) (by decide +kernel))
        (fun _ _ _ _ _ => pg_name (i := 1) scBlocks.nd rfl (Or.inl rfl)) (fun _ _ _ _ _ => pts_nil) (fun _ _ _ _ _ => pe_J J hr (by decide) (by rfl) pass0 (pv 1))) pa_nil)))))))
      (pss_one (ps_ret pe_bl)) pss_nil)
    (pss_one (ps_ret (pe_call GA (hr.mono (by decide)) (by rfl) DA.g DA.F.kp DA.b .nil pass0 (pa_cons (pe_lc (own := [("item", 1)]) (g := gName 1) (tt := tYes) rfl scBlocks.nd (pi_tup (pv 0)) (blkOk_by (N := ["thing", "item"]) (sc := defScope sBlocks) (by decide +kernel))
        (fun _ _ _ _ _ => pg_name (i := 1) scBlocks.nd rfl (Or.inl rfl)) (fun _ _ _ _ _ => pts_nil) (fun _ _ _ _ _ => pe_ix (show IxR _ (rIxT K) from ix_tup) (pv 1) pe_int (fun _ _ => rfl))) pa_nil)))), ?_⟩
  refine s_if (b := !isT u "tuple" || !(tv u fun us => us.all gBlk)) (et_or (et_not (et_B (ev_isi (ev_var rfl) hat))) fun q => ?_) (fun q H1 e => ?_) (fun q H1 e => ?_)
  · rw [Bool.not_eq_false'] at q
    obtain ⟨us, rfl⟩ := isT_tup q
    obtain ⟨a, xs, rfl, ha, _, hl⟩ := at_tup hat
    exact et_not (et_B (ev_allT (g := gBlk) (ev_var rfl) ha fi.len hl (fun _ => rfl) fun x u hu hx => ev_J (ev_var rfl) hx (fi.tup u hu)))
  · refine s_ret ev_c fun H2 e2 => ?_
    have e3 : gBlocks u = false := by
      cases u with
      | tup us =>
        simp [isT, isS, tyU, tv] at q
        show (us.all gBlk && _) = false
        rw [Bool.and_eq_false_iff]
        exact .inl (by simpa using q)
      | _ => rfl
    rw [← e3]
    exact k H2 (e.trans e2)
  · rw [Bool.or_eq_false_iff, Bool.not_eq_false', Bool.not_eq_false'] at q
    obtain ⟨us, rfl⟩ := isT_tup q.1
    have q2 : us.all gBlk = true := q.2
    obtain ⟨a, xs, rfl, ha, _, hl⟩ := at_tup (ex_at e hat)
    dsimp only [tNext]
    refine s_ret (v := .bl (ascK (us.map fun u => keysU (nth u 0)))) (ev_callX (R := fun ys G => TkL G ys (us.map fun u => keysU (nth u 0))) (lc_newK (K := K) (tl := tVar 0) (j := 1) (vs := [1]) (σ := [some (.ref a), none]) (f := fun u => keysU (nth u 0)) (ev_var rfl) ha (Sm.len hs) hl (fun _ => rfl) (fun x u G hu eg hx Q q => ?_)) fun p ys H3 h3 ht Q q E =>
      asc_tkL h3 ht (kin_blks q2) (by rw [List.length_map]; exact Sm.len hs) Q q E) fun H2 e2 => ?_
    · obtain ⟨i, j, b, rfl⟩ := gBlk_is (List.all_eq_true.mp q2 u hu)
      obtain ⟨p, x1, y1, rfl, hp, hx1, _⟩ := pair_at hx
      obtain ⟨p1, rfl, hp1⟩ := two_ints hx1
      exact ev_ixT (K := K) (j := 0) (te := tVar 1) (ev_var rfl) hp rfl G (Ex.refl G) Q fun H5 e5 => q p1 H5 e5 (e5 _ _ hp1)
    · have e3 : gBlocks (.tup us) = ascK (us.map fun u => keysU (nth u 0)) := by
        show (us.all gBlk && _) = _
        rw [q2]
        rfl
      rw [← e3]
      exact k H2 (e.trans e2)
end
end Hs
namespace Hs
open PySem PySem.Spec PyProof.Rows L2 Hu Evl
section
variable {P : Program} {wd : World} {K : PySem.W.Frag} {mg : Str → Option Value} {base : Heap} {C : Addr}
/-! _is_lease -/
theorem scLease : FnScope ["thing"] ["thing"] (defScope sLease) := ⟨rfl, rfl, rfl, by decide +kernel, rfl, by decide +kernel, by decide +kernel⟩
theorem jd_lease {f f1 f2 f3 f4 : Addr} {fd d1 d2 d3 d4 : FuncData} (D : Df K mg "_is_lease" sLease ["thing"] f fd) (S : Bs K mg C) (JT : JTO P wd K mg base C f1 d1) (JN : Jd P wd K mg base C 2 "is_name" "thing" f2 d2 gNam)
    (JH : Jd P wd K mg base C 2 "is_hand" "thing" f3 d3 gHand) (JC : Jd P wd K mg base C 2 "is_count" "thing" f4 d4 gCnt) : Jd P wd K mg base C 3 "_is_lease" "thing" f fd gLease := by
  refine ⟨D.F.ok scLease lenJ (fun cdv A outer s H vs Q E hr h => ?_), D.g, D.F.kp, D.b⟩
  obtain ⟨v, u, w, rfl, hat, fi, k⟩ := h
  refine ⟨_, pss_cons (ps_if (PW.pt (pw_or (pt_not (pt_val (pe_call JT.ok (hr.mono (by decide)) (by rfl) JT.D.g JT.D.F.kp JT.D.b .nil pass0 (pa_cons pe_int (pa_cons (pv 0) pa_nil)))))
      (pw_or (pt_not (pt_val (pe_J JN hr (by decide) (by rfl) pass0 (pe_ix ix_tup (pv 0) pe_int (fun _ _ => rfl))))) (pw_or1 (pt_not (pt_val (pe_J JH hr (by decide) (by rfl) pass0 (pe_ix ix_tup (pv 0) pe_int (fun _ _ => rfl)))))))))
      (pss_one (ps_ret pe_bl)) pss_nil)
    (pss_one (ps_ret (pe_and (pe_J JC hr (by decide) (by rfl) pass0 (pe_ix ix_tup (pv 0) pe_int (fun _ _ => rfl))) (pe_one (pe_J JC hr (by decide) (by rfl) pass0 (pe_ix ix_tup (pv 0) pe_int (fun _ _ => rfl))))))), ?_⟩
  refine s_if (b := !gTO 4 u || (!gNam (nth u 0) || !gHand (nth u 1))) (et_or (et_not (et_B (ev_TO (m := 4) ev_c (ev_var rfl) hat))) fun q => ?_) (fun q H1 e => ?_) (fun q H1 e => ?_)
  · rw [Bool.not_eq_false'] at q
    obtain ⟨x0, e0, h0⟩ := ev_nth (K := K) (σ := [some v]) (te := tVar 0) (k := 0) (ev_var rfl) hat q (by decide)
    obtain ⟨x1, e1, h1⟩ := ev_nth (K := K) (σ := [some v]) (te := tVar 0) (k := 1) (ev_var rfl) hat q (by decide)
    exact et_or (et_not (et_B (ev_J e0 h0 (fine_nth q (by decide) fi)))) fun _ => et_not (et_B (ev_J e1 h1 (fine_nth q (by decide) fi)))
  · refine s_ret ev_c fun H2 e2 => ?_
    have e4 : gLease u = false := by
      unfold gLease
      revert q
      cases gTO 4 u <;> cases gNam (nth u 0) <;> cases gHand (nth u 1) <;> simp
    rw [← e4]
    exact k H2 (e.trans e2)
  · have q' : gTO 4 u = true ∧ gNam (nth u 0) = true ∧ gHand (nth u 1) = true := by
      revert q
      cases gTO 4 u <;> cases gNam (nth u 0) <;> cases gHand (nth u 1) <;> simp
    obtain ⟨q1, q2, q3⟩ := q'
    have hat1 := ex_at e hat
    obtain ⟨x2, e2, h2⟩ := ev_nth (K := K) (σ := [some v]) (te := tVar 0) (k := 2) (ev_var rfl) hat1 q1 (by decide)
    obtain ⟨x3, e3, h3⟩ := ev_nth (K := K) (σ := [some v]) (te := tVar 0) (k := 3) (ev_var rfl) hat1 q1 (by decide)
    dsimp only [tNext]
    refine s_ret (ev_andV (ev_J e2 h2 (fine_nth q1 (by decide) fi)) fun _ => ev_J e3 h3 (fine_nth q1 (by decide) fi)) fun H2 e2 => ?_
    have e4 : gLease u = (gCnt (nth u 2) && gCnt (nth u 3)) := by
      unfold gLease
      rw [q1, q2, q3]
      rfl
    rw [← e4]
    exact k H2 (e.trans e2)
/-! _are_leases -/
theorem gLease_is {u : U} (h : gLease u = true) : ∃ z i t n, u = .tup [.str z, .int i, .int t, .int n] := by
  obtain ⟨h1, h2⟩ := and2 (a := gTO 4 u && (gNam (nth u 0) && gHand (nth u 1))) h
  obtain ⟨h3, h4, h5⟩ := and3 h1
  obtain ⟨h6, h7⟩ := and2 h2
  obtain ⟨us, rfl, hl⟩ := gTO_of h3
  match us, hl with
  | [a, b, c, d], _ =>
    obtain ⟨z, rfl⟩ := gNam_str (u := a) h4
    obtain ⟨i, rfl⟩ := gHand_int (u := b) h5
    cases c <;> cases d <;> first | exact ⟨_, _, _, _, rfl⟩ | cases h6 | cases h7
theorem kin_leases {us : List U} (h : us.all gLease = true) : kinK (us.map keyL) := fun ks h1 ls h2 => by
  obtain ⟨u, hu, rfl⟩ := List.mem_map.mp h1
  obtain ⟨x, hx, rfl⟩ := List.mem_map.mp h2
  obtain ⟨z, i, t, n, rfl⟩ := gLease_is (List.all_eq_true.mp h u hu)
  obtain ⟨z', i', t', n', rfl⟩ := gLease_is (List.all_eq_true.mp h x hx)
  rfl
theorem four_at {w : Addr} {H : Hp} {v : V} {z : Str} {i t n : Int} (h : At w C H v (.tup [.str z, .int i, .int t, .int n])) : ∃ p, v = .ref p ∧ H p = some (.tup [.str z, .int i, .int t, .int n]) := by
  obtain ⟨p, xs, rfl, hp, _, hl⟩ := at_tup h
  cases hl with
  | cons h1 hl => cases hl with
    | cons h2 hl => cases hl with
      | cons h3 hl => cases hl with
        | cons h4 hl => cases hl with
          | nil =>
            rw [at_str h1, at_int h2, at_int h3, at_int h4] at hp
            exact ⟨p, rfl, hp⟩
theorem scLeases : FnScope ["thing", "item"] ["thing"] (defScope sLeases) := ⟨rfl, rfl, rfl, by decide +kernel, rfl, by decide +kernel, by decide +kernel⟩
theorem jw_leases {f f1 f2 : Addr} {fd d1 d2 : FuncData} (D : Df K mg "_are_leases" sLeases ["thing"] f fd) (S : Bs K mg C) (J : Jd P wd K mg base C 3 "_is_lease" "thing" f1 d1 gLease) (DA : Df K mg "is_ascending" sAscending ["things"] f2 d2) :
    Jw P wd K mg base C 6 "_are_leases" "thing" f fd Sm gLeases := by
  refine ⟨D.F.ok scLeases lenJw (fun cdv A outer s H vs Q E hr h => ?_), D.g, D.F.kp, D.b⟩
  obtain ⟨v, u, w, rfl, hat, fi, hs, hw, k⟩ := h
  have GA : FnOk P wd K mg base CX0 5 f2 d2 ["things"] (spAscG K (rIxL K) (Hk.rLtK K)) := (ok_ascK DA.F S.B).mono (by decide)
  refine ⟨_, pss_cons (ps_if (PW.pt (pw_or (pt_not (pt_val (pe_isiX S (by rfl) (by rfl) S.B.tup boot_tuple' (by decide) (pv 0) (by decide) (by decide))))
      (pw_or1 (pt_not (pt_val (pe_callB (cr_all rfl) (by rfl) S.B.all boot_all' (pa_cons (pe_lc (own := [("item", 1)]) (g := gName 1) (tt := tYes) rfl scLeases.nd (pi_tup (pv 0)) (blkOk_by (N := ["thing", "item"]) (sc := defScope sLeases) (by decide +kernel))
        (fun _ _ _ _ _ => pg_name (i := 1) scLeases.nd rfl (Or.inl rfl)) (fun _ _ _ _ _ => pts_nil) (fun _ _ _ _ _ => pe_J J hr (by decide) (by rfl) pass0 (pv 1))) pa_nil)))))))
      (pss_one (ps_ret pe_bl)) pss_nil)
    (pss_one (ps_ret (pe_call GA (hr.mono (by decide)) (by rfl) DA.g DA.F.kp DA.b .nil pass0 (pa_cons (pe_lc (own := [("item", 1)]) (g := gName 1) (tt := tYes) rfl scLeases.nd (pi_tup (pv 0)) (blkOk_by (N := ["thing", "item"]) (sc := defScope sLeases) (by decide +kernel))
        (fun _ _ _ _ _ => pg_name (i := 1) scLeases.nd rfl (Or.inl rfl)) (fun _ _ _ _ _ => pts_nil) (fun _ _ _ _ _ => pe_slice (show SlR _ (rSlA K) from sl_tupA) (pv 1) po_none (po_some pe_int))) pa_nil)))), ?_⟩
  refine s_if (b := !isT u "tuple" || !(tv u fun us => us.all gLease)) (et_or (et_not (et_B (ev_isi (ev_var rfl) hat))) fun q => ?_) (fun q H1 e => ?_) (fun q H1 e => ?_)
  · rw [Bool.not_eq_false'] at q
    obtain ⟨us, rfl⟩ := isT_tup q
    obtain ⟨a, xs, rfl, ha, _, hl⟩ := at_tup hat
    exact et_not (et_B (ev_allT (g := gLease) (ev_var rfl) ha fi.len hl (fun _ => rfl) fun x u hu hx => ev_J (ev_var rfl) hx (fi.tup u hu)))
  · refine s_ret ev_c fun H2 e2 => ?_
    have e3 : gLeases u = false := by
      cases u with
      | tup us =>
        simp [isT, isS, tyU, tv] at q
        show (us.all gLease && _) = false
        rw [Bool.and_eq_false_iff]
        exact .inl (by simpa using q)
      | _ => rfl
    rw [← e3]
    exact k H2 (e.trans e2)
  · rw [Bool.or_eq_false_iff, Bool.not_eq_false', Bool.not_eq_false'] at q
    obtain ⟨us, rfl⟩ := isT_tup q.1
    have q2 : us.all gLease = true := q.2
    obtain ⟨a, xs, rfl, ha, _, hl⟩ := at_tup (ex_at e hat)
    dsimp only [tNext]
    refine s_ret (v := .bl (ascK (us.map keyL))) (ev_callX (R := fun ys G => TkL G ys (us.map keyL)) (lc_newK (K := K) (tl := tVar 0) (j := 1) (vs := [1]) (σ := [some (.ref a), none]) (f := keyL) (ev_var rfl) ha (Sm.len hs) hl (fun _ => rfl) (fun x u G hu eg hx Q q => ?_)) fun p ys H3 h3 ht Q q E =>
      asc_tkL h3 ht (kin_leases q2) (by rw [List.length_map]; exact Sm.len hs) Q q E) fun H2 e2 => ?_
    · obtain ⟨z, i, t, n, rfl⟩ := gLease_is (List.all_eq_true.mp q2 u hu)
      obtain ⟨p, rfl, hp⟩ := four_at hx
      refine ⟨_, rfl, 2, rfl, p, _, rfl, st_of hp, fun h => absurd h.2 (show ¬ (HT.sIx 4 4 (some 2) = 4) from by decide), fun _ p' hp' => q p' _ (Ex.new hp') ?_⟩
      rw [upd_same]
      rfl
    · have e3 : gLeases (.tup us) = ascK (us.map keyL) := by
        show (us.all gLease && _) = _
        rw [q2]
        rfl
      rw [← e3]
      exact k H2 (e.trans e2)
end
end Hs
namespace Hs
open PySem PySem.Spec PyProof.Rows L2 Hu Evl
def gKept (u : U) : Bool := gMembers (nth u 0) && (gAhead (nth u 1) && (gHeads (nth u 2) && gBlocks (nth u 3)))
structure OkK (u : U) : Prop where
  t : gTO 4 u = true
  a : okN (nth u 1)
  h : Sm (nth u 2)
  b : Sm (nth u 3)
section
variable {P : Program} {wd : World} {K : PySem.W.Frag} {mg : Str → Option Value} {base : Heap} {C : Addr}
theorem four_of {u : U} (h : gTO 4 u = true) : ∃ a b c d, u = .tup [a, b, c, d] := by
  obtain ⟨us, rfl, hl⟩ := gTO_of h
  match us, hl with
  | [a, b, c, d], _ => exact ⟨a, b, c, d, rfl⟩
theorem atl_four {w : Addr} {H : Hp} {xs : List V} {a b c d : U} (h : AtL w C H xs [a, b, c, d]) : ∃ x y z t, xs = [x, y, z, t] ∧ At w C H x a ∧ At w C H y b ∧ At w C H z c ∧ At w C H t d := by
  cases h with
  | cons h1 h => cases h with
    | cons h2 h => cases h with
      | cons h3 h => cases h with
        | cons h4 h => cases h with
          | nil => exact ⟨_, _, _, _, rfl, h1, h2, h3, h4⟩
theorem scKept : FnScope ["parts", "members", "ahead", "heads", "blocks"] ["parts"] (defScope sKept) := ⟨rfl, rfl, rfl, by decide +kernel, rfl, by decide +kernel, by decide +kernel⟩
theorem jw_kept {f f1 f2 f3 f4 : Addr} {fd d1 d2 d3 d4 : FuncData} (D : Df K mg "_are_kept" sKept ["parts"] f fd) (S : Bs K mg C) (JM : Jd P wd K mg base C 4 "is_members" "thing" f1 d1 gMembers) (JA : Jw P wd K mg base C 5 "is_ahead" "thing" f2 d2 okN gAhead)
    (JH : Jw P wd K mg base C 6 "is_heads" "thing" f3 d3 Sm gHeads) (JB : Jw P wd K mg base C 6 "is_blocks" "thing" f4 d4 Sm gBlocks) : Jw P wd K mg base C 7 "_are_kept" "parts" f fd OkK gKept := by
  refine ⟨D.F.ok scKept lenJw (fun cdv A outer s H vs Q E hr h => ?_), D.g, D.F.kp, D.b⟩
  obtain ⟨v, u, w, rfl, hat, fi, hs, hw, k⟩ := h
  refine ⟨_, pss_cons (ps_asg (pv 0) (pg_tup rfl (pgs_cons (pg_name (i := 1) scKept.nd rfl (.inl rfl)) (pgs_cons (pg_name (i := 2) scKept.nd rfl (.inl rfl)) (pgs_cons (pg_name (i := 3) scKept.nd rfl (.inl rfl)) (pgs_cons (pg_name (i := 4) scKept.nd rfl (.inl rfl)) pgs_nil))))))
    (pss_one (ps_ret (pe_and (pe_J JM hr (by decide) (by rfl) pass0 (pv 1)) (pe_and (pe_Jw JA hr (by decide) (by rfl) pass0 (pv 2)) (pe_and (pe_Jw JH hr (by decide) (by rfl) pass0 (pv 3)) (pe_one (pe_Jw JB hr (by decide) (by rfl) pass0 (pv 4)))))))), ?_⟩
  obtain ⟨a, b, c, d, rfl⟩ := four_of hs.t
  obtain ⟨p, xs, rfl, hp, _, hl⟩ := at_tup hat
  obtain ⟨x, y, z, t, rfl, h1, h2, h3, h4⟩ := atl_four hl
  refine ⟨_, rfl, p, _, rfl, Tu.st hp, rfl, x, _, rfl, y, _, rfl, z, _, rfl, t, _, rfl, rfl, ?_⟩
  dsimp only [gName]
  exact s_ret (ev_andV (ev_J (ev_var rfl) h1 (fi.tup a (by simp))) fun _ => ev_andV (ev_Jw (ev_var rfl) h2 (fi.tup b (by simp)) hs.a hw) fun _ => ev_andV (ev_Jw (ev_var rfl) h3 (fi.tup c (by simp)) hs.h hw) fun _ => ev_Jw (ev_var rfl) h4 (fi.tup d (by simp)) hs.b hw) k
end
end Hs
/-! new tuples, of which it is known that nothing is added to them: they may stand locked -/
namespace Hu
open PySem PySem.Spec PyProof.Rows L2
/-- a new tuple of xs, as it pleases: open, or locked -/
def NewT (H : Hp) (xs : List V) (Q : VK) : Prop := ∀ p, H p = none → Q (.ref p) (upd H p (.tup xs)) ∨ ∀ o : Obj, o.dict = none → Q (.ref p) (upd H p (.frz o (.tup xs)))
section
variable {X : Cx} {pins : List (Addr × Obj)} {σ : L2.St} {H : Hp} {s : Shared} {Q : VK} {xs : List V} {its : List Value}
theorem newT_at (I : Inv X pins σ H s) (z : xs.length ≤ sizeLine) (r : Vals xs its) (n : NewT H xs Q) :
    EP X pins σ Q (.ref s.heap.objs.size) { s with heap := s.heap.push { cls := .type "tuple", data := .seq its.toArray } } := by
  have new : s.heap.objs.size ≤ s.heap.objs.size := Nat.le_refl _
  have got : (s.heap.push { cls := .type "tuple", data := .seq its.toArray }).get? s.heap.objs.size = some { cls := .type "tuple", data := .seq its.toArray } := Heap.get?_push_size _ rfl
  have it : IsTup (s.heap.push { cls := .type "tuple", data := .seq its.toArray }) s.heap.objs.size its.toArray := IsTup.new _ _
  have keep : ∀ (b : Addr) (u : Obj), s.heap.get? b = some u → (s.heap.push { cls := .type "tuple", data := .seq its.toArray }).get? b = some u := fun b u e => Heap.get?_push_of_some _ e
  rcases n _ (I.hok.fresh new) with q | q
  · exact ⟨.ref _, _, I.laid (t' := s.toks) (o := .tup xs) keep new ⟨z, its, r, it⟩, rfl, q⟩
  · exact ⟨.ref _, _, I.laid (t' := s.toks) (o := .frz _ (.tup xs)) keep new ⟨got, z, its, r, it⟩, rfl, q _ rfl⟩
variable {es : List Expr} {t : TA} {pos : Pos}
/-- (a, b) -/
def tTupF (t : TA) : TE := fun σ H Q => t σ H fun xs H1 => xs.length ≤ sizeLine ∧ NewT H1 xs Q
theorem pe_tupF {x1} (h : PA X es t) : PE X (.Tuple es x1 pos) (tTupF t) := by
  constructor
  intro pins s σ H Q I hq
  refine wpAny_Tuple_spliced (thn (h.run pos pins s σ H _ I hq) fun us s1 ⟨xs, H1, I1, r, z, q⟩ => ⟨by rw [← r.length]; exact z, ?_⟩)
  exact newT_at I1 z r q
/-- t + u -/
def rCatF (K : PySem.W.Frag) : R2 := fun x y H Q => ∃ a b xs ys, x = .ref a ∧ y = .ref b ∧ SqT K H a xs ∧ SqT K H b ys ∧ xs.length + ys.length ≤ sizeLine ∧
  (xs = [] → Q (.ref b) H) ∧ (xs ≠ [] → ys = [] → Q (.ref a) H) ∧ (xs ≠ [] → ys ≠ [] → NewT H (xs ++ ys) Q)
theorem op_catF : OpR X (binaryOp .Add) (rCatF X.K) := by
  intro pins s σ H x y v u Q I rx ry h
  obtain ⟨a, b, xs, ys, rfl, rfl, ha, hb, hz, q0, q1, q2⟩ := h
  cases rx
  cases ry
  obtain ⟨i1, r1, p1, _⟩ := I.tuple ha
  obtain ⟨i2, r2, p2, _⟩ := I.tuple hb
  by_cases hx : xs = []
  · subst hx
    cases r1
    exact cat_tup0 p1 p2 ⟨.ref b, H, I, rfl, q0 rfl⟩
  · refine HT.cat_tup p1 p2 (fun z => hx (r1.nil_iff.mp z)) (fun z => ⟨.ref a, H, I, rfl, q1 hx (r2.nil_iff.mp z)⟩) (fun z => ?_) (by rw [← r1.length, ← r2.length]; exact hz)
    exact newT_at (its := i1 ++ i2) I (by rw [List.length_append]; exact hz) (r1.append r2) (q2 hx fun w => z (r2.nil_iff.mpr w))
/-- t[lo:hi] -/
def rSlF (K : PySem.W.Frag) : V → Option Int → Option Int → Hp → VK → Prop := fun x lo hi H Q => ∃ a xs, x = .ref a ∧ SqT K H a xs ∧
  (HT.sIx xs.length 0 lo = 0 ∧ HT.sIx xs.length xs.length hi = xs.length → Q (.ref a) H) ∧ (¬ (HT.sIx xs.length 0 lo = 0 ∧ HT.sIx xs.length xs.length hi = xs.length) → NewT H (cutV xs lo hi) Q)
theorem sl_tupF : SlR X (rSlF X.K) := by
  intro pins s σ H x v vl vu lo hi sl Q I rx hs pl pu h
  obtain ⟨a, xs, rfl, hx, q1, q2⟩ := h
  cases rx
  obtain ⟨i1, r, ht, hz⟩ := I.tuple hx
  have hlen : i1.toArray.size = xs.length := by rw [List.size_toArray]; exact r.length.symm
  refine ⟨"tuple", _, PyProof.Rows.slot_tuple_getitem.lookup, ht.typeIs, ?_⟩
  by_cases hw : HT.sIx xs.length 0 lo = 0 ∧ HT.sIx xs.length xs.length hi = xs.length
  · exact getItem_tuple_whole ht hs pl pu (by rw [hlen]; exact hw) ⟨.ref a, H, I, rfl, q1 hw⟩
  · refine HT.getItem_tuple_cut ht hs pl pu (by rw [hlen]; exact hw) ?_ (by rw [hlen]; exact hz)
    rw [hlen]
    exact newT_at I (Nat.le_trans (cutV_length xs lo hi) hz) ((r.drop (HT.sIx xs.length 0 lo)).take (HT.sIx xs.length xs.length hi - HT.sIx xs.length 0 lo)) (q2 hw)
/-- tuple(a list), tuple(a tuple) -/
abbrev rTupF (K : PySem.W.Frag) : List V → Hp → VK → Prop := fun xs H Q => ∃ p ys, xs = [.ref p] ∧ ((SqL K H p ys ∧ NewT H ys Q) ∨ (SqT K H p ys ∧ Q (.ref p) H))
theorem call_tupF : CallR X (.type "tuple") (rTupF X.K) := by
  intro pins s σ H xs us Q I r h
  obtain ⟨p, ys, rfl, h⟩ := h
  obtain ⟨u, rfl, rx⟩ := vals1 r
  cases rx
  rcases h with ⟨hq, q⟩ | ⟨hq, q⟩
  · obtain ⟨i1, r', pl, hz⟩ := I.list hq
    have hlen := r'.length
    refine call_tuple_list pl.isList (fun h' kp => ?_) (by simp only [List.size_toArray] <;> omega)
    have I1 : Inv X pins σ H { s with heap := h' } := I.kept (t' := s.toks) kp
    exact newT_at I1 hz r' q
  · obtain ⟨i1, r', pl, hz⟩ := I.tuple hq
    exact call_tuple_same pl ⟨.ref p, H, I, rfl, q⟩
end
open Evl in
/-- a new tuple of data -/
theorem newT {H : Hp} {xs : List V} {us : List U} {Q : VK} (q : ∀ p H', H p = none → Ex H H' → Tu H' p xs us → Q (.ref p) H') : NewT H xs Q := fun p hp => by
  cases c : isB us with
  | false => exact .inl (q p _ hp (Ex.new hp) (Tu.of upd_same c))
  | true =>
    refine .inr fun o ho => q p _ hp (Ex.new hp) ?_
    unfold Tu
    rw [if_pos c]
    exact ⟨o, ho, upd_same⟩
open Evl in
theorem newT_data {w C : Addr} {H : Hp} {xs : List V} {us : List U} {Q : VK} (hw : ∃ o, H w = some o) (l : AtL w C H xs us) (q : ∀ v H', Ex H H' → At w C H' v (.tup us) → Q v H') : NewT H xs Q :=
  newT (us := us) fun p H' hp e t => q _ H' e (.tup t (fun z => by
    obtain ⟨o, ho⟩ := hw
    rw [← z, hp] at ho
    cases ho) (l.keep fun b o _ h => e b o h))
end Hu
namespace Hs
open PySem PySem.Spec PyProof.Rows L2 Hu Evl
/-- the places of a table's parts -/
structure Ct (mg : Str → Option Value) : Prop where
  p0 : ∃ t, mg "EPOCH" = some (.int 0 t)
  p1 : ∃ t, mg "MEMBERS" = some (.int 1 t)
  p2 : ∃ t, mg "AHEAD" = some (.int 2 t)
  p3 : ∃ t, mg "CLOCK" = some (.int 3 t)
  p4 : ∃ t, mg "HEADS" = some (.int 4 t)
  p5 : ∃ t, mg "BLOCKS" = some (.int 5 t)
  p6 : ∃ t, mg "LEASES" = some (.int 6 t)
  p7 : ∃ t, mg "PROMISE" = some (.int 7 t)
  p8 : ∃ t, mg "VOTED" = some (.int 8 t)
  p9 : ∃ t, mg "NEXT" = some (.int 9 t)
  many : ∃ t, mg "MANY_PARTS" = some (.int 10 t)
  ticks : ∃ t, mg "LEASE_TICKS" = some (.int 8 t)
abbrev isM1 (u : U) : Bool := isI (-1) u
structure OkT (u : U) : Prop where
  s : Sm u
def keptU (u : U) : U := .tup [nth u 1, nth u 2, nth u 4, nth u 5]
def gTable (u : U) : Bool := gTO 10 u && ((gCnt (nth u 3) && gLeases (nth u 6)) && ((gStamp (nth u 7) && gVote (nth u 8)) && ((isNon (nth u 9) || gMembers (nth u 9)) &&
  (if isM1 (nth u 0) = true then nilU (nth u 1) && (nilU (nth u 2) && (nilU (nth u 4) && nilU (nth u 5))) else gCnt (nth u 0) && gKept (keptU u)))))
theorem Sm.nth {u : U} (h : Sm u) (k : Nat) : Sm (nth u k) := by
  cases u with
  | tup us =>
    show wt (us.getD k .non) ≤ 160000
    rw [List.getD_eq_getElem?_getD]
    cases e : us[k]? with
    | none => simp [wt]
    | some x =>
      have h1 := wt_mem (List.mem_of_getElem? e)
      have h2 : wt (.tup us) ≤ 160000 := h
      simp only [wt] at h2
      show wt x ≤ 160000
      omega
  | _ => show wt U.non ≤ 160000; simp [wt]
section
variable {P : Program} {wd : World} {K : PySem.W.Frag} {mg : Str → Option Value} {base : Heap} {C : Addr}
theorem pe_gi {X : Cx} {x : Str} {i : Int} {p : Pos} (hg : Gl X x) (h : ∃ t, X.mg x = some (.int i t)) (hd : (x == ("__debug__" : Str)) = false := by decide) : PE X (.Name x p) (tC (.int i)) := by
  obtain ⟨t, h⟩ := h
  exact pe_glob (v := .int i) hg h ⟨_, rfl⟩ hd
theorem rv_m1 {w : Addr} {H : Hp} {v : V} {u : U} (q : Eqx K C) (h : At w C H v u) : RV (rEqI K) v (.int (-1)) H (.bl (isM1 u)) := rv_eqI (ni_at (-1) q h)
theorem four_nils {σ : L2.St} {H G : Hp} (eg : Ex H G) {Q : VK} (q : ∀ (p c1 c2 c3 c4 : Addr) G', Ex G G' → G' p = some (.tup ([c1, c2, c3, c4].map V.ref)) → (∀ c ∈ [c1, c2, c3, c4], G' c = some (.tup [])) → Q (.ref p) G') :
    tTup (tCons (tTup tNil) (tCons (tTup tNil) (tCons (tTup tNil) (tCons (tTup tNil) tNil)))) σ G Q := by
  have nil : ∀ G : Hp, EvU (tTup tNil) σ G [] := fun G => eu_tup ea_nil (by decide)
  have step : ∀ (r : TA) (G : Hp) (Q : List V → Hp → Prop), (∀ c G1, Ex G G1 → G1 c = some (.tup []) → r σ G1 (fun vs H2 => Q (.ref c :: vs) H2)) → tCons (tTup tNil) r σ G Q := fun r G Q h => nil G G (Ex.refl G) _ fun c G1 _ e k => h c G1 e k
  refine step _ G _ fun c1 G1 e1 k1 => ?_
  refine step _ G1 _ fun c2 G2 e2 k2 => ?_
  refine step _ G2 _ fun c3 G3 e3 k3 => ?_
  refine step _ G3 _ fun c4 G4 e4 k4 => ?_
  refine ⟨sz_of (by show (4 : Nat) ≤ 100000; decide), fun p hp => ?_⟩
  have n := Ex.new (o := HO.tup [.ref c1, .ref c2, .ref c3, .ref c4]) hp
  refine q p c1 c2 c3 c4 _ ((((e1.trans e2).trans e3).trans e4).trans n) upd_same fun c hc => ?_
  rcases List.mem_cons.mp hc with rfl | hc
  · exact n _ _ (e4 _ _ (e3 _ _ (e2 _ _ k1)))
  rcases List.mem_cons.mp hc with rfl | hc
  · exact n _ _ (e4 _ _ (e3 _ _ k2))
  rcases List.mem_cons.mp hc with rfl | hc
  · exact n _ _ (e4 _ _ k3)
  rcases List.mem_cons.mp hc with rfl | hc
  · exact n _ _ k4
  · cases hc
theorem q_asgF {σ : L2.St} {H : Hp} {ta : TA} {tz : TS} {D : Ends} {i : Nat} {xs : List V} {us : List U} (h : EvA ta σ H xs) (hz : xs.length ≤ 100000) (k : ∀ p H1, H p = none → Ex H H1 → Tu H1 p xs us → tz D (σ.set i (some (.ref p))) H1) : tSeq (tAsg (tTupF ta) (gName i)) tz D σ H :=
  h H (Ex.refl H) _ fun H1 e1 => ⟨sz_of hz, newT (us := us) fun p H2 hp e2 t => k p H2 (by
    cases q : H p with
    | none => rfl
    | some o => rw [e1 _ _ q] at hp; cases hp) (e1.trans e2) t⟩
theorem scTable : FnScope ["thing", "kept"] ["thing"] (defScope sTable) := ⟨rfl, rfl, rfl, by decide +kernel, rfl, by decide +kernel, by decide +kernel⟩
theorem jw_table {f f1 f2 f3 f4 f5 f6 f7 : Addr} {fd d1 d2 d3 d4 d5 d6 d7 : FuncData} (D : Df K mg "is_table" sTable ["thing"] f fd) (S : Bs K mg C) (N : Ct mg) (JT : JTO P wd K mg base C f1 d1) (JC : Jd P wd K mg base C 2 "is_count" "thing" f2 d2 gCnt)
    (JL : Jw P wd K mg base C 6 "_are_leases" "thing" f3 d3 Sm gLeases) (JS : Jd P wd K mg base C 3 "is_stamp" "thing" f4 d4 gStamp) (JV : Jd P wd K mg base C 5 "is_vote" "thing" f5 d5 gVote) (JM : Jd P wd K mg base C 4 "is_members" "thing" f6 d6 gMembers)
    (JK : Jw P wd K mg base C 7 "_are_kept" "parts" f7 d7 OkK gKept) : Jw P wd K mg base C 8 "is_table" "thing" f fd OkT gTable := by
  refine ⟨D.F.ok scTable lenJw (fun cdv A outer s H vs Q E hr h => ?_), D.g, D.F.kp, D.b⟩
  obtain ⟨v, u, w, rfl, hat, fi, hs, hw, k⟩ := h
  refine ⟨_, pss_cons (ps_if (pt_not (pt_val (pe_call JT.ok (hr.mono (by decide)) (by rfl) JT.D.g JT.D.F.kp JT.D.b .nil pass0 (pa_cons (pe_gi (by rfl) N.many) (pa_cons (pv 0) pa_nil))))) (pss_one (ps_ret pe_bl)) pss_nil)
    (pss_cons (ps_if (PW.pt (pw_or (pt_not (pt_val (pe_J JC hr (by decide) (by rfl) pass0 (pe_ix ix_tup (pv 0) (pe_gi (by rfl) N.p3) (fun _ _ => rfl))))) (pw_or1 (pt_not (pt_val (pe_Jw JL hr (by decide) (by rfl) pass0 (pe_ix ix_tup (pv 0) (pe_gi (by rfl) N.p6) (fun _ _ => rfl)))))))) (pss_one (ps_ret pe_bl)) pss_nil)
    (pss_cons (ps_if (PW.pt (pw_or (pt_not (pt_val (pe_J JS hr (by decide) (by rfl) pass0 (pe_ix ix_tup (pv 0) (pe_gi (by rfl) N.p7) (fun _ _ => rfl))))) (pw_or1 (pt_not (pt_val (pe_J JV hr (by decide) (by rfl) pass0 (pe_ix ix_tup (pv 0) (pe_gi (by rfl) N.p8) (fun _ _ => rfl)))))))) (pss_one (ps_ret pe_bl)) pss_nil)
    (pss_cons (ps_if (PW.pt (pw_and (pt_cmpR op_notN1 (pe_ix ix_tup (pv 0) (pe_gi (by rfl) N.p9) (fun _ _ => rfl)) pe_non (nomark _)) (pw_and1 (pt_not (pt_val (pe_J JM hr (by decide) (by rfl) pass0 (pe_ix ix_tup (pv 0) (pe_gi (by rfl) N.p9) (fun _ _ => rfl)))))))) (pss_one (ps_ret pe_bl)) pss_nil)
    (pss_cons (ps_set (i := 1) scTable.nd rfl (.inl rfl) (pe_tupF (pa_cons (pe_ix ix_tup (pv 0) (pe_gi (by rfl) N.p1) (fun _ _ => rfl)) (pa_cons (pe_ix ix_tup (pv 0) (pe_gi (by rfl) N.p2) (fun _ _ => rfl)) (pa_cons (pe_ix ix_tup (pv 0) (pe_gi (by rfl) N.p4) (fun _ _ => rfl)) (pa_cons (pe_ix ix_tup (pv 0) (pe_gi (by rfl) N.p5) (fun _ _ => rfl)) pa_nil))))))
    (pss_cons (ps_if (pt_cmpR (op_eqI (room_hu hr)) (pe_ix ix_tup (pv 0) (pe_gi (by rfl) N.p0) (fun _ _ => rfl)) (pe_un un_neg pe_int) (nomark _)) (pss_one (ps_ret (pe_cmpR (op_eqNs (room_hu hr)) (pv 1) (pe_tup (pa_cons (pe_tup pa_nil) (pa_cons (pe_tup pa_nil) (pa_cons (pe_tup pa_nil) (pa_cons (pe_tup pa_nil) pa_nil))))) (nomark _)))) pss_nil)
    (pss_one (ps_ret (pe_and (pe_J JC hr (by decide) (by rfl) pass0 (pe_ix ix_tup (pv 0) (pe_gi (by rfl) N.p0) (fun _ _ => rfl))) (pe_one (pe_Jw JK hr (by decide) (by rfl) pass0 (pv 1))))))))))), ?_⟩
  refine q_when (b := !gTO 10 u) (et_not (et_B (ev_TO (m := 10) ev_c (ev_var rfl) hat))) (fun q H1 e => ?_) (fun q H1 e => ?_)
  · refine s_ret ev_c fun H2 e2 => ?_
    have e4 : gTable u = false := by
      unfold gTable
      rw [Bool.not_eq_true'] at q
      rw [q]
      rfl
    rw [← e4]
    exact k H2 (e.trans e2)
  rw [Bool.not_eq_false'] at q
  have nt : ∀ (G : Hp), Ex H G → ∀ (τ : L2.St) (i : Nat), τ[0]? = some (some v) → i < 10 → ∃ x, Ev (tOp (rIxT K) (tVar 0) (tC (.int (i : Int)))) τ G x ∧ At w C G x (nth u i) := fun G eg τ i hi hk => ev_nth (ev_var hi) (ex_at eg hat) q hk
  have fn : ∀ i, i < 10 → Fine (nth u i) := fun i hi => fine_nth q hi fi
  have g0 : gTable u = ((gCnt (nth u 3) && gLeases (nth u 6)) && ((gStamp (nth u 7) && gVote (nth u 8)) && ((isNon (nth u 9) || gMembers (nth u 9)) &&
    (if isM1 (nth u 0) = true then nilU (nth u 1) && (nilU (nth u 2) && (nilU (nth u 4) && nilU (nth u 5))) else gCnt (nth u 0) && gKept (keptU u))))) := by
    unfold gTable
    rw [q, Bool.true_and]
  obtain ⟨x3, e3, h3⟩ := nt H1 e [some v, none] 3 rfl (by decide)
  obtain ⟨x6, e6, h6⟩ := nt H1 e [some v, none] 6 rfl (by decide)
  refine q_when (b := !gCnt (nth u 3) || !gLeases (nth u 6)) (et_or (et_not (et_B (ev_J e3 h3 (fn 3 (by decide))))) fun _ => et_not (et_B (ev_Jw e6 h6 (fn 6 (by decide)) (hs.s.nth 6) (hw.imp fun o z => e _ _ z)))) (fun q2 H2 e2 => ?_) (fun q2 H2 e2 => ?_)
  · refine s_ret ev_c fun H3 e3 => ?_
    have e4 : gTable u = false := by
      rw [g0]
      revert q2
      cases gCnt (nth u 3) <;> cases gLeases (nth u 6) <;> simp
    rw [← e4]
    exact k H3 ((e.trans e2).trans e3)
  have q2' : (gCnt (nth u 3) && gLeases (nth u 6)) = true := by
    revert q2
    cases gCnt (nth u 3) <;> cases gLeases (nth u 6) <;> simp
  rw [q2', Bool.true_and] at g0
  have e12 := e.trans e2
  obtain ⟨x7, e7, h7⟩ := nt H2 e12 [some v, none] 7 rfl (by decide)
  obtain ⟨x8, e8, h8⟩ := nt H2 e12 [some v, none] 8 rfl (by decide)
  refine q_when (b := !gStamp (nth u 7) || !gVote (nth u 8)) (et_or (et_not (et_B (ev_J e7 h7 (fn 7 (by decide))))) fun _ => et_not (et_B (ev_J e8 h8 (fn 8 (by decide))))) (fun q3 H3 e3 => ?_) (fun q3 H3 e3 => ?_)
  · refine s_ret ev_c fun H4 e4 => ?_
    have e4' : gTable u = false := by
      rw [g0]
      revert q3
      cases gStamp (nth u 7) <;> cases gVote (nth u 8) <;> simp
    rw [← e4']
    exact k H4 ((e12.trans e3).trans e4)
  have q3' : (gStamp (nth u 7) && gVote (nth u 8)) = true := by
    revert q3
    cases gStamp (nth u 7) <;> cases gVote (nth u 8) <;> simp
  rw [q3', Bool.true_and] at g0
  have e13 := e12.trans e3
  obtain ⟨x9, e9, h9⟩ := nt H3 e13 [some v, none] 9 rfl (by decide)
  refine q_when (b := !isNon (nth u 9) && !gMembers (nth u 9)) (et_and (et_test (ev_is (ev_op e9 ev_c fun G eg Q q => ⟨rfl, q G (Ex.refl G)⟩) (by rw [at_non h9]))) fun _ => et_not (et_B (ev_J e9 h9 (fn 9 (by decide))))) (fun q4 H4 e4 => ?_) (fun q4 H4 e4 => ?_)
  · refine s_ret ev_c fun H5 e5 => ?_
    have e4' : gTable u = false := by
      rw [g0]
      revert q4
      cases isNon (nth u 9) <;> cases gMembers (nth u 9) <;> simp
    rw [← e4']
    exact k H5 ((e13.trans e4).trans e5)
  have q4' : (isNon (nth u 9) || gMembers (nth u 9)) = true := by
    revert q4
    cases isNon (nth u 9) <;> cases gMembers (nth u 9) <;> simp
  rw [q4', Bool.true_and] at g0
  have e14 := e13.trans e4
  obtain ⟨x1, e1', h1⟩ := nt H4 e14 [some v, none] 1 rfl (by decide)
  obtain ⟨x2, e2', h2⟩ := nt H4 e14 [some v, none] 2 rfl (by decide)
  obtain ⟨x4, e4', h4⟩ := nt H4 e14 [some v, none] 4 rfl (by decide)
  obtain ⟨x5, e5', h5⟩ := nt H4 e14 [some v, none] 5 rfl (by decide)
  refine q_asgF (us := [nth u 1, nth u 2, nth u 4, nth u 5]) (ea_cons e1' (ea_cons e2' (ea_cons e4' (ea_cons e5' ea_nil)))) (by show (4 : Nat) ≤ 100000; decide) fun pk H5 hpk e5 hk => ?_
  have e15 := e14.trans e5
  obtain ⟨x0, e0', h0⟩ := nt H5 e15 [some v, some (.ref pk)] 0 rfl (by decide)
  have a1 := ex_at e5 h1
  have a2 := ex_at e5 h2
  have a4 := ex_at e5 h4
  have a5 := ex_at e5 h5
  refine q_when (b := isM1 (nth u 0)) (et_test (ev_op e0' (ev_un ev_c ru_neg) (rv_m1 S.q h0))) (fun q5 H6 e6 => ?_) (fun q5 H6 e6 => ?_)
  · refine s_ret (v := .bl (nilU (nth u 1) && (nilU (nth u 2) && (nilU (nth u 4) && nilU (nth u 5))))) (fun G eg Q q => ⟨_, rfl, four_nils (Ex.refl G) fun p c1 c2 c3 c4 G' e7 hp hc => ?_⟩) fun H7 e7 => ?_
    · have ee := (e6.trans eg).trans e7
      refine ⟨pk, p, _, [c1, c2, c3, c4], [nilU (nth u 1), nilU (nth u 2), nilU (nth u 4), nilU (nth u 5)], rfl, rfl, Tu.st (Tu.ex ee hk), st_of hp, fun c hc' => st_of (hc c hc'), rfl,
        .cons (nc_at S.q (ex_at ee a1)) (.cons (nc_at S.q (ex_at ee a2)) (.cons (nc_at S.q (ex_at ee a4)) (.cons (nc_at S.q (ex_at ee a5)) .nil))), ?_⟩
      have ea : [nilU (nth u 1), nilU (nth u 2), nilU (nth u 4), nilU (nth u 5)].all id = (nilU (nth u 1) && (nilU (nth u 2) && (nilU (nth u 4) && nilU (nth u 5)))) := by
        simp
      rw [ea]
      exact q G' e7
    · have e4' : gTable u = (nilU (nth u 1) && (nilU (nth u 2) && (nilU (nth u 4) && nilU (nth u 5)))) := by rw [g0, if_pos q5]
      rw [← e4']
      exact k H7 ((e15.trans e6).trans e7)
  · have fk : Fine (keptU u) := by
      obtain ⟨us, rfl, hl⟩ := gTO_of q
      refine ⟨?_, ?_⟩
      · have w1 : wt (nth (.tup us) 1) ≤ 160000 := hs.s.nth 1
        have w2 : wt (nth (.tup us) 2) ≤ 160000 := hs.s.nth 2
        have w4 : wt (nth (.tup us) 4) ≤ 160000 := hs.s.nth 4
        have w5 : wt (nth (.tup us) 5) ≤ 160000 := hs.s.nth 5
        unfold keptU
        simp only [wt, wtL]
        omega
      · unfold keptU
        simp only [clean, cleanL]
        exact ⟨(fn 1 (by decide)).c, (fn 2 (by decide)).c, (fn 4 (by decide)).c, (fn 5 (by decide)).c, trivial⟩
    have hkw : pk ≠ w := fun z => by
      obtain ⟨o, ho⟩ := hw
      have := e14 _ _ ho
      rw [← z, hpk] at this
      cases this
    have ak : At w C H6 (.ref pk) (keptU u) := .tup (Tu.ex e6 hk) hkw (.cons (ex_at e6 a1) (.cons (ex_at e6 a2) (.cons (ex_at e6 a4) (.cons (ex_at e6 a5) .nil))))
    have a0 := ex_at e6 h0
    dsimp only [tNext]
    refine s_ret (ev_andV (ev_J (e0'.mono e6) a0 (fn 0 (by decide))) fun _ => ev_Jw (ev_var rfl) ak fk ⟨rfl, trivial, hs.s.nth 4, hs.s.nth 5⟩ (hw.imp fun o z => (e15.trans e6) _ _ z)) fun H7 e7 => ?_
    have e4' : gTable u = (gCnt (nth u 0) && gKept (keptU u)) := by rw [g0, if_neg (by rw [q5]; decide)]
    rw [← e4']
    exact k H7 ((e15.trans e6).trans e7)
end
end Hs
/-! the law's own flags -/
namespace Hs
open PySem PySem.Spec PyProof.Rows L2 Hu Evl
section
variable {P : Program} {wd : World} {K : PySem.W.Frag} {mg : Str → Option Value} {base : Heap} {C : Addr}
def gCount (u : U) : Bool := iv u fun i => decide (0 ≤ i)
theorem scCount : FnScope ["thing"] ["thing"] (defScope lCount) := ⟨rfl, rfl, rfl, by decide +kernel, rfl, by decide +kernel, by decide +kernel⟩
theorem jl_count {f : Addr} {fd : FuncData} (D : Df K mg "_law_count" lCount ["thing"] f fd) (S : Bs K mg C) : Jd P wd K mg base C 1 "_law_count" "thing" f fd gCount := by
  refine ⟨D.F.ok scCount lenJ (fun cdv A outer s H vs Q E hr h => ?_), D.g, D.F.kp, D.b⟩
  obtain ⟨v, u, w, rfl, hat, fi, k⟩ := h
  refine ⟨_, pss_one (ps_ret (pe_and (pe_isiX S (by rfl) (by rfl) S.B.int boot_int' (by decide) (pv 0) (by decide) (by decide)) (pe_and (pe_not (pe_isiX S (by rfl) (by rfl) S.B.boo boot_bool' (by decide) (pv 0) (by decide) (by decide)))
    (pe_one (pe_cmpR op_ge (pv 0) pe_int (nomark _)))))), ?_⟩
  refine s_ret (ev_andV (b := (!isT u "bool") && gCount u) (ev_isi (ev_var rfl) hat) fun q => ev_andV (b := gCount u) (ev_notV (ev_isi (ev_var rfl) hat)) fun q2 => ?_) fun H1 e => ?_
  · obtain ⟨i, rfl⟩ := isT_int (u := u) (by rw [q, q2]; rfl)
    cases at_int hat
    exact ev_op (ev_var rfl) ev_c rv_I0
  · rw [← Bool.and_assoc, gInt_is]
    unfold gCount
    rw [iv_and]
    exact k H1 e
def spLong (C : Addr) : Sp := fun vs H Q _ => ∃ (v : V) (u : U) (w : Addr), vs = [v, .int 2] ∧ At w C H v u ∧ ∀ H', Same H H' → Q (.bl (gPair u)) H'
theorem scLong : FnScope ["thing", "many"] ["thing", "many"] (defScope lLong) := ⟨rfl, rfl, rfl, by decide +kernel, rfl, by decide +kernel, by decide +kernel⟩
theorem ok_long {f : Addr} {fd : FuncData} (F : Fun K "_law_long" "_law_long" lLong f fd) (S : Bs K mg C) : FnOk P wd K mg base CX0 1 f fd ["thing", "many"] (spLong C) := by
  refine F.ok scLong (fun vs H Q E h => ?_) (fun cdv A outer s H vs Q E hr h => ?_)
  · obtain ⟨v, u, w, rfl, _⟩ := h
    rfl
  obtain ⟨v, u, w, rfl, hat, k⟩ := h
  refine ⟨_, pss_one (ps_ret (pe_and (pe_isiX S (by rfl) (by rfl) S.B.tup boot_tuple' (by decide) (pv 0) (by decide) (by decide)) (pe_one (pe_cmpR op_eq (pe_callB call_len_seq (by rfl) S.B.len PySem.boot_len (pa_cons (pv 0) pa_nil)) (pv 1) (nomark _))))), ?_⟩
  refine s_ret (ev_andV (b := gPair u) (ev_isi (ev_var rfl) hat) fun q => ?_) fun H1 e => ?_
  · obtain ⟨us, rfl⟩ := isT_tup q
    obtain ⟨a, xs, rfl, ha, _, hl⟩ := at_tup hat
    exact ev_is (ev_op (ev_lenTU (K := K) (ev_var rfl) ha hl) (ev_var rfl) (rv_eq rfl)) (by rw [show (2 : Int) = ((2 : Nat) : Int) from rfl, dec_eq]; rfl)
  · unfold gPair
    rw [tv_and]
    exact k H1 e
theorem spv_long {H : Hp} {v : V} {u : U} {w : Addr} (hat : At w C H v u) : SpV (spLong C) [v, .int 2] H (.bl (gPair u)) := fun H1 e Q q E => ⟨v, u, w, rfl, ex_at e hat, q⟩
/-! signs in texts that are written down -/
def lettersZ : Str := "abcdefghijklmnopqrstuvwxyz"
theorem letters_is : lettersZ.cps.toList = List.range' 97 26 := by decide +kernel
theorem in_letters (c : Nat) : decide (c ∈ lettersZ.cps.toList) = lowc c := by
  rw [letters_is]
  unfold lowc
  by_cases h : 97 ≤ c ∧ c ≤ 122
  · rw [decide_eq_true (List.mem_range'_1.mpr (by omega)), decide_eq_true h.1, decide_eq_true h.2]
    rfl
  · rw [decide_eq_false (fun q => h (by have := List.mem_range'_1.mp q; omega))]
    rw [← Bool.decide_and]
    exact (decide_eq_false h).symm
theorem signs_is : signsZ.cps.toList = List.range' 32 5 ++ List.range' 38 89 := by decide +kernel
theorem in_signs (c : Nat) : decide (c ∈ signsZ.cps.toList) = okS c := by
  rw [signs_is]
  have e : okS c = decide ((32 ≤ c ∧ c ≤ 126) ∧ c ≠ 37) := by
    unfold okS okc
    rw [← Bool.decide_and, ← Bool.decide_and]
  rw [e]
  by_cases h : (32 ≤ c ∧ c ≤ 126) ∧ c ≠ 37
  · rw [decide_eq_true h]
    refine decide_eq_true (List.mem_append.mpr ?_)
    by_cases h2 : c < 37
    · exact .inl (List.mem_range'_1.mpr (by omega))
    · exact .inr (List.mem_range'_1.mpr (by omega))
  · rw [decide_eq_false h]
    refine decide_eq_false fun q => h ?_
    rcases List.mem_append.mp q with q | q
    · have := List.mem_range'_1.mp q
      omega
    · have := List.mem_range'_1.mp q
      omega
abbrev rInZ : R2 := fun x y H Q => ∃ (c : Nat) (z : Str), x = .str ⟨#[c]⟩ ∧ y = .str z ∧ Q (.bl (decide (c ∈ z.cps.toList))) H
theorem rv_inZ {c : Nat} {z : Str} {H : Hp} : RV rInZ (.str ⟨#[c]⟩) (.str z) H (.bl (decide (c ∈ z.cps.toList))) := fun H1 _ Q q => ⟨c, z, rfl, rfl, q H1 (Ex.refl H1)⟩
theorem scNameFits : FnScope ["thing", "sign"] ["thing"] (defScope lNameFits) := ⟨rfl, rfl, rfl, by decide +kernel, rfl, by decide +kernel, by decide +kernel⟩
theorem len_tests {n lo hi : Nat} : (decide ((n : Int) < (lo : Int)) || decide ((hi : Int) < (n : Int))) = !(decide (lo ≤ n) && decide (n ≤ hi)) := by
  rw [not_le', not_le', Bool.not_and]
theorem jl_name {f : Addr} {fd : FuncData} (D : Df K mg "_law_name_fits" lNameFits ["thing"] f fd) (S : Bs K mg C) : Jd P wd K mg base C 2 "_law_name_fits" "thing" f fd gNam := by
  refine ⟨D.F.ok scNameFits lenJ (fun cdv A outer s H vs Q E hr h => ?_), D.g, D.F.kp, D.b⟩
  obtain ⟨v, u, w, rfl, hat, fi, k⟩ := h
  refine ⟨_, pss_cons (ps_if (PW.pt (pw_or (pt_not (pt_val (pe_isiX S (by rfl) (by rfl) S.B.str boot_str (by decide) (pv 0) (by decide) (by decide))))
      (pw_or (pt_cmpR op_lt (pe_callB call_len_str (by rfl) S.B.len PySem.boot_len (pa_cons (pv 0) pa_nil)) pe_int (nomark _))
      (pw_or1 (pt_cmpR op_gt (pe_callB call_len_str (by rfl) S.B.len PySem.boot_len (pa_cons (pv 0) pa_nil)) pe_int (nomark _))))))
      (pss_one (ps_ret pe_bl)) pss_nil)
    (pss_one (ps_ret (pe_callB (cr_all rfl) (by rfl) S.B.all boot_all' (pa_cons (pe_lc (own := [("sign", 1)]) (g := gName 1) (tt := tYes) rfl scNameFits.nd (pi_str (pv 0)) (blkOk_by (N := ["thing", "sign"]) (sc := defScope lNameFits) (by decide +kernel))
      (fun _ _ _ _ _ => pg_name (i := 1) scNameFits.nd rfl (Or.inl rfl)) (fun _ _ _ _ _ => pts_nil) (fun _ _ _ _ _ => pe_cmpR op_in_sign (pv 1) pe_str (by rfl))) pa_nil)))), ?_⟩
  refine s_if (b := !isT u "str" || !lenIn 1 8 u) (et_or (et_not (et_B (ev_isi (ev_var rfl) hat))) fun q => ?_) (fun q H1 e => ?_) (fun q H1 e => ?_)
  · rw [Bool.not_eq_false'] at q
    obtain ⟨z, rfl⟩ := isT_str q
    cases at_str hat
    refine et_is (et_or (et_test (ev_op (ev_lenS (ev_var rfl) fi.line) ev_c rv_I0)) fun _ => et_test (ev_op (ev_lenS (ev_var rfl) fi.line) ev_c rv_I0)) ?_
    exact len_tests (lo := 1) (hi := 8)
  · refine s_ret ev_c fun H2 e2 => ?_
    have e3 : gNam u = false := by
      cases u with
      | str z =>
        simp [isT, isS, tyU] at q
        show (lenIn 1 8 (.str z) && _) = false
        rw [q]
        rfl
      | _ => rfl
    rw [← e3]
    exact k H2 (e.trans e2)
  · rw [Bool.or_eq_false_iff, Bool.not_eq_false', Bool.not_eq_false'] at q
    obtain ⟨z, rfl⟩ := isT_str q.1
    cases at_str hat
    refine s_ret (ev_allS (g := lowc) (ev_var rfl) fi.str (fun _ => rfl) fun c _ => ev_is (ev_op (ev_var rfl) ev_c (rv_inZ (z := lettersZ))) (by rw [in_letters])) fun H2 e2 => ?_
    have e3 : gNam (.str z) = (TL.tl z).all lowc := by
      show (lenIn 1 8 (.str z) && _) = _
      rw [q.2]
      rfl
    rw [← e3]
    exact k H2 (e.trans e2)
theorem scHandFits : FnScope ["thing"] ["thing"] (defScope lHandFits) := ⟨rfl, rfl, rfl, by decide +kernel, rfl, by decide +kernel, by decide +kernel⟩
theorem gCount_int {u : U} (h : gCount u = true) : ∃ i : Int, u = .int i ∧ 0 ≤ i := by
  cases u with
  | int i => exact ⟨i, rfl, of_decide_eq_true h⟩
  | _ => cases h
theorem jl_hand {f f1 : Addr} {fd d1 : FuncData} (D : Df K mg "_law_hand_fits" lHandFits ["thing"] f fd) (S : Bs K mg C) (J : Jd P wd K mg base C 1 "_law_count" "thing" f1 d1 gCount) : Jd P wd K mg base C 2 "_law_hand_fits" "thing" f fd gHand := by
  refine ⟨D.F.ok scHandFits lenJ (fun cdv A outer s H vs Q E hr h => ?_), D.g, D.F.kp, D.b⟩
  obtain ⟨v, u, w, rfl, hat, fi, k⟩ := h
  refine ⟨_, pss_one (ps_ret (pe_and (pe_J J hr (by decide) (by rfl) pass0 (pv 0)) (pe_and (pe_cmpR op_le pe_int (pv 0) (nomark _)) (pe_one (pe_cmpR op_le (pv 0) pe_int (nomark _)))))), ?_⟩
  refine s_ret (ev_andV (b := gHand u) (ev_J (ev_var rfl) hat fi) fun q => ?_) fun H1 e => ?_
  · obtain ⟨i, rfl, _⟩ := gCount_int q
    cases at_int hat
    exact ev_andV (ev_op ev_c (ev_var rfl) rv_I0) fun _ => ev_op (ev_var rfl) ev_c rv_I0
  · have e2 : (gCount u && gHand u) = gHand u := by
      cases u with
      | int i =>
        show (decide (0 ≤ i) && (decide (1 ≤ i) && _)) = (decide (1 ≤ i) && _)
        by_cases h : 1 ≤ i
        · rw [decide_eq_true (show 0 ≤ i by omega), Bool.true_and]
        · rw [decide_eq_false h, Bool.false_and, Bool.and_false]
      | _ => rfl
    rw [e2]
    exact k H1 e
/-! ### texts -/
def gSF (lo hi : Nat) (u : U) : Bool := sv u fun z => (decide (lo ≤ z.length) && decide (z.length ≤ hi)) && (TL.tl z).all okS
def spSF (C : Addr) : Sp := fun vs H Q _ => ∃ (v : V) (u : U) (w : Addr) (lo hi : Nat), vs = [v, .int (lo : Int), .int (hi : Int)] ∧ At w C H v u ∧ Fine u ∧ ∀ H', Same H H' → Q (.bl (gSF lo hi u)) H'
theorem scSignsFit : FnScope ["thing", "least", "most", "sign"] ["thing", "least", "most"] (defScope lSignsFit) := ⟨rfl, rfl, rfl, by decide +kernel, rfl, by decide +kernel, by decide +kernel⟩
theorem ok_signsFit {f f1 : Addr} {fd d1 : FuncData} (F : Fun K "_law_signs_fit" "_law_signs_fit" lSignsFit f fd) (S : Bs K mg C) (DG : Df K mg "_law_signs" sSigns [] f1 d1) : FnOk P wd K mg base CX0 2 f fd ["thing", "least", "most"] (spSF C) := by
  have GG : FnOk P wd K mg base CX0 1 f1 d1 [] spSigns := ok_signs DG.F
  refine F.ok scSignsFit (fun vs H Q E h => ?_) (fun cdv A outer s H vs Q E hr h => ?_)
  · obtain ⟨v, u, w, lo, hi, rfl, _⟩ := h
    rfl
  obtain ⟨v, u, w, lo, hi, rfl, hat, fi, k⟩ := h
  refine ⟨_, pss_cons (ps_if (PW.pt (pw_or (pt_not (pt_val (pe_isiX S (by rfl) (by rfl) S.B.str boot_str (by decide) (pv 0) (by decide) (by decide))))
      (pw_or (pt_cmpR op_lt (pe_callB call_len_str (by rfl) S.B.len PySem.boot_len (pa_cons (pv 0) pa_nil)) (pv 1) (nomark _))
      (pw_or1 (pt_cmpR op_gt (pe_callB call_len_str (by rfl) S.B.len PySem.boot_len (pa_cons (pv 0) pa_nil)) (pv 2) (nomark _))))))
      (pss_one (ps_ret pe_bl)) pss_nil)
    (pss_one (ps_ret (pe_callB (cr_all rfl) (by rfl) S.B.all boot_all' (pa_cons (pe_lc (own := [("sign", 3)]) (g := gName 3) (tt := tYes) rfl scSignsFit.nd (pi_str (pv 0)) (blkOk_by (N := ["thing", "least", "most", "sign"]) (sc := defScope lSignsFit) (by decide +kernel))
      (fun _ _ _ _ _ => pg_name (i := 3) scSignsFit.nd rfl (Or.inl rfl)) (fun _ _ _ _ _ => pts_nil) (fun _ _ _ _ _ => pe_cmpR op_in_sign (pv 3) (pe_call0 GG hr (by rfl) DG.g DG.F.kp DG.b .nil pass0) (by rfl))) pa_nil)))), ?_⟩
  refine s_if (b := !isT u "str" || !lenIn lo hi u) (et_or (et_not (et_B (ev_isi (ev_var rfl) hat))) fun q => ?_) (fun q H1 e => ?_) (fun q H1 e => ?_)
  · rw [Bool.not_eq_false'] at q
    obtain ⟨z, rfl⟩ := isT_str q
    cases at_str hat
    exact et_is (et_or (et_test (ev_op (ev_lenS (ev_var rfl) fi.line) (ev_var rfl) rv_I0)) fun _ => et_test (ev_op (ev_lenS (ev_var rfl) fi.line) (ev_var rfl) rv_I0)) len_tests
  · refine s_ret ev_c fun H2 e2 => ?_
    have e3 : gSF lo hi u = false := by
      cases u with
      | str z =>
        have q' : (!true || !lenIn lo hi (.str z)) = true := q
        rw [Bool.not_true, Bool.false_or, Bool.not_eq_true'] at q'
        show (lenIn lo hi (.str z) && _) = false
        rw [q']
        rfl
      | _ => rfl
    rw [← e3]
    exact k H2 (e.trans e2)
  · rw [Bool.or_eq_false_iff, Bool.not_eq_false', Bool.not_eq_false'] at q
    obtain ⟨z, rfl⟩ := isT_str q.1
    cases at_str hat
    refine s_ret (ev_allS (g := okS) (ev_var rfl) fi.str (fun _ => rfl) fun c _ => ev_is (ev_op (ev_var rfl) (ev_call (sp := spSigns) ea_nil fun H1 e Q q E => ⟨rfl, q H1 (Ex.refl H1)⟩) (rv_inZ (z := signsZ))) (by rw [in_signs])) fun H2 e2 => ?_
    have e3 : gSF lo hi (.str z) = (TL.tl z).all okS := by
      show (lenIn lo hi (.str z) && _) = _
      rw [q.2]
      rfl
    rw [← e3]
    exact k H2 (e.trans e2)
theorem okS_okc {c : Nat} (h : okS c = true ∨ c = 10) : okS c = okc c := by
  rcases h with h | rfl
  · rw [h]
    unfold okS at h
    rw [Bool.and_eq_true] at h
    exact h.1.symm
  · rfl
theorem fine_okz {z : Str} (h : Fine (.str z)) : (TL.tl z).all okS = okz z := by
  have hc : ∀ c ∈ TL.tl z, okS c = true ∨ c = 10 := by simpa only [clean] using h.c
  unfold okz
  generalize TL.tl z = l at hc
  induction l with
  | nil => rfl
  | cons c l ih =>
    rw [List.all_cons, List.all_cons, ih fun b hb => hc b (List.mem_cons_of_mem _ hb), okS_okc (hc c List.mem_cons_self)]
theorem sf_text {u : U} (h : Fine u) : gSF 0 96 u = gText u := by
  cases u with
  | str z =>
    show ((decide (0 ≤ z.length) && decide (z.length ≤ 96)) && (TL.tl z).all okS) = (okz z && decide (z.length ≤ 96))
    rw [fine_okz h, decide_eq_true (Nat.zero_le _), Bool.true_and, Bool.and_comm]
  | _ => rfl
theorem sf_piece {u : U} (h : Fine u) : gSF 1 8 u = gPiece u := by
  cases u with
  | str z =>
    show ((decide (1 ≤ z.length) && decide (z.length ≤ 8)) && (TL.tl z).all okS) = (okz z && _)
    rw [fine_okz h, Bool.and_comm]
  | _ => rfl
theorem spv_SF {H : Hp} {v : V} {u : U} {w : Addr} {lo hi : Nat} (hat : At w C H v u) (fi : Fine u) : SpV (spSF C) [v, .int (lo : Int), .int (hi : Int)] H (.bl (gSF lo hi u)) := fun H1 e Q q E => ⟨v, u, w, lo, hi, rfl, ex_at e hat, fi, q⟩
end
end Hs
namespace Hs
open PySem PySem.Spec PyProof.Rows L2 Hu Evl
section
variable {P : Program} {wd : World} {K : PySem.W.Frag} {mg : Str → Option Value} {base : Heap} {C : Addr}
theorem scIdFits : FnScope ["thing"] ["thing"] (defScope lIdFits) := ⟨rfl, rfl, rfl, by decide +kernel, rfl, by decide +kernel, by decide +kernel⟩
/-- a def with the two parameters of _law_long, called with 2 -/
theorem ev_long {σ : L2.St} {H : Hp} {te : TE} {v : V} {u : U} {w : Addr} {E : XK} (h : Ev te σ H v) (hat : At w C H v u) : Ev (tCall (spLong C) [] E (tCons te (tCons (tC (.int 2)) tNil))) σ H (.bl (gPair u)) :=
  ev_call (ea_cons h (ea_cons ev_c ea_nil)) (spv_long hat)
theorem jl_id {f f1 f2 f3 : Addr} {fd d1 d2 d3 : FuncData} (D : Df K mg "_law_id_fits" lIdFits ["thing"] f fd) (S : Bs K mg C) (DL : Df K mg "_law_long" lLong ["thing", "many"] f1 d1) (JH : Jd P wd K mg base C 2 "_law_hand_fits" "thing" f2 d2 gHand) (JC : Jd P wd K mg base C 1 "_law_count" "thing" f3 d3 gCount) :
    Jd P wd K mg base C 3 "_law_id_fits" "thing" f fd gId := by
  have GL : FnOk P wd K mg base CX0 2 f1 d1 ["thing", "many"] (spLong C) := (ok_long DL.F S).mono (by decide)
  refine ⟨D.F.ok scIdFits lenJ (fun cdv A outer s H vs Q E hr h => ?_), D.g, D.F.kp, D.b⟩
  obtain ⟨v, u, w, rfl, hat, fi, k⟩ := h
  refine ⟨_, pss_one (ps_ret (pe_and (pe_call GL hr (by rfl) DL.g DL.F.kp DL.b .nil pass0 (pa_cons (pv 0) (pa_cons pe_int pa_nil))) (pe_and (pe_J JH hr (by decide) (by rfl) pass0 (pe_ix ix_tup (pv 0) pe_int (fun _ _ => rfl)))
    (pe_and (pe_J JC hr (by decide) (by rfl) pass0 (pe_ix ix_tup (pv 0) pe_int (fun _ _ => rfl))) (pe_one (pe_cmpR op_ge (pe_ix ix_tup (pv 0) pe_int (fun _ _ => rfl)) pe_int (nomark _))))))), ?_⟩
  refine s_ret (ev_andV (b := gId u) (ev_long (ev_var rfl) hat) fun q => ?_) fun H1 e => ?_
  · obtain ⟨a, b, rfl⟩ := gPair_two q
    obtain ⟨p, x, y, rfl, hp, ha, hb⟩ := pair_at hat
    refine ev_is (ev_andV (b := gFrom b) (ev_J (ev_ixT (j := 0) (ev_var rfl) hp rfl) ha fi.fst) fun _ => ev_is (ev_andV (b := gFrom b) (ev_J (g := gCount) (ev_ixT (j := 1) (ev_var rfl) hp rfl) hb fi.snd) fun q2 => ?_) ?_) rfl
    · obtain ⟨i, rfl, _⟩ := gCount_int q2
      cases at_int hb
      exact ev_op (ev_ixT (j := 1) (ev_var rfl) hp rfl) ev_c rv_I0
    · congr 1
      cases b with
      | int i =>
        show (decide (0 ≤ i) && decide (1 ≤ i)) = decide (1 ≤ i)
        by_cases h : 1 ≤ i
        · rw [decide_eq_true h, decide_eq_true (show 0 ≤ i by omega)]
          rfl
        · rw [decide_eq_false h, Bool.and_false]
      | _ => rfl
  · unfold gId
    rw [pair_and]
    exact k H1 e
theorem scStampFits : FnScope ["thing"] ["thing"] (defScope lStampFits) := ⟨rfl, rfl, rfl, by decide +kernel, rfl, by decide +kernel, by decide +kernel⟩
def cnt2 (u : U) : Bool := tv u fun us => two us fun a b => gCount a && gCount b
theorem cnt2_two {u : U} (h : cnt2 u = true) : ∃ i j : Int, u = .tup [.int i, .int j] ∧ 0 ≤ i ∧ 0 ≤ j := by
  cases u with
  | tup us =>
    match us, h with
    | [a, b], h =>
      have h1 : (gCount a && gCount b) = true := h
      rw [Bool.and_eq_true] at h1
      obtain ⟨i, rfl, hi⟩ := gCount_int h1.1
      obtain ⟨j, rfl, hj⟩ := gCount_int h1.2
      exact ⟨i, j, rfl, hi, hj⟩
  | _ => cases h
theorem stamp_cnt {u : U} (h : cnt2 u = false) : gStamp u = false := by
  cases u with
  | tup us =>
    match us, h with
    | [], _ => rfl
    | [a], _ => rfl
    | [a, b], h =>
      have h1 : (gCount a && gCount b) = false := h
      cases a <;> try rfl
      cases b <;> try rfl
      rename_i i j
      have h2 : (decide (0 ≤ i) && decide (0 ≤ j)) = false := h1
      show ((decide (i = 0) && decide (j = 0)) || (decide (1 ≤ i) && (decide (1 ≤ j) && decide (j ≤ 99)))) = false
      rw [← Bool.decide_and] at h2
      have h3 := of_decide_eq_false h2
      simp only [← Bool.decide_and, ← Bool.decide_or]
      exact decide_eq_false (by omega)
    | a :: b :: c :: r, _ => rfl
  | _ => rfl
theorem jl_stamp {f f1 f2 f3 : Addr} {fd d1 d2 d3 : FuncData} (D : Df K mg "_law_stamp_fits" lStampFits ["thing"] f fd) (S : Bs K mg C) (DL : Df K mg "_law_long" lLong ["thing", "many"] f1 d1) (JH : Jd P wd K mg base C 2 "_law_hand_fits" "thing" f2 d2 gHand) (JC : Jd P wd K mg base C 1 "_law_count" "thing" f3 d3 gCount) :
    Jd P wd K mg base C 3 "_law_stamp_fits" "thing" f fd gStamp := by
  have GL : FnOk P wd K mg base CX0 2 f1 d1 ["thing", "many"] (spLong C) := (ok_long DL.F S).mono (by decide)
  refine ⟨D.F.ok scStampFits lenJ (fun cdv A outer s H vs Q E hr h => ?_), D.g, D.F.kp, D.b⟩
  obtain ⟨v, u, w, rfl, hat, fi, k⟩ := h
  refine ⟨_, pss_cons (ps_if (PW.pt (pw_or (pt_not (pt_val (pe_call GL hr (by rfl) DL.g DL.F.kp DL.b .nil pass0 (pa_cons (pv 0) (pa_cons pe_int pa_nil))))) (pw_or (pt_not (pt_val (pe_J JC hr (by decide) (by rfl) pass0 (pe_ix ix_tup (pv 0) pe_int (fun _ _ => rfl)))))
      (pw_or1 (pt_not (pt_val (pe_J JC hr (by decide) (by rfl) pass0 (pe_ix ix_tup (pv 0) pe_int (fun _ _ => rfl)))))))))
      (pss_one (ps_ret pe_bl)) pss_nil)
    (pss_cons (ps_if (pt_cmpR op_eq (pe_ix ix_tup (pv 0) pe_int (fun _ _ => rfl)) pe_int (nomark _)) (pss_one (ps_ret (pe_cmpR op_eq (pe_ix ix_tup (pv 0) pe_int (fun _ _ => rfl)) pe_int (nomark _)))) pss_nil)
    (pss_one (ps_ret (pe_J JH hr (by decide) (by rfl) pass0 (pe_ix ix_tup (pv 0) pe_int (fun _ _ => rfl)))))), ?_⟩
  have e0 : (!gPair u || (!(tv u fun us => two us fun a b => gCount a) || !cnt2 u)) = !cnt2 u := by
    cases u with
    | tup us =>
      match us with
      | [] => rfl
      | [a] => rfl
      | [a, b] =>
        show (!true || (!gCount a || !(gCount a && gCount b))) = !(gCount a && gCount b)
        cases gCount a <;> cases gCount b <;> rfl
      | a :: b :: c :: r => simp [gPair, tv, two, cnt2]
    | _ => rfl
  refine s_if (b := !gPair u || (!(tv u fun us => two us fun a b => gCount a) || !cnt2 u)) (et_or (et_not (et_B (ev_long (ev_var rfl) hat))) fun q => ?_) (fun q H1 e => ?_) (fun q H1 e => ?_)
  · rw [Bool.not_eq_false'] at q
    obtain ⟨a, b, rfl⟩ := gPair_two q
    obtain ⟨p, x, y, rfl, hp, ha, hb⟩ := pair_at hat
    refine et_or (et_not (et_B (ev_J (g := gCount) (u := a) (ev_ixT (j := 0) (ev_var rfl) hp rfl) ha fi.fst))) fun q2 => et_is (et_not (et_B (ev_J (g := gCount) (u := b) (ev_ixT (j := 1) (ev_var rfl) hp rfl) hb fi.snd))) ?_
    have q3 : (!gCount a) = false := q2
    rw [Bool.not_eq_false'] at q3
    show (!gCount b) = !(gCount a && gCount b)
    rw [q3]
    rfl
  · refine s_ret ev_c fun H2 e2 => ?_
    rw [e0, Bool.not_eq_true'] at q
    rw [← stamp_cnt q]
    exact k H2 (e.trans e2)
  · rw [e0, Bool.not_eq_false'] at q
    obtain ⟨i, j, rfl, hi, hj⟩ := cnt2_two q
    obtain ⟨p, x, y, rfl, hp, ha, hb⟩ := pair_at (ex_at e hat)
    have hx := at_int ha
    have hy := at_int hb
    subst hx hy
    have gs : gStamp (.tup [.int i, .int j]) = ((decide (i = 0) && decide (j = 0)) || (decide (1 ≤ i) && (decide (1 ≤ j) && decide (j ≤ 99)))) := rfl
    have di : ∀ n : Int, decide (V.int n = V.int 0) = decide (n = 0) := fun n => by
      by_cases h : n = 0
      · rw [h]
        rfl
      · rw [decide_eq_false h]
        exact decide_eq_false fun z => h (V.int.inj z)
    refine s_if (b := decide (i = 0)) (et_test (ev_is (ev_op (ev_ixT (j := 0) (ev_var rfl) hp rfl) ev_c (rv_eq rfl)) (by rw [di]))) (fun q2 H2 e2 => ?_) (fun q2 H2 e2 => ?_)
    · refine s_ret (ev_is (ev_op (ev_ixT (j := 1) (ev_var rfl) (Tu.ex e2 hp) rfl) ev_c (rv_eq rfl)) (by rw [di])) fun H3 e3 => ?_
      have e4 : gStamp (.tup [.int i, .int j]) = decide (j = 0) := by
        have := of_decide_eq_true q2
        rw [gs, q2, decide_eq_false (show ¬ 1 ≤ i by omega), Bool.true_and, Bool.false_and, Bool.or_false]
      rw [← e4]
      exact k H3 ((e.trans e2).trans e3)
    · refine s_ret (ev_J (g := gHand) (u := .int j) (ev_ixT (j := 1) (ev_var rfl) (Tu.ex e2 hp) rfl) (ex_at e2 hb) fi.snd) fun H3 e3 => ?_
      have e4 : gStamp (.tup [.int i, .int j]) = gHand (.int j) := by
        have := of_decide_eq_false q2
        rw [gs, q2, decide_eq_true (show 1 ≤ i by omega), Bool.false_and, Bool.true_and, Bool.false_or]
        rfl
      rw [← e4]
      exact k H3 ((e.trans e2).trans e3)
theorem scRowFits : FnScope ["thing", "one"] ["thing"] (defScope lRowFits) := ⟨rfl, rfl, rfl, by decide +kernel, rfl, by decide +kernel, by decide +kernel⟩
def rowT (u : U) : Bool := tv u fun us => decide (us.length ≤ 12) && us.all gId
theorem jl_row {f f1 : Addr} {fd d1 : FuncData} (D : Df K mg "_law_row_fits" lRowFits ["thing"] f fd) (S : Bs K mg C) (J : Jd P wd K mg base C 3 "_law_id_fits" "thing" f1 d1 gId) :
    Jd P wd K mg base C 4 "_law_row_fits" "thing" f fd gRow := by
  refine ⟨D.F.ok scRowFits lenJ (fun cdv A outer s H vs Q E hr h => ?_), D.g, D.F.kp, D.b⟩
  obtain ⟨v, u, w, rfl, hat, fi, k⟩ := h
  refine ⟨_, pss_cons (ps_if (pt_cmpR op_isN1 (pv 0) pe_non (nomark _)) (pss_one (ps_ret pe_bl)) pss_nil)
    (pss_one (ps_ret (pe_and (pe_isiX S (by rfl) (by rfl) S.B.tup boot_tuple' (by decide) (pv 0) (by decide) (by decide)) (pe_and (pe_cmpR op_le (pe_callB call_len_seq (by rfl) S.B.len PySem.boot_len (pa_cons (pv 0) pa_nil)) pe_int (nomark _))
    (pe_one (pe_callB (cr_all rfl) (by rfl) S.B.all boot_all' (pa_cons (pe_lc (own := [("one", 1)]) (g := gName 1) (tt := tYes) rfl scRowFits.nd (pi_tup (pv 0)) (blkOk_by (N := ["thing", "one"]) (sc := defScope lRowFits) (by decide +kernel))
      (fun _ _ _ _ _ => pg_name (i := 1) scRowFits.nd rfl (Or.inl rfl)) (fun _ _ _ _ _ => pts_nil) (fun _ _ _ _ _ => pe_J J hr (by decide) (by rfl) pass0 (pv 1))) pa_nil))))))), ?_⟩
  refine s_if (b := isNon u) (et_test (ev_is (ev_isN (ev_var rfl)) (by rw [at_non hat]))) (fun q H1 e => ?_) (fun q H1 e => ?_)
  · refine s_ret ev_c fun H2 e2 => ?_
    have := k H2 (e.trans e2)
    cases u with
    | non => exact this
    | _ => cases q
  · have hat1 := ex_at e hat
    refine s_ret (ev_andV (b := rowT u) (ev_isi (ev_var rfl) hat1) fun q2 => ?_) fun H2 e2 => ?_
    · obtain ⟨us, rfl⟩ := isT_tup q2
      obtain ⟨a, xs, rfl, ha, _, hl⟩ := at_tup hat1
      refine ev_andV (a := decide (us.length ≤ 12)) (b := us.all gId) (ev_is (ev_op (ev_lenTU (K := K) (ev_var rfl) ha hl) ev_c rv_I0) (by rw [show (12 : Int) = ((12 : Nat) : Int) from rfl, dec_le])) fun _ => ?_
      exact ev_allT (g := gId) (ev_var rfl) ha fi.len hl (fun _ => rfl) fun x u hu hx => ev_J (ev_var rfl) hx (fi.tup u hu)
    · have e4 : (isT u "tuple" && rowT u) = gRow u := by
        unfold rowT
        rw [tv_and]
        cases u with
        | non => cases q
        | _ => rfl
      rw [e4]
      exact k H2 (e.trans e2)
theorem scMembersFit : FnScope ["thing", "one"] ["thing"] (defScope lMembersFit) := ⟨rfl, rfl, rfl, by decide +kernel, rfl, by decide +kernel, by decide +kernel⟩
theorem jl_members {f f1 f2 : Addr} {fd d1 d2 : FuncData} (D : Df K mg "_law_members_fit" lMembersFit ["thing"] f fd) (S : Bs K mg C) (J : Jd P wd K mg base C 1 "_law_count" "thing" f1 d1 gCount) (DA : Df K mg "_law_rising" lRising ["things"] f2 d2) :
    Jd P wd K mg base C 4 "_law_members_fit" "thing" f fd gMembers := by
  refine ⟨D.F.ok scMembersFit lenJ (fun cdv A outer s H vs Q E hr h => ?_), D.g, D.F.kp, D.b⟩
  obtain ⟨v, u, w, rfl, hat, fi, k⟩ := h
  have GA : FnOk P wd K mg base CX0 3 f2 d2 ["things"] spAsc := (ok_rising DA.F S.B).mono (by decide)
  refine ⟨_, pss_cons (ps_if (PW.pt (pw_or (pt_not (pt_val (pe_isiX S (by rfl) (by rfl) S.B.tup boot_tuple' (by decide) (pv 0) (by decide) (by decide))))
      (pw_or (pt_cmpR op_lt (pe_callB call_len_seq (by rfl) S.B.len PySem.boot_len (pa_cons (pv 0) pa_nil)) pe_int (nomark _))
      (pw_or1 (pt_cmpR op_gt (pe_callB call_len_seq (by rfl) S.B.len PySem.boot_len (pa_cons (pv 0) pa_nil)) pe_int (nomark _))))))
      (pss_one (ps_ret pe_bl)) pss_nil)
    (pss_one (ps_ret (pe_and (pe_callB (cr_all rfl) (by rfl) S.B.all boot_all' (pa_cons (pe_lc (own := [("one", 1)]) (g := gName 1) (tt := tYes) rfl scMembersFit.nd (pi_tup (pv 0)) (blkOk_by (N := ["thing", "one"]) (sc := defScope lMembersFit) (by decide +kernel))
      (fun _ _ _ _ _ => pg_name (i := 1) scMembersFit.nd rfl (Or.inl rfl)) (fun _ _ _ _ _ => pts_nil) (fun _ _ _ _ _ => pe_and (pe_J J hr (by decide) (by rfl) pass0 (pv 1)) (pe_one (pe_cmpR op_le (pv 1) pe_int (nomark _))))) pa_nil))
      (pe_one (pe_call GA hr (by rfl) DA.g DA.F.kp DA.b .nil pass0 (pa_cons (pv 0) pa_nil)))))), ?_⟩
  refine s_if (b := !isT u "tuple" || !lenB 1 9 u) (et_or (et_not (et_B (ev_isi (ev_var rfl) hat))) fun q => ?_) (fun q H1 e => ?_) (fun q H1 e => ?_)
  · rw [Bool.not_eq_false'] at q
    obtain ⟨us, rfl⟩ := isT_tup q
    obtain ⟨a, xs, rfl, ha, _, hl⟩ := at_tup hat
    exact et_is (et_or (et_test (ev_op (ev_lenTU (K := K) (ev_var rfl) ha hl) ev_c rv_I0)) fun _ => et_test (ev_op (ev_lenTU (K := K) (ev_var rfl) ha hl) ev_c rv_I0)) (len_tests (lo := 1) (hi := 9))
  · refine s_ret ev_c fun H2 e2 => ?_
    have e3 : gMembers u = false := by
      cases u with
      | tup us =>
        simp [isT, isS, tyU] at q
        show ((lenB 1 9 (.tup us) && _) && _) = false
        rw [q]
        rfl
      | _ => rfl
    rw [← e3]
    exact k H2 (e.trans e2)
  · rw [Bool.or_eq_false_iff, Bool.not_eq_false', Bool.not_eq_false'] at q
    obtain ⟨us, rfl⟩ := isT_tup q.1
    obtain ⟨a, xs, rfl, ha, _, hl⟩ := at_tup (ex_at e hat)
    have hb : (decide (1 ≤ us.length) && decide (us.length ≤ 9)) = true := q.2
    rw [Bool.and_eq_true] at hb
    have b1 : 1 ≤ us.length := of_decide_eq_true hb.1
    have b2 : us.length ≤ 9 := of_decide_eq_true hb.2
    refine s_ret (ev_andV (a := us.all gHome) (b := ascI (us.map intU)) (ev_allT (g := gHome) (ev_var rfl) ha fi.len hl (fun _ => rfl) fun x u hu hx => ev_is (ev_andV (b := gHome u) (ev_J (g := gCount) (u := u) (ev_var rfl) hx (fi.tup u hu)) fun q3 => ?_) ?_) fun q2 => ?_) fun H2 e2 => ?_
    · obtain ⟨i, rfl, hi⟩ := gCount_int q3
      cases at_int hx
      refine ev_is (ev_op (ev_var rfl) ev_c rv_I0) ?_
      show V.bl (decide (i ≤ 8)) = V.bl (decide (0 ≤ i) && decide (i < 9))
      rw [decide_eq_true hi, Bool.true_and]
      congr 1
      exact decide_eq_decide.mpr (by omega)
    · congr 1
      cases u with
      | int i =>
        show (decide (0 ≤ i) && (decide (0 ≤ i) && decide (i < 9))) = (decide (0 ≤ i) && decide (i < 9))
        rw [← Bool.and_assoc, Bool.and_self]
      | _ => rfl
    · have hx := ints_of hl (homes_ints q2)
      rw [hx] at ha
      exact ev_call (ea_cons (ev_var rfl) ea_nil) (spv_asc (ha.plain (isB_homes q2 b1)) (by rw [List.length_map]; exact b1) (by rw [List.length_map]; omega))
    · have e3 : gMembers (.tup us) = (us.all gHome && ascI (us.map intU)) := by
        show ((lenB 1 9 (.tup us) && us.all gHome) && _) = _
        rw [q.2]
        rfl
      rw [← e3]
      exact k H2 (e.trans e2)
/-! ### all pieces fit -/
def gPieces (u : U) : Bool := tv u fun us => decide (us.length ≤ 12) && us.all gPiece
end
end Hs
/-! the law's own judges of a table's parts -/
namespace Hs
open PySem PySem.Spec PyProof.Rows L2 Hu Evl

abbrev lHeadFits : Stmt := topS 124
abbrev lHeadsFit : Stmt := topS 123
abbrev lBlockFits : Stmt := topS 125
abbrev lBlocksFit : Stmt := topS 126
abbrev lLeaseFits : Stmt := topS 127
abbrev lLeasesFit : Stmt := topS 128
abbrev lVoteFits : Stmt := topS 129
abbrev lAheadFits : Stmt := topS 130
abbrev lTableFits : Stmt := topS 131
section
variable {P : Program} {wd : World} {K : PySem.W.Frag} {mg : Str → Option Value} {base : Heap} {C : Addr}
theorem ok_risG {ri r : R2} {f : Addr} {fd : FuncData} (F : Fun K "_law_rising" "_law_rising" lRising f fd) (B : Bt mg) (hix : ∀ X : Cx, X.K = K → IxR X ri) (hop : ∀ X : Cx, X.K = K → X.A.units + 64 < cLine → OpR X (compareOp .Lt) r) :
    FnOk P wd K mg base CX0 1 f fd ["things"] (spAscG K ri r) := by
  refine F.ok scRising (fun vs H Q E h => ?_) (fun cdv A outer s H vs Q E hr h => ?_)
  · obtain ⟨n, m, _, rfl, _⟩ := h
    rfl
  · obtain ⟨a, xs, lt, rfl, ha, hz, hi, hl, k⟩ := h
    refine ⟨_, pss_one (ps_ret (pe_callB (cr_all rfl) (by rfl) B.all boot_all' (pa_cons (pe_lc (own := [("k", 1)]) (g := gName 1) (tt := tYes) rfl scRising.nd (pi_range1 (by rfl) B.range (pa_cons (pe_op op_sub (pe_callB call_len_seq (by rfl) B.len PySem.boot_len (pa_cons (pv 0) pa_nil)) pe_int) pa_nil)) (blkOk_by (N := ["things", "k"]) (sc := defScope lRising) (by decide +kernel))
      (fun _ _ _ _ _ => pg_name (i := 1) scRising.nd rfl (Or.inl rfl)) (fun _ _ _ _ _ => pts_nil) (fun _ _ _ _ _ => pe_cmpR (hop _ rfl (room_hu hr)) (pe_ix (hix _ rfl) (pv 0) (pv 1) (fun _ _ => rfl)) (pe_ix (hix _ rfl) (pv 0) (pe_op op_add (pv 1) pe_int) (fun _ _ => rfl)) (nomark _))) pa_nil))), ?_⟩
    exact s_ret (ascG_reads rfl ha hz hi hl) k
theorem ok_risZ {f : Addr} {fd : FuncData} (F : Fun K "_law_rising" "_law_rising" lRising f fd) (B : Bt mg) : FnOk P wd K mg base CX0 1 f fd ["things"] (spAscG K (rIxL K) rLtS) :=
  ok_risG F B (fun X e => e ▸ ix_list) (fun X e _ => op_lt_str)
theorem ok_risK {f : Addr} {fd : FuncData} (F : Fun K "_law_rising" "_law_rising" lRising f fd) (B : Bt mg) : FnOk P wd K mg base CX0 1 f fd ["things"] (spAscG K (rIxL K) (Hk.rLtK K)) :=
  ok_risG F B (fun X e => e ▸ ix_list) (fun X e h => e ▸ Hk.op_ltK (by omega))
def spLongM (C : Addr) : Sp := fun vs H Q _ => ∃ (m : Nat) (v : V) (u : U) (w : Addr), vs = [v, .int (m : Int)] ∧ At w C H v u ∧ ∀ H', Same H H' → Q (.bl (gTO m u)) H'
theorem ok_longM {f : Addr} {fd : FuncData} (F : Fun K "_law_long" "_law_long" lLong f fd) (S : Bs K mg C) : FnOk P wd K mg base CX0 1 f fd ["thing", "many"] (spLongM C) := by
  refine F.ok scLong (fun vs H Q E h => ?_) (fun cdv A outer s H vs Q E hr h => ?_)
  · obtain ⟨m, v, u, w, rfl, _⟩ := h
    rfl
  · obtain ⟨m, v, u, w, rfl, hat, k⟩ := h
    refine ⟨_, pss_one (ps_ret (pe_and (pe_isiX S (by rfl) (by rfl) S.B.tup boot_tuple' (by decide) (pv 0) (by decide) (by decide)) (pe_one (pe_cmpR op_eq (pe_callB call_len_seq (by rfl) S.B.len PySem.boot_len (pa_cons (pv 0) pa_nil)) (pv 1) (nomark _))))), ?_⟩
    refine s_ret (ev_andV (b := gTO m u) (ev_isi (ev_var rfl) hat) fun q => ?_) fun H1 e => ?_
    · obtain ⟨us, rfl⟩ := isT_tup q
      obtain ⟨a, xs, rfl, ha, _, hl⟩ := at_tup hat
      have := ev_op (r := rEq) (σ := [some (V.ref a), some (V.int (m : Int))]) (ev_lenT (K := K) (te := tVar 0) (ev_var rfl) ha) (ev_var (i := 1) rfl) (rv_eq rfl)
      rw [dec_eq, AtL.length hl] at this
      exact this
    · unfold gTO
      rw [tv_and]
      exact k H1 e
structure JLo (P : Program) (wd : World) (K : PySem.W.Frag) (mg : Str → Option Value) (base : Heap) (C : Addr) (f : Addr) (fd : FuncData) : Prop where
  D : Df K mg "_law_long" lLong ["thing", "many"] f fd
  ok : FnOk P wd K mg base CX0 1 f fd ["thing", "many"] (spLongM C)
theorem ev_LM {σ : L2.St} {H : Hp} {tm te : TE} {E : XK} {m : Nat} {v : V} {u : U} {w : Addr} (h : Ev te σ H v) (hm : ∀ H', Ev tm σ H' (.int (m : Int))) (hat : At w C H v u) : Ev (tCall (spLongM C) [] E (tCons te (tCons tm tNil))) σ H (.bl (gTO m u)) :=
  ev_call (ea_cons h (ea_cons (hm _) ea_nil)) fun H1 e Q q E => ⟨m, v, u, w, rfl, ex_at e hat, q⟩
/-! heads -/
theorem scHeadF : FnScope ["thing"] ["thing"] (defScope lHeadFits) := ⟨rfl, rfl, rfl, by decide +kernel, rfl, by decide +kernel, by decide +kernel⟩
def g3 (u : U) : Prop := gTO 3 u = true
def gH3 (u : U) : Bool := gNam (nth u 0) && (gStamp (nth u 1) && gRow (nth u 2))
theorem jl_headF {f f2 f3 f4 : Addr} {fd d2 d3 d4 : FuncData} (D : Df K mg "_law_head_fits" lHeadFits ["thing"] f fd) (S : Bs K mg C) (JN : Jd P wd K mg base C 2 "_law_name_fits" "thing" f2 d2 gNam)
    (JS : Jd P wd K mg base C 3 "_law_stamp_fits" "thing" f3 d3 gStamp) (JR : Jd P wd K mg base C 4 "_law_row_fits" "thing" f4 d4 gRow) : Jw P wd K mg base C 5 "_law_head_fits" "thing" f fd g3 gH3 := by
  refine ⟨D.F.ok scHeadF lenJw (fun cdv A outer s H vs Q E hr h => ?_), D.g, D.F.kp, D.b⟩
  obtain ⟨v, u, w, rfl, hat, fi, q, hw, k⟩ := h
  have q : gTO 3 u = true := q
  refine ⟨_, pss_one (ps_ret (pe_and (pe_J JN hr (by decide) (by rfl) pass0 (pe_ix ix_tup (pv 0) pe_int (fun _ _ => rfl)))
    (pe_and (pe_J JS hr (by decide) (by rfl) pass0 (pe_ix ix_tup (pv 0) pe_int (fun _ _ => rfl))) (pe_one (pe_J JR hr (by decide) (by rfl) pass0 (pe_ix ix_tup (pv 0) pe_int (fun _ _ => rfl))))))), ?_⟩
  obtain ⟨x0, e0, h0⟩ := ev_nth (K := K) (σ := [some v]) (te := tVar 0) (k := 0) (ev_var rfl) hat q (by decide)
  obtain ⟨x1, e1, h1⟩ := ev_nth (K := K) (σ := [some v]) (te := tVar 0) (k := 1) (ev_var rfl) hat q (by decide)
  obtain ⟨x2, e2, h2⟩ := ev_nth (K := K) (σ := [some v]) (te := tVar 0) (k := 2) (ev_var rfl) hat q (by decide)
  exact s_ret (ev_andV (ev_J e0 h0 (fine_nth q (by decide) fi)) fun _ => ev_andV (ev_J e1 h1 (fine_nth q (by decide) fi)) fun _ => ev_J e2 h2 (fine_nth q (by decide) fi)) fun H1 e => k H1 e
theorem scHeadsF : FnScope ["thing", "one"] ["thing"] (defScope lHeadsFit) := ⟨rfl, rfl, rfl, by decide +kernel, rfl, by decide +kernel, by decide +kernel⟩
theorem jl_headsF {f f0 f1 f2 : Addr} {fd d0 d1 d2 : FuncData} (D : Df K mg "_law_heads_fit" lHeadsFit ["thing"] f fd) (S : Bs K mg C) (J : Jw P wd K mg base C 5 "_law_head_fits" "thing" f1 d1 g3 gH3) (JL : JLo P wd K mg base C f0 d0) (DA : Df K mg "_law_rising" lRising ["things"] f2 d2) :
    Jw P wd K mg base C 6 "_law_heads_fit" "thing" f fd Sm gHeads := by
  refine ⟨D.F.ok scHeadsF lenJw (fun cdv A outer s H vs Q E hr h => ?_), D.g, D.F.kp, D.b⟩
  obtain ⟨v, u, w, rfl, hat, fi, hs, hw, k⟩ := h
  have GA : FnOk P wd K mg base CX0 5 f2 d2 ["things"] (spAscG K (rIxL K) rLtS) := (ok_risZ DA.F S.B).mono (by decide)
  refine ⟨_, pss_cons (ps_if (PW.pt (pw_or (pt_not (pt_val (pe_isiX S (by rfl) (by rfl) S.B.tup boot_tuple' (by decide) (pv 0) (by decide) (by decide))))
      (pw_or1 (pt_not (pt_val (pe_callB (cr_all rfl) (by rfl) S.B.all boot_all' (pa_cons (pe_lc (own := [("one", 1)]) (g := gName 1) (tt := tYes) rfl scHeadsF.nd (pi_tup (pv 0)) (blkOk_by (N := ["thing", "one"]) (sc := defScope lHeadsFit) (by decide +kernel))
        (fun _ _ _ _ _ => pg_name (i := 1) scHeadsF.nd rfl (Or.inl rfl)) (fun _ _ _ _ _ => pts_nil) (fun _ _ _ _ _ => pe_and (pe_call (JL.ok.mono (by decide)) hr (by rfl) JL.D.g JL.D.F.kp JL.D.b .nil pass0 (pa_cons (pv 1) (pa_cons pe_int pa_nil))) (pe_one (pe_Jw J hr (by decide) (by rfl) pass0 (pv 1))))) pa_nil)))))))
      (pss_one (ps_ret pe_bl)) pss_nil)
    (pss_one (ps_ret (pe_call GA (hr.mono (by decide)) (by rfl) DA.g DA.F.kp DA.b .nil pass0 (pa_cons (pe_lc (own := [("one", 1)]) (g := gName 1) (tt := tYes) rfl scHeadsF.nd (pi_tup (pv 0)) (blkOk_by (N := ["thing", "one"]) (sc := defScope lHeadsFit) (by decide +kernel))
        (fun _ _ _ _ _ => pg_name (i := 1) scHeadsF.nd rfl (Or.inl rfl)) (fun _ _ _ _ _ => pts_nil) (fun _ _ _ _ _ => pe_ix (show IxR _ (rIxT K) from ix_tup) (pv 1) pe_int (fun _ _ => rfl))) pa_nil)))), ?_⟩
  refine s_if (b := !isT u "tuple" || !(tv u fun us => us.all gNamed)) (et_or (et_not (et_B (ev_isi (ev_var rfl) hat))) fun q => ?_) (fun q H1 e => ?_) (fun q H1 e => ?_)
  · rw [Bool.not_eq_false'] at q
    obtain ⟨us, rfl⟩ := isT_tup q
    obtain ⟨a, xs, rfl, ha, _, hl⟩ := at_tup hat
    exact et_not (et_B (ev_allT (g := gNamed) (ev_var rfl) ha fi.len hl (fun _ => rfl) fun x u hu hx => ev_andV (a := gTO 3 u) (b := gH3 u) (ev_LM (m := 3) (ev_var rfl) (fun _ => ev_c) hx) fun q => ev_Jw (ev_var rfl) hx (fi.tup u hu) q hw))
  · refine s_ret ev_c fun H2 e2 => ?_
    have e3 : gHeads u = false := by
      cases u with
      | tup us =>
        simp [isT, isS, tyU, tv] at q
        show (us.all gNamed && _) = false
        rw [Bool.and_eq_false_iff]
        exact .inl (by simpa using q)
      | _ => rfl
    rw [← e3]
    exact k H2 (e.trans e2)
  · rw [Bool.or_eq_false_iff, Bool.not_eq_false', Bool.not_eq_false'] at q
    obtain ⟨us, rfl⟩ := isT_tup q.1
    have q2 : us.all gNamed = true := q.2
    obtain ⟨a, xs, rfl, ha, _, hl⟩ := at_tup (ex_at e hat)
    have hlen := AtL.length hl
    dsimp only [tNext]
    refine s_ret (ev_callL1 (xs := (us.map fun u => strU (nth u 0)).map V.str) (z := .bl (ascZ (us.map fun u => strU (nth u 0)))) ?_ fun p H2 h2 e2 Q q E => asc_strL h2 (by rw [List.length_map]; exact Sm.len hs) Q q E) fun H2 e2 => ?_
    · rw [← range_names _ xs.length (by rw [List.length_map]; exact hlen)]
      exact el_mapX _ (ev_var rfl) ha (by rw [hlen]; exact Sm.len hs) (fun _ => rfl) fun i x hx => by
        obtain ⟨p, ys, rfl, hp, hy⟩ := names_at hl q2 i x hx
        exact ev_ixP (j := 0) (ev_var rfl) hp hy
    · have e3 : gHeads (.tup us) = ascZ (us.map fun u => strU (nth u 0)) := by
        show (us.all gNamed && _) = _
        rw [q2]
        rfl
      rw [← e3]
      exact k H2 (e.trans e2)
/-! blocks -/
theorem scBlkF : FnScope ["thing"] ["thing"] (defScope lBlockFits) := ⟨rfl, rfl, rfl, by decide +kernel, rfl, by decide +kernel, by decide +kernel⟩
theorem pair_TO (u : U) : gTO 2 u = gPair u := by
  cases u <;> rfl
theorem jl_blkF {f f1 f2 f3 f4 : Addr} {fd d1 d2 d3 d4 : FuncData} (D : Df K mg "_law_block_fits" lBlockFits ["thing"] f fd) (S : Bs K mg C) (DL : Df K mg "_law_long" lLong ["thing", "many"] f1 d1) (JI : Jd P wd K mg base C 3 "_law_id_fits" "thing" f2 d2 gId)
    (DS : Df K mg "_law_signs_fit" lSignsFit ["thing", "least", "most"] f3 d3) (DG : Df K mg "_law_signs" sSigns [] f4 d4) : Jd P wd K mg base C 5 "_law_block_fits" "thing" f fd gBlk := by
  have GL : FnOk P wd K mg base CX0 4 f1 d1 ["thing", "many"] (spLong C) := (ok_long DL.F S).mono (by decide)
  have GF : FnOk P wd K mg base CX0 4 f3 d3 ["thing", "least", "most"] (spSF C) := (ok_signsFit DS.F S DG).mono (by decide)
  refine ⟨D.F.ok scBlkF lenJ (fun cdv A outer s H vs Q E hr h => ?_), D.g, D.F.kp, D.b⟩
  obtain ⟨v, u, w, rfl, hat, fi, k⟩ := h
  refine ⟨_, pss_one (ps_ret (pe_and (pe_call GL hr (by rfl) DL.g DL.F.kp DL.b .nil pass0 (pa_cons (pv 0) (pa_cons pe_int pa_nil))) (pe_and (pe_J JI hr (by decide) (by rfl) pass0 (pe_ix ix_tup (pv 0) pe_int (fun _ _ => rfl))) (pe_one (pe_call GF hr (by rfl) DS.g DS.F.kp DS.b .nil pass0 (pa_cons (pe_ix ix_tup (pv 0) pe_int (fun _ _ => rfl)) (pa_cons pe_int (pa_cons pe_int pa_nil)))))))), ?_⟩
  refine s_ret (ev_andV (b := gId (nth u 0) && gPiece (nth u 1)) (ev_long (ev_var rfl) hat) fun q => ?_) fun H1 e => k H1 e
  obtain ⟨a, b, rfl⟩ := gPair_two q
  obtain ⟨p, x, y, rfl, hp, ha, hb⟩ := pair_at hat
  refine ev_andV (ev_J (ev_ixT (j := 0) (ev_var rfl) hp rfl) ha fi.fst) fun _ => ev_is (ev_call (ea_cons (ev_ixT (j := 1) (ev_var rfl) hp rfl) (ea_cons ev_c (ea_cons ev_c ea_nil))) (spv_SF (lo := 1) (hi := 8) hb fi.snd)) ?_
  rw [sf_piece fi.snd]
  rfl
theorem scBlocksF : FnScope ["thing", "one"] ["thing"] (defScope lBlocksFit) := ⟨rfl, rfl, rfl, by decide +kernel, rfl, by decide +kernel, by decide +kernel⟩
theorem jl_blocksF {f f1 f2 : Addr} {fd d1 d2 : FuncData} (D : Df K mg "_law_blocks_fit" lBlocksFit ["thing"] f fd) (S : Bs K mg C) (J : Jd P wd K mg base C 5 "_law_block_fits" "thing" f1 d1 gBlk) (DA : Df K mg "_law_rising" lRising ["things"] f2 d2) :
    Jw P wd K mg base C 6 "_law_blocks_fit" "thing" f fd Sm gBlocks := by
  refine ⟨D.F.ok scBlocksF lenJw (fun cdv A outer s H vs Q E hr h => ?_), D.g, D.F.kp, D.b⟩
  obtain ⟨v, u, w, rfl, hat, fi, hs, hw, k⟩ := h
  have GA : FnOk P wd K mg base CX0 5 f2 d2 ["things"] (spAscG K (rIxL K) (Hk.rLtK K)) := (ok_risK DA.F S.B).mono (by decide)
  refine ⟨_, pss_cons (ps_if (PW.pt (pw_or (pt_not (pt_val (pe_isiX S (by rfl) (by rfl) S.B.tup boot_tuple' (by decide) (pv 0) (by decide) (by decide))))
      (pw_or1 (pt_not (pt_val (pe_callB (cr_all rfl) (by rfl) S.B.all boot_all' (pa_cons (pe_lc (own := [("one", 1)]) (g := gName 1) (tt := tYes) rfl scBlocksF.nd (pi_tup (pv 0)) (blkOk_by (N := ["thing", "one"]) (sc := defScope lBlocksFit) (by decide +kernel))
        (fun _ _ _ _ _ => pg_name (i := 1) scBlocksF.nd rfl (Or.inl rfl)) (fun _ _ _ _ _ => pts_nil) (fun _ _ _ _ _ => pe_J J hr (by decide) (by rfl) pass0 (pv 1))) pa_nil)))))))
      (pss_one (ps_ret pe_bl)) pss_nil)
    (pss_one (ps_ret (pe_call GA (hr.mono (by decide)) (by rfl) DA.g DA.F.kp DA.b .nil pass0 (pa_cons (pe_lc (own := [("one", 1)]) (g := gName 1) (tt := tYes) rfl scBlocksF.nd (pi_tup (pv 0)) (blkOk_by (N := ["thing", "one"]) (sc := defScope lBlocksFit) (by decide +kernel))
        (fun _ _ _ _ _ => pg_name (i := 1) scBlocksF.nd rfl (Or.inl rfl)) (fun _ _ _ _ _ => pts_nil) (fun _ _ _ _ _ => pe_ix (show IxR _ (rIxT K) from ix_tup) (pv 1) pe_int (fun _ _ => rfl))) pa_nil)))), ?_⟩
  refine s_if (b := !isT u "tuple" || !(tv u fun us => us.all gBlk)) (et_or (et_not (et_B (ev_isi (ev_var rfl) hat))) fun q => ?_) (fun q H1 e => ?_) (fun q H1 e => ?_)
  · rw [Bool.not_eq_false'] at q
    obtain ⟨us, rfl⟩ := isT_tup q
    obtain ⟨a, xs, rfl, ha, _, hl⟩ := at_tup hat
    exact et_not (et_B (ev_allT (g := gBlk) (ev_var rfl) ha fi.len hl (fun _ => rfl) fun x u hu hx => ev_J (ev_var rfl) hx (fi.tup u hu)))
  · refine s_ret ev_c fun H2 e2 => ?_
    have e3 : gBlocks u = false := by
      cases u with
      | tup us =>
        simp [isT, isS, tyU, tv] at q
        show (us.all gBlk && _) = false
        rw [Bool.and_eq_false_iff]
        exact .inl (by simpa using q)
      | _ => rfl
    rw [← e3]
    exact k H2 (e.trans e2)
  · rw [Bool.or_eq_false_iff, Bool.not_eq_false', Bool.not_eq_false'] at q
    obtain ⟨us, rfl⟩ := isT_tup q.1
    have q2 : us.all gBlk = true := q.2
    obtain ⟨a, xs, rfl, ha, _, hl⟩ := at_tup (ex_at e hat)
    dsimp only [tNext]
    refine s_ret (v := .bl (ascK (us.map fun u => keysU (nth u 0)))) (ev_callX (R := fun ys G => TkL G ys (us.map fun u => keysU (nth u 0))) (lc_newK (K := K) (tl := tVar 0) (j := 1) (vs := [1]) (σ := [some (.ref a), none]) (f := fun u => keysU (nth u 0)) (ev_var rfl) ha (Sm.len hs) hl (fun _ => rfl) (fun x u G hu eg hx Q q => ?_)) fun p ys H3 h3 ht Q q E =>
      asc_tkL h3 ht (kin_blks q2) (by rw [List.length_map]; exact Sm.len hs) Q q E) fun H2 e2 => ?_
    · obtain ⟨i, j, b, rfl⟩ := gBlk_is (List.all_eq_true.mp q2 u hu)
      obtain ⟨p, x1, y1, rfl, hp, hx1, _⟩ := pair_at hx
      obtain ⟨p1, rfl, hp1⟩ := two_ints hx1
      exact ev_ixT (K := K) (j := 0) (te := tVar 1) (ev_var rfl) hp rfl G (Ex.refl G) Q fun H5 e5 => q p1 H5 e5 (e5 _ _ hp1)
    · have e3 : gBlocks (.tup us) = ascK (us.map fun u => keysU (nth u 0)) := by
        show (us.all gBlk && _) = _
        rw [q2]
        rfl
      rw [← e3]
      exact k H2 (e.trans e2)
/-! leases -/
theorem scLeaseF : FnScope ["thing"] ["thing"] (defScope lLeaseFits) := ⟨rfl, rfl, rfl, by decide +kernel, rfl, by decide +kernel, by decide +kernel⟩
theorem jl_leaseF {f f1 f2 f3 f4 : Addr} {fd d1 d2 d3 d4 : FuncData} (D : Df K mg "_law_lease_fits" lLeaseFits ["thing"] f fd) (S : Bs K mg C) (JT : JLo P wd K mg base C f1 d1) (JN : Jd P wd K mg base C 2 "_law_name_fits" "thing" f2 d2 gNam)
    (JH : Jd P wd K mg base C 2 "_law_hand_fits" "thing" f3 d3 gHand) (JC : Jd P wd K mg base C 1 "_law_count" "thing" f4 d4 gCnt) : Jd P wd K mg base C 3 "_law_lease_fits" "thing" f fd gLease := by
  refine ⟨D.F.ok scLeaseF lenJ (fun cdv A outer s H vs Q E hr h => ?_), D.g, D.F.kp, D.b⟩
  obtain ⟨v, u, w, rfl, hat, fi, k⟩ := h
  refine ⟨_, pss_cons (ps_if (PW.pt (pw_or (pt_not (pt_val (pe_call JT.ok (hr.mono (by decide)) (by rfl) JT.D.g JT.D.F.kp JT.D.b .nil pass0 (pa_cons (pv 0) (pa_cons pe_int pa_nil)))))
      (pw_or (pt_not (pt_val (pe_J JN hr (by decide) (by rfl) pass0 (pe_ix ix_tup (pv 0) pe_int (fun _ _ => rfl))))) (pw_or1 (pt_not (pt_val (pe_J JH hr (by decide) (by rfl) pass0 (pe_ix ix_tup (pv 0) pe_int (fun _ _ => rfl)))))))))
      (pss_one (ps_ret pe_bl)) pss_nil)
    (pss_one (ps_ret (pe_and (pe_J JC hr (by decide) (by rfl) pass0 (pe_ix ix_tup (pv 0) pe_int (fun _ _ => rfl))) (pe_one (pe_J JC hr (by decide) (by rfl) pass0 (pe_ix ix_tup (pv 0) pe_int (fun _ _ => rfl))))))), ?_⟩
  refine s_if (b := !gTO 4 u || (!gNam (nth u 0) || !gHand (nth u 1))) (et_or (et_not (et_B (ev_LM (m := 4) (ev_var rfl) (fun _ => ev_c) hat))) fun q => ?_) (fun q H1 e => ?_) (fun q H1 e => ?_)
  · rw [Bool.not_eq_false'] at q
    obtain ⟨x0, e0, h0⟩ := ev_nth (K := K) (σ := [some v]) (te := tVar 0) (k := 0) (ev_var rfl) hat q (by decide)
    obtain ⟨x1, e1, h1⟩ := ev_nth (K := K) (σ := [some v]) (te := tVar 0) (k := 1) (ev_var rfl) hat q (by decide)
    exact et_or (et_not (et_B (ev_J e0 h0 (fine_nth q (by decide) fi)))) fun _ => et_not (et_B (ev_J e1 h1 (fine_nth q (by decide) fi)))
  · refine s_ret ev_c fun H2 e2 => ?_
    have e4 : gLease u = false := by
      unfold gLease
      revert q
      cases gTO 4 u <;> cases gNam (nth u 0) <;> cases gHand (nth u 1) <;> simp
    rw [← e4]
    exact k H2 (e.trans e2)
  · have q' : gTO 4 u = true ∧ gNam (nth u 0) = true ∧ gHand (nth u 1) = true := by
      revert q
      cases gTO 4 u <;> cases gNam (nth u 0) <;> cases gHand (nth u 1) <;> simp
    obtain ⟨q1, q2, q3⟩ := q'
    have hat1 := ex_at e hat
    obtain ⟨x2, e2, h2⟩ := ev_nth (K := K) (σ := [some v]) (te := tVar 0) (k := 2) (ev_var rfl) hat1 q1 (by decide)
    obtain ⟨x3, e3, h3⟩ := ev_nth (K := K) (σ := [some v]) (te := tVar 0) (k := 3) (ev_var rfl) hat1 q1 (by decide)
    dsimp only [tNext]
    refine s_ret (ev_andV (ev_J e2 h2 (fine_nth q1 (by decide) fi)) fun _ => ev_J e3 h3 (fine_nth q1 (by decide) fi)) fun H2 e2 => ?_
    have e4 : gLease u = (gCnt (nth u 2) && gCnt (nth u 3)) := by
      unfold gLease
      rw [q1, q2, q3]
      rfl
    rw [← e4]
    exact k H2 (e.trans e2)
theorem scLeasesF : FnScope ["thing", "one"] ["thing"] (defScope lLeasesFit) := ⟨rfl, rfl, rfl, by decide +kernel, rfl, by decide +kernel, by decide +kernel⟩
theorem jl_leasesF {f f1 f2 : Addr} {fd d1 d2 : FuncData} (D : Df K mg "_law_leases_fit" lLeasesFit ["thing"] f fd) (S : Bs K mg C) (J : Jd P wd K mg base C 3 "_law_lease_fits" "thing" f1 d1 gLease) (DA : Df K mg "_law_rising" lRising ["things"] f2 d2) :
    Jw P wd K mg base C 6 "_law_leases_fit" "thing" f fd Sm gLeases := by
  refine ⟨D.F.ok scLeasesF lenJw (fun cdv A outer s H vs Q E hr h => ?_), D.g, D.F.kp, D.b⟩
  obtain ⟨v, u, w, rfl, hat, fi, hs, hw, k⟩ := h
  have GA : FnOk P wd K mg base CX0 5 f2 d2 ["things"] (spAscG K (rIxL K) (Hk.rLtK K)) := (ok_risK DA.F S.B).mono (by decide)
  refine ⟨_, pss_cons (ps_if (PW.pt (pw_or (pt_not (pt_val (pe_isiX S (by rfl) (by rfl) S.B.tup boot_tuple' (by decide) (pv 0) (by decide) (by decide))))
      (pw_or1 (pt_not (pt_val (pe_callB (cr_all rfl) (by rfl) S.B.all boot_all' (pa_cons (pe_lc (own := [("one", 1)]) (g := gName 1) (tt := tYes) rfl scLeasesF.nd (pi_tup (pv 0)) (blkOk_by (N := ["thing", "one"]) (sc := defScope lLeasesFit) (by decide +kernel))
        (fun _ _ _ _ _ => pg_name (i := 1) scLeasesF.nd rfl (Or.inl rfl)) (fun _ _ _ _ _ => pts_nil) (fun _ _ _ _ _ => pe_J J hr (by decide) (by rfl) pass0 (pv 1))) pa_nil)))))))
      (pss_one (ps_ret pe_bl)) pss_nil)
    (pss_one (ps_ret (pe_call GA (hr.mono (by decide)) (by rfl) DA.g DA.F.kp DA.b .nil pass0 (pa_cons (pe_lc (own := [("one", 1)]) (g := gName 1) (tt := tYes) rfl scLeasesF.nd (pi_tup (pv 0)) (blkOk_by (N := ["thing", "one"]) (sc := defScope lLeasesFit) (by decide +kernel))
        (fun _ _ _ _ _ => pg_name (i := 1) scLeasesF.nd rfl (Or.inl rfl)) (fun _ _ _ _ _ => pts_nil) (fun _ _ _ _ _ => pe_slice (show SlR _ (rSlA K) from sl_tupA) (pv 1) po_none (po_some pe_int))) pa_nil)))), ?_⟩
  refine s_if (b := !isT u "tuple" || !(tv u fun us => us.all gLease)) (et_or (et_not (et_B (ev_isi (ev_var rfl) hat))) fun q => ?_) (fun q H1 e => ?_) (fun q H1 e => ?_)
  · rw [Bool.not_eq_false'] at q
    obtain ⟨us, rfl⟩ := isT_tup q
    obtain ⟨a, xs, rfl, ha, _, hl⟩ := at_tup hat
    exact et_not (et_B (ev_allT (g := gLease) (ev_var rfl) ha fi.len hl (fun _ => rfl) fun x u hu hx => ev_J (ev_var rfl) hx (fi.tup u hu)))
  · refine s_ret ev_c fun H2 e2 => ?_
    have e3 : gLeases u = false := by
      cases u with
      | tup us =>
        simp [isT, isS, tyU, tv] at q
        show (us.all gLease && _) = false
        rw [Bool.and_eq_false_iff]
        exact .inl (by simpa using q)
      | _ => rfl
    rw [← e3]
    exact k H2 (e.trans e2)
  · rw [Bool.or_eq_false_iff, Bool.not_eq_false', Bool.not_eq_false'] at q
    obtain ⟨us, rfl⟩ := isT_tup q.1
    have q2 : us.all gLease = true := q.2
    obtain ⟨a, xs, rfl, ha, _, hl⟩ := at_tup (ex_at e hat)
    dsimp only [tNext]
    refine s_ret (v := .bl (ascK (us.map keyL))) (ev_callX (R := fun ys G => TkL G ys (us.map keyL)) (lc_newK (K := K) (tl := tVar 0) (j := 1) (vs := [1]) (σ := [some (.ref a), none]) (f := keyL) (ev_var rfl) ha (Sm.len hs) hl (fun _ => rfl) (fun x u G hu eg hx Q q => ?_)) fun p ys H3 h3 ht Q q E =>
      asc_tkL h3 ht (kin_leases q2) (by rw [List.length_map]; exact Sm.len hs) Q q E) fun H2 e2 => ?_
    · obtain ⟨z, i, t, n, rfl⟩ := gLease_is (List.all_eq_true.mp q2 u hu)
      obtain ⟨p, rfl, hp⟩ := four_at hx
      refine ⟨_, rfl, 2, rfl, p, _, rfl, st_of hp, fun h => absurd h.2 (show ¬ (HT.sIx 4 4 (some 2) = 4) from by decide), fun _ p' hp' => q p' _ (Ex.new hp') ?_⟩
      rw [upd_same]
      rfl
    · have e3 : gLeases (.tup us) = ascK (us.map keyL) := by
        show (us.all gLease && _) = _
        rw [q2]
        rfl
      rw [← e3]
      exact k H2 (e.trans e2)
end
end Hs
/-! the law's own judge of a table -/
namespace Hs
open PySem PySem.Spec PyProof.Rows L2 Hu Evl
section
variable {P : Program} {wd : World} {K : PySem.W.Frag} {mg : Str → Option Value} {base : Heap} {C : Addr}
def gV2 (u : U) : Bool := tv u fun us => two us fun a b => gStamp a && gMembers b
theorem scVoteF : FnScope ["thing"] ["thing"] (defScope lVoteFits) := ⟨rfl, rfl, rfl, by decide +kernel, rfl, by decide +kernel, by decide +kernel⟩
theorem jl_voteF {f f1 f2 f3 : Addr} {fd d1 d2 d3 : FuncData} (D : Df K mg "_law_vote_fits" lVoteFits ["thing"] f fd) (S : Bs K mg C) (DL : Df K mg "_law_long" lLong ["thing", "many"] f1 d1) (JS : Jd P wd K mg base C 3 "_law_stamp_fits" "thing" f2 d2 gStamp)
    (JM : Jd P wd K mg base C 4 "_law_members_fit" "thing" f3 d3 gMembers) : Jd P wd K mg base C 5 "_law_vote_fits" "thing" f fd gV2 := by
  have GL : FnOk P wd K mg base CX0 4 f1 d1 ["thing", "many"] (spLong C) := (ok_long DL.F S).mono (by decide)
  refine ⟨D.F.ok scVoteF lenJ (fun cdv A outer s H vs Q E hr h => ?_), D.g, D.F.kp, D.b⟩
  obtain ⟨v, u, w, rfl, hat, fi, k⟩ := h
  refine ⟨_, pss_one (ps_ret (pe_and (pe_call GL hr (by rfl) DL.g DL.F.kp DL.b .nil pass0 (pa_cons (pv 0) (pa_cons pe_int pa_nil))) (pe_and (pe_J JS hr (by decide) (by rfl) pass0 (pe_ix ix_tup (pv 0) pe_int (fun _ _ => rfl))) (pe_one (pe_J JM hr (by decide) (by rfl) pass0 (pe_ix ix_tup (pv 0) pe_int (fun _ _ => rfl))))))), ?_⟩
  refine s_ret (ev_andV (b := gV2 u) (ev_long (ev_var rfl) hat) fun q => ?_) fun H1 e => ?_
  · obtain ⟨a, b, rfl⟩ := gPair_two q
    obtain ⟨p, x, y, rfl, hp, ha, hb⟩ := pair_at hat
    exact ev_andV (ev_J (ev_ixT (j := 0) (ev_var rfl) hp rfl) ha fi.fst) fun _ => ev_J (ev_ixT (j := 1) (ev_var rfl) hp rfl) hb fi.snd
  · unfold gV2
    rw [pair_and]
    exact k H1 e
theorem scAheadF : FnScope ["thing"] ["thing"] (defScope lAheadFits) := ⟨rfl, rfl, rfl, by decide +kernel, rfl, by decide +kernel, by decide +kernel⟩
theorem nil_TO (u : U) : gTO 0 u = nilU u := by
  cases u with
  | tup us => cases us <;> rfl
  | _ => rfl
theorem jl_aheadF {f f1 f3 : Addr} {fd d1 d3 : FuncData} (D : Df K mg "_law_ahead_fits" lAheadFits ["thing"] f fd) (S : Bs K mg C) (JL : JLo P wd K mg base C f1 d1) (JM : Jd P wd K mg base C 4 "_law_members_fit" "thing" f3 d3 gMembers) : Jd P wd K mg base C 5 "_law_ahead_fits" "thing" f fd gAhead := by
  refine ⟨D.F.ok scAheadF lenJ (fun cdv A outer s H vs Q E hr h => ?_), D.g, D.F.kp, D.b⟩
  obtain ⟨v, u, w, rfl, hat, fi, k⟩ := h
  refine ⟨_, pss_one (ps_ret (pe_or (pe_call (JL.ok.mono (by decide)) hr (by rfl) JL.D.g JL.D.F.kp JL.D.b .nil pass0 (pa_cons (pv 0) (pa_cons pe_int pa_nil))) (pe_one (pe_J JM hr (by decide) (by rfl) pass0 (pv 0))))), ?_⟩
  refine s_ret (ev_orV (a := gTO 0 u) (ev_LM (m := 0) (ev_var rfl) (fun _ => ev_c) hat) fun _ => ev_J (ev_var rfl) hat fi) fun H1 e => ?_
  rw [nil_TO]
  exact k H1 e
theorem scTableF : FnScope ["thing"] ["thing"] (defScope lTableFits) := ⟨rfl, rfl, rfl, by decide +kernel, rfl, by decide +kernel, by decide +kernel⟩
def lenU (u : U) : Nat := match u with | .tup us => us.length | _ => 0
def gTabL (u : U) : Bool := (gTO 10 u && (gAhead (nth u 1) && gAhead (nth u 2))) && ((gCount (nth u 3) && (gHeads (nth u 4) && gBlocks (nth u 5))) && ((gLeases (nth u 6) && gStamp (nth u 7)) && ((isNon (nth u 8) || gV2 (nth u 8)) && ((isNon (nth u 9) || gMembers (nth u 9)) &&
  (if gCount (nth u 0) = true then decide (0 < lenU (nth u 1)) else isI (-1) (nth u 0) && decide (lenU (nth u 1) + lenU (nth u 2) + lenU (nth u 4) + lenU (nth u 5) = 0))))))
theorem len_nil {u : U} (h : ∃ us, u = .tup us) : decide (lenU u = 0) = nilU u := by
  obtain ⟨us, rfl⟩ := h
  cases us <;> rfl
theorem mem_long {u : U} (h : gMembers u = true) : 0 < lenU u := by
  cases u with
  | tup us =>
    unfold gMembers tv at h
    simp only [Bool.and_eq_true, decide_eq_true_eq] at h
    exact h.1.1.1
  | _ => cases h
theorem ahead_tup {u : U} (h : gAhead u = true) : ∃ us, u = .tup us := by
  cases u with
  | tup us => exact ⟨us, rfl⟩
  | _ => cases h
theorem heads_tup {u : U} (h : gHeads u = true) : ∃ us, u = .tup us := by
  cases u with
  | tup us => exact ⟨us, rfl⟩
  | _ => cases h
theorem blocks_tup {u : U} (h : gBlocks u = true) : ∃ us, u = .tup us := by
  cases u with
  | tup us => exact ⟨us, rfl⟩
  | _ => cases h
theorem nil_is {u : U} (h : nilU u = true) : u = .tup [] := by
  cases u with
  | tup us =>
    cases us with
    | nil => rfl
    | cons a r => cases h
  | _ => cases h
theorem gTabL_eq (u : U) : gTabL u = gTable u := by
  have v8 : gVote (nth u 8) = (isNon (nth u 8) || gV2 (nth u 8)) := rfl
  have c : ∀ x, gCount x = gCnt x := fun x => rfl
  unfold gTabL gTable
  rw [v8]
  simp only [c]
  have kp : gKept (keptU u) = (gMembers (nth u 1) && (gAhead (nth u 2) && (gHeads (nth u 4) && gBlocks (nth u 5)))) := rfl
  rw [kp]
  cases hT : gTO 10 u with
  | false => rfl
  | true =>
    cases h3 : gCnt (nth u 3) with
    | false => cases gAhead (nth u 1) <;> cases gAhead (nth u 2) <;> rfl
    | true =>
      cases h6 : gLeases (nth u 6) with
      | false => cases gAhead (nth u 1) <;> cases gAhead (nth u 2) <;> cases gHeads (nth u 4) <;> cases gBlocks (nth u 5) <;> rfl
      | true =>
        cases h7 : gStamp (nth u 7) with
        | false => cases gAhead (nth u 1) <;> cases gAhead (nth u 2) <;> cases gHeads (nth u 4) <;> cases gBlocks (nth u 5) <;> rfl
        | true =>
          cases h8 : (isNon (nth u 8) || gV2 (nth u 8)) with
          | false => cases gAhead (nth u 1) <;> cases gAhead (nth u 2) <;> cases gHeads (nth u 4) <;> cases gBlocks (nth u 5) <;> rfl
          | true =>
            cases h9 : (isNon (nth u 9) || gMembers (nth u 9)) with
            | false => cases gAhead (nth u 1) <;> cases gAhead (nth u 2) <;> cases gHeads (nth u 4) <;> cases gBlocks (nth u 5) <;> rfl
            | true =>
              simp only [Bool.true_and]
              have n1 : isM1 (nth u 0) = isI (-1) (nth u 0) := rfl
              rw [n1]
              by_cases m : isI (-1) (nth u 0) = true
              · have nc : gCnt (nth u 0) = false := by
                  cases hu : nth u 0 with
                  | int i =>
                    rw [hu] at m
                    have : i = -1 := by simpa [isI] using m
                    rw [this]
                    rfl
                  | _ => rfl
                rw [nc, if_pos m, if_neg (by decide), m, Bool.true_and]
                cases a1 : nilU (nth u 1) with
                | false =>
                  cases b1 : gAhead (nth u 1) with
                  | false => rfl
                  | true =>
                    obtain ⟨us, e⟩ := ahead_tup b1
                    have z := len_nil ⟨us, e⟩
                    rw [a1] at z
                    have z' := of_decide_eq_false z
                    have : decide (lenU (nth u 1) + lenU (nth u 2) + lenU (nth u 4) + lenU (nth u 5) = 0) = false := decide_eq_false (by omega)
                    rw [this]
                    cases gAhead (nth u 2) <;> cases gHeads (nth u 4) <;> cases gBlocks (nth u 5) <;> rfl
                | true =>
                  rw [nil_is a1]
                  cases a2 : nilU (nth u 2) with
                  | false =>
                    cases b1 : gAhead (nth u 2) with
                    | false => rfl
                    | true =>
                      obtain ⟨us, e⟩ := ahead_tup b1
                      have z := len_nil ⟨us, e⟩
                      rw [a2] at z
                      have z' := of_decide_eq_false z
                      have : decide (lenU (.tup []) + lenU (nth u 2) + lenU (nth u 4) + lenU (nth u 5) = 0) = false := decide_eq_false (by omega)
                      rw [this]
                      cases gHeads (nth u 4) <;> cases gBlocks (nth u 5) <;> rfl
                  | true =>
                    rw [nil_is a2]
                    cases a4 : nilU (nth u 4) with
                    | false =>
                      cases b1 : gHeads (nth u 4) with
                      | false => rfl
                      | true =>
                        obtain ⟨us, e⟩ := heads_tup b1
                        have z := len_nil ⟨us, e⟩
                        rw [a4] at z
                        have z' := of_decide_eq_false z
                        have : decide (lenU (.tup []) + lenU (.tup []) + lenU (nth u 4) + lenU (nth u 5) = 0) = false := decide_eq_false (by omega)
                        rw [this]
                        cases gBlocks (nth u 5) <;> rfl
                    | true =>
                      rw [nil_is a4]
                      cases a5 : nilU (nth u 5) with
                      | false =>
                        cases b1 : gBlocks (nth u 5) with
                        | false => rfl
                        | true =>
                          obtain ⟨us, e⟩ := blocks_tup b1
                          have z := len_nil ⟨us, e⟩
                          rw [a5] at z
                          have z' := of_decide_eq_false z
                          have : decide (lenU (.tup []) + lenU (.tup []) + lenU (.tup []) + lenU (nth u 5) = 0) = false := decide_eq_false (by omega)
                          rw [this]
                          rfl
                      | true =>
                        rw [nil_is a5]
                        decide +kernel
              · rw [if_neg m]
                have m' : isI (-1) (nth u 0) = false := by simpa using m
                rw [m']
                cases h0 : gCnt (nth u 0) with
                | false =>
                  rw [if_neg (by decide)]
                  simp
                | true =>
                  rw [if_pos rfl]
                  cases hm : gMembers (nth u 1) with
                  | true =>
                    have l1 := mem_long hm
                    have a1 : gAhead (nth u 1) = true := by
                      unfold gAhead
                      rw [hm, Bool.or_true]
                    rw [a1, decide_eq_true l1]
                    cases gAhead (nth u 2) <;> cases gHeads (nth u 4) <;> cases gBlocks (nth u 5) <;> rfl
                  | false =>
                    have a1 : gAhead (nth u 1) = nilU (nth u 1) := by
                      unfold gAhead
                      rw [hm, Bool.or_false]
                    rw [a1]
                    cases a1' : nilU (nth u 1) with
                    | false => rfl
                    | true =>
                      rw [nil_is a1']
                      cases gAhead (nth u 2) <;> cases gHeads (nth u 4) <;> cases gBlocks (nth u 5) <;> rfl
end
end Hs
namespace Hs
open PySem PySem.Spec PyProof.Rows L2 Hu Evl
section
variable {X : Cx}
/-- a flag or an integer, != an integer -/
def rNeI : R2 := fun x y H Q => ∃ i, y = .int i ∧ ((∃ j, x = .int j ∧ Q (.bl (!(j == i))) H) ∨ ∃ b, x = .bl b ∧ Q (.bl (!((if b then (1 : Int) else 0) == i))) H)
theorem op_neI : OpR X (compareOp .NotEq) rNeI := by
  intro pins s σ H x y v u Q I rx ry h
  obtain ⟨i, rfl, h⟩ := h
  obtain ⟨ty, rfl⟩ := ry
  rcases h with ⟨j, rfl, q⟩ | ⟨b, rfl, q⟩
  · obtain ⟨t, rfl⟩ := rx
    exact SeqAt.RcNeAt.int_int j t i ty X.prog X.w X.xe _ ⟨.bl _, H, I, rfl, q⟩
  · cases rx
    exact SeqAt.RcNeAt.bool_int b i ty X.prog X.w X.xe _ ⟨.bl _, H, I, rfl, q⟩
end
section
variable {P : Program} {wd : World} {K : PySem.W.Frag} {mg : Str → Option Value} {base : Heap} {C : Addr}
theorem jl_tableF {f f1 f2 f3 f4 f5 f6 f7 f8 f9 : Addr} {fd d1 d2 d3 d4 d5 d6 d7 d8 d9 : FuncData} (D : Df K mg "_law_table_fits" lTableFits ["thing"] f fd) (S : Bs K mg C) (JL : JLo P wd K mg base C f1 d1) (JA : Jd P wd K mg base C 5 "_law_ahead_fits" "thing" f2 d2 gAhead)
    (JC : Jd P wd K mg base C 1 "_law_count" "thing" f3 d3 gCount) (JH : Jw P wd K mg base C 6 "_law_heads_fit" "thing" f4 d4 Sm gHeads) (JB : Jw P wd K mg base C 6 "_law_blocks_fit" "thing" f5 d5 Sm gBlocks) (JLs : Jw P wd K mg base C 6 "_law_leases_fit" "thing" f6 d6 Sm gLeases)
    (JS : Jd P wd K mg base C 3 "_law_stamp_fits" "thing" f7 d7 gStamp) (JV : Jd P wd K mg base C 5 "_law_vote_fits" "thing" f8 d8 gV2) (JM : Jd P wd K mg base C 4 "_law_members_fit" "thing" f9 d9 gMembers) : Jw P wd K mg base C 8 "_law_table_fits" "thing" f fd OkT gTable := by
  refine ⟨D.F.ok scTableF lenJw (fun cdv A outer s H vs Q E hr h => ?_), D.g, D.F.kp, D.b⟩
  obtain ⟨v, u, w, rfl, hat, fi, hs, hw, k⟩ := h
  rw [← gTabL_eq] at k
  refine ⟨_, pss_cons (ps_if (PW.pt (pw_or (pt_not (pt_val (pe_call (JL.ok.mono (by decide)) hr (by rfl) JL.D.g JL.D.F.kp JL.D.b .nil pass0 (pa_cons (pv 0) (pa_cons pe_int pa_nil))))) (pw_or (pt_not (pt_val (pe_J JA hr (by decide) (by rfl) pass0 (pe_ix ix_tup (pv 0) pe_int (fun _ _ => rfl))))) (pw_or1 (pt_not (pt_val (pe_J JA hr (by decide) (by rfl) pass0 (pe_ix ix_tup (pv 0) pe_int (fun _ _ => rfl))))))))) (pss_one (ps_ret pe_bl)) pss_nil)
    (pss_cons (ps_if (PW.pt (pw_or (pt_not (pt_val (pe_J JC hr (by decide) (by rfl) pass0 (pe_ix ix_tup (pv 0) pe_int (fun _ _ => rfl))))) (pw_or (pt_not (pt_val (pe_Jw JH hr (by decide) (by rfl) pass0 (pe_ix ix_tup (pv 0) pe_int (fun _ _ => rfl))))) (pw_or1 (pt_not (pt_val (pe_Jw JB hr (by decide) (by rfl) pass0 (pe_ix ix_tup (pv 0) pe_int (fun _ _ => rfl))))))))) (pss_one (ps_ret pe_bl)) pss_nil)
    (pss_cons (ps_if (PW.pt (pw_or (pt_not (pt_val (pe_Jw JLs hr (by decide) (by rfl) pass0 (pe_ix ix_tup (pv 0) pe_int (fun _ _ => rfl))))) (pw_or1 (pt_not (pt_val (pe_J JS hr (by decide) (by rfl) pass0 (pe_ix ix_tup (pv 0) pe_int (fun _ _ => rfl)))))))) (pss_one (ps_ret pe_bl)) pss_nil)
    (pss_cons (ps_if (PW.pt (pw_and (pt_cmpR op_notN1 (pe_ix ix_tup (pv 0) pe_int (fun _ _ => rfl)) pe_non (nomark _)) (pw_and1 (pt_not (pt_val (pe_J JV hr (by decide) (by rfl) pass0 (pe_ix ix_tup (pv 0) pe_int (fun _ _ => rfl)))))))) (pss_one (ps_ret pe_bl)) pss_nil)
    (pss_cons (ps_if (PW.pt (pw_and (pt_cmpR op_notN1 (pe_ix ix_tup (pv 0) pe_int (fun _ _ => rfl)) pe_non (nomark _)) (pw_and1 (pt_not (pt_val (pe_J JM hr (by decide) (by rfl) pass0 (pe_ix ix_tup (pv 0) pe_int (fun _ _ => rfl)))))))) (pss_one (ps_ret pe_bl)) pss_nil)
    (pss_cons (ps_if (pt_val (pe_J JC hr (by decide) (by rfl) pass0 (pe_ix ix_tup (pv 0) pe_int (fun _ _ => rfl)))) (pss_one (ps_ret (pe_cmpR op_gt (pe_callB call_len_seq (by rfl) S.B.len PySem.boot_len (pa_cons (pe_ix ix_tup (pv 0) pe_int (fun _ _ => rfl)) pa_nil)) pe_int (nomark _)))) pss_nil)
    (pss_cons (ps_if (PW.pt (pw_or (pt_not (pt_val (pe_isiX S (by rfl) (by rfl) S.B.int boot_int' (by decide) (pe_ix ix_tup (pv 0) pe_int (fun _ _ => rfl)) (by decide) (by decide)))) (pw_or1 (pt_cmpR op_neI (pe_ix ix_tup (pv 0) pe_int (fun _ _ => rfl)) (pe_un un_neg pe_int) (nomark _))))) (pss_one (ps_ret pe_bl)) pss_nil)
    (pss_one (ps_ret (pe_cmpR op_eq (pe_op op_add (pe_op op_add (pe_op op_add (pe_callB call_len_seq (by rfl) S.B.len PySem.boot_len (pa_cons (pe_ix ix_tup (pv 0) pe_int (fun _ _ => rfl)) pa_nil)) (pe_callB call_len_seq (by rfl) S.B.len PySem.boot_len (pa_cons (pe_ix ix_tup (pv 0) pe_int (fun _ _ => rfl)) pa_nil))) (pe_callB call_len_seq (by rfl) S.B.len PySem.boot_len (pa_cons (pe_ix ix_tup (pv 0) pe_int (fun _ _ => rfl)) pa_nil))) (pe_callB call_len_seq (by rfl) S.B.len PySem.boot_len (pa_cons (pe_ix ix_tup (pv 0) pe_int (fun _ _ => rfl)) pa_nil))) pe_int (nomark _)))))))))), ?_⟩
  have nt : gTO 10 u = true → ∀ (G : Hp), Ex H G → ∀ (i : Nat), i < 10 → ∃ x, Ev (tOp (rIxT K) (tVar 0) (tC (.int (i : Int)))) [some v] G x ∧ At w C G x (nth u i) := fun q G eg i hi => ev_nth (ev_var rfl) (ex_at eg hat) q hi
  have bad : gTabL u = false → ∀ (G G' : Hp), Ex H G → Ex G G' → Q (.bl false) G' := fun z G G' e1 e2 => by
    rw [← z]
    exact k G' (e1.trans e2)
  have lenEv : ∀ {G : Hp} {x : V} {te : TE} {n : U} {τ : L2.St}, Ev te τ G x → At w C G x n → (∃ us, n = .tup us) → Ev (tCB (rLenQ K) (tCons te tNil)) τ G (.int (lenU n : Int)) := fun {G x te n τ} he ha hn => by
    obtain ⟨us, rfl⟩ := hn
    obtain ⟨p, xs, rfl, hp, _, hl⟩ := at_tup ha
    exact ev_lenTU he hp hl
  refine q_when (b := !gTO 10 u || (!gAhead (nth u 1) || !gAhead (nth u 2))) (et_or (et_not (et_B (ev_LM (m := 10) (ev_var rfl) (fun _ => ev_c) hat))) fun q => ?_) (fun q H1 e => ?_) (fun q H1 e1 => ?_)
  · rw [Bool.not_eq_false'] at q
    obtain ⟨x1, e1, h1⟩ := nt q H (Ex.refl H) 1 (by decide)
    obtain ⟨x2, e2, h2⟩ := nt q H (Ex.refl H) 2 (by decide)
    exact et_or (et_not (et_B (ev_J e1 h1 (fine_nth q (by decide) fi)))) fun _ => et_not (et_B (ev_J e2 h2 (fine_nth q (by decide) fi)))
  · refine s_ret ev_c fun H2 e2 => bad ?_ H1 H2 e e2
    unfold gTabL
    revert q
    cases gTO 10 u <;> cases gAhead (nth u 1) <;> cases gAhead (nth u 2) <;> simp
  obtain ⟨qT, qa1, qa2⟩ : gTO 10 u = true ∧ gAhead (nth u 1) = true ∧ gAhead (nth u 2) = true := by
    revert q
    cases gTO 10 u <;> cases gAhead (nth u 1) <;> cases gAhead (nth u 2) <;> simp
  have fn : ∀ i, i < 10 → Fine (nth u i) := fun i hi => fine_nth qT hi fi
  have hwG : ∀ {G : Hp}, Ex H G → ∃ o, G w = some o := fun {G} e => hw.imp fun o z => e _ _ z
  obtain ⟨x3, e3, h3⟩ := nt qT H1 e1 3 (by decide)
  obtain ⟨x4, e4, h4⟩ := nt qT H1 e1 4 (by decide)
  obtain ⟨x5, e5, h5⟩ := nt qT H1 e1 5 (by decide)
  refine q_when (b := !gCount (nth u 3) || (!gHeads (nth u 4) || !gBlocks (nth u 5))) (et_or (et_not (et_B (ev_J e3 h3 (fn 3 (by decide))))) fun _ => et_or (et_not (et_B (ev_Jw e4 h4 (fn 4 (by decide)) (hs.s.nth 4) (hwG e1)))) fun _ => et_not (et_B (ev_Jw e5 h5 (fn 5 (by decide)) (hs.s.nth 5) (hwG e1)))) (fun q H2 e => ?_) (fun q H2 e2' => ?_)
  · refine s_ret ev_c fun H3 e3 => bad ?_ H2 H3 (e1.trans e) e3
    unfold gTabL
    revert q
    cases gCount (nth u 3) <;> cases gHeads (nth u 4) <;> cases gBlocks (nth u 5) <;> simp
  obtain ⟨q3, q4, q5⟩ : gCount (nth u 3) = true ∧ gHeads (nth u 4) = true ∧ gBlocks (nth u 5) = true := by
    revert q
    cases gCount (nth u 3) <;> cases gHeads (nth u 4) <;> cases gBlocks (nth u 5) <;> simp
  have e2 := e1.trans e2'
  obtain ⟨x6, e6, h6⟩ := nt qT H2 e2 6 (by decide)
  obtain ⟨x7, e7, h7⟩ := nt qT H2 e2 7 (by decide)
  refine q_when (b := !gLeases (nth u 6) || !gStamp (nth u 7)) (et_or (et_not (et_B (ev_Jw e6 h6 (fn 6 (by decide)) (hs.s.nth 6) (hwG e2)))) fun _ => et_not (et_B (ev_J e7 h7 (fn 7 (by decide))))) (fun q H3 e => ?_) (fun q H3 e3' => ?_)
  · refine s_ret ev_c fun H4 e4 => bad ?_ H3 H4 (e2.trans e) e4
    unfold gTabL
    revert q
    cases gLeases (nth u 6) <;> cases gStamp (nth u 7) <;> simp
  obtain ⟨q6, q7⟩ : gLeases (nth u 6) = true ∧ gStamp (nth u 7) = true := by
    revert q
    cases gLeases (nth u 6) <;> cases gStamp (nth u 7) <;> simp
  have e3s := e2.trans e3'
  obtain ⟨x8, e8, h8⟩ := nt qT H3 e3s 8 (by decide)
  refine q_when (b := !isNon (nth u 8) && !gV2 (nth u 8)) (et_and (et_test (ev_is (ev_op e8 ev_c fun G eg Q q => ⟨rfl, q G (Ex.refl G)⟩) (by rw [at_non h8]))) fun _ => et_not (et_B (ev_J e8 h8 (fn 8 (by decide))))) (fun q H4 e => ?_) (fun q H4 e4' => ?_)
  · refine s_ret ev_c fun H5 e5 => bad ?_ H4 H5 (e3s.trans e) e5
    unfold gTabL
    revert q
    cases isNon (nth u 8) <;> cases gV2 (nth u 8) <;> simp
  have q8 : (isNon (nth u 8) || gV2 (nth u 8)) = true := by
    revert q
    cases isNon (nth u 8) <;> cases gV2 (nth u 8) <;> simp
  have e4s := e3s.trans e4'
  obtain ⟨x9, e9, h9⟩ := nt qT H4 e4s 9 (by decide)
  refine q_when (b := !isNon (nth u 9) && !gMembers (nth u 9)) (et_and (et_test (ev_is (ev_op e9 ev_c fun G eg Q q => ⟨rfl, q G (Ex.refl G)⟩) (by rw [at_non h9]))) fun _ => et_not (et_B (ev_J e9 h9 (fn 9 (by decide))))) (fun q H5 e => ?_) (fun q H5 e5' => ?_)
  · refine s_ret ev_c fun H6 e6 => bad ?_ H5 H6 (e4s.trans e) e6
    unfold gTabL
    revert q
    cases isNon (nth u 9) <;> cases gMembers (nth u 9) <;> simp
  have q9 : (isNon (nth u 9) || gMembers (nth u 9)) = true := by
    revert q
    cases isNon (nth u 9) <;> cases gMembers (nth u 9) <;> simp
  have e5s := e4s.trans e5'
  have g0 : gTabL u = (if gCount (nth u 0) = true then decide (0 < lenU (nth u 1)) else isI (-1) (nth u 0) && decide (lenU (nth u 1) + lenU (nth u 2) + lenU (nth u 4) + lenU (nth u 5) = 0)) := by
    unfold gTabL
    rw [qT, qa1, qa2, q3, q4, q5, q6, q7, q8, q9]
    rfl
  obtain ⟨x0, e0, h0⟩ := nt qT H5 e5s 0 (by decide)
  obtain ⟨x1, ev1, h1⟩ := nt qT H5 e5s 1 (by decide)
  refine q_when (b := gCount (nth u 0)) (et_B (ev_J e0 h0 (fn 0 (by decide)))) (fun q H6 e6' => ?_) (fun q H6 e6' => ?_)
  · rw [if_pos q] at g0
    rw [g0] at k
    refine s_ret (ev_is (ev_op (lenEv (ev1.mono e6') (ex_at e6' h1) (ahead_tup qa1)) ev_c rv_I0) ?_) fun H7 e7 => k H7 ((e5s.trans e6').trans e7)
    congr 1
    exact decide_eq_decide.mpr (by omega)
  rw [if_neg (by rw [q]; decide)] at g0
  have e6s := e5s.trans e6'
  obtain ⟨y0, ev0, k0⟩ := nt qT H6 e6s 0 (by decide)
  have cases0 : isT (nth u 0) "int" = true → (∃ j, nth u 0 = .int j) ∨ ∃ b, nth u 0 = .bl b := fun z => by
    cases hu : nth u 0 with
    | int j => exact .inl ⟨j, rfl⟩
    | bl b => exact .inr ⟨b, rfl⟩
    | non => rw [hu] at z; exact absurd z (by simp [isT, isS, tyU])
    | str s => rw [hu] at z; exact absurd z (by simp [isT, isS, tyU])
    | tup us => rw [hu] at z; exact absurd z (by simp [isT, isS, tyU])
    | lst us => rw [hu] at z; exact absurd z (by simp [isT, isS, tyU])
    | dct us => rw [hu] at z; exact absurd z (by simp [isT, isS, tyU])
    | exc => rw [hu] at z; exact absurd z (by simp [isT, isS, tyU])
  have isI0 : isI (-1) (nth u 0) = true → isT (nth u 0) "int" = true := fun z => by
    cases hu : nth u 0 with
    | int j => simp [isT, isS, tyU]
    | bl b => simp [isT, isS, tyU]
    | non => rw [hu] at z; cases z
    | str s => rw [hu] at z; cases z
    | tup us => rw [hu] at z; cases z
    | lst us => rw [hu] at z; cases z
    | dct us => rw [hu] at z; cases z
    | exc => rw [hu] at z; cases z
  refine q_when (b := !isT (nth u 0) "int" || !isI (-1) (nth u 0)) (et_or (et_not (et_B (ev_isi ev0 k0))) fun q2 => et_test (ev_op ev0 (ev_un ev_c ru_neg) fun G eg Q f => ?_)) (fun q2 H7 e => ?_) (fun q2 H7 e7' => ?_)
  · rw [Bool.not_eq_false'] at q2
    rcases cases0 q2 with ⟨j, hu⟩ | ⟨b, hu⟩
    · rw [hu] at k0 f
      rw [at_int k0]
      exact ⟨_, rfl, .inl ⟨j, rfl, f G (Ex.refl G)⟩⟩
    · rw [hu] at k0 f
      cases k0
      exact ⟨_, rfl, .inr ⟨b, rfl, f G (Ex.refl G)⟩⟩
  · refine s_ret ev_c fun H8 e8 => bad ?_ H7 H8 (e6s.trans e) e8
    rw [g0]
    have : isI (-1) (nth u 0) = false := by
      cases z : isI (-1) (nth u 0) with
      | false => rfl
      | true =>
        rw [isI0 z, z] at q2
        cases q2
    rw [this]
    rfl
  have qI : isI (-1) (nth u 0) = true := by
    revert q2
    cases isT (nth u 0) "int" <;> cases isI (-1) (nth u 0) <;> simp
  rw [qI, Bool.true_and] at g0
  rw [g0] at k
  have e7s := e6s.trans e7'
  obtain ⟨z1, f1, a1⟩ := nt qT H7 e7s 1 (by decide)
  obtain ⟨z2, f2, a2⟩ := nt qT H7 e7s 2 (by decide)
  obtain ⟨z4, f4, a4⟩ := nt qT H7 e7s 4 (by decide)
  obtain ⟨z5, f5, a5⟩ := nt qT H7 e7s 5 (by decide)
  refine s_ret (ev_is (ev_op (ev_op (ev_op (ev_op (lenEv f1 a1 (ahead_tup qa1)) (lenEv f2 a2 (ahead_tup qa2)) rv_I0) (lenEv f4 a4 (heads_tup q4)) rv_I0) (lenEv f5 a5 (blocks_tup q5)) rv_I0) ev_c (rv_eq rfl)) ?_) fun H8 e8 => k H8 (e7s.trans e8)
  congr 1
  refine decide_eq_decide.mpr ⟨fun h => ?_, fun h => ?_⟩
  · have := V.int.inj h
    omega
  · congr 1
    omega
end
end Hs
/-! dicts with pairs of a text and an integer as keys, sorted -/
namespace Hk
open PySem PySem.Spec PyProof.Rows L2
abbrev SI : Type := Str × Int
/-- by the text, then by the integer -/
def ltSI (p q : SI) : Bool := if p.1 = q.1 then decide (p.2 < q.2) else decide (p.1.cps.toList < q.1.cps.toList)
theorem str_ext {x y : Str} (h : x.cps.toList = y.cps.toList) : x = y := by
  cases x with
  | mk a => cases y with
    | mk b =>
      congr 1
      exact Array.toList_inj.mp h
theorem ltSI_iff {p q : SI} : ltSI p q = true ↔ p.1.cps.toList < q.1.cps.toList ∨ (p.1 = q.1 ∧ p.2 < q.2) := by
  unfold ltSI
  by_cases e : p.1 = q.1
  · rw [if_pos e, decide_eq_true_eq]
    constructor
    · exact fun h => .inr ⟨e, h⟩
    · rintro (h | h)
      · rw [e] at h
        exact absurd h (List.lt_irrefl _)
      · exact h.2
  · rw [if_neg e, decide_eq_true_eq]
    constructor
    · exact fun h => .inl h
    · rintro (h | h)
      · exact h
      · exact absurd h.1 e
theorem ltSI_no {p q : SI} : ltSI p q = false ↔ ¬ (p.1.cps.toList < q.1.cps.toList ∨ (p.1 = q.1 ∧ p.2 < q.2)) := by
  rw [← ltSI_iff]
  cases ltSI p q <;> simp
theorem lt_tri (a b : List Nat) : a < b ∨ a = b ∨ b < a := by
  rcases Classical.em (a < b) with h | h
  · exact .inl h
  · rcases Classical.em (b < a) with h2 | h2
    · exact .inr (.inr h2)
    · exact .inr (.inl (List.le_antisymm (List.not_lt.mp h2) (List.not_lt.mp h)))
theorem ltSI_irr (p : SI) : ltSI p p = false := ltSI_no.mpr fun h => by
  rcases h with h | h
  · exact List.lt_irrefl _ h
  · omega
theorem ltSI_trans {p q r : SI} (h1 : ltSI p q = true) (h2 : ltSI q r = true) : ltSI p r = true := by
  rw [ltSI_iff] at *
  rcases h1 with h1 | ⟨e1, h1⟩ <;> rcases h2 with h2 | ⟨e2, h2⟩
  · exact .inl (List.lt_trans h1 h2)
  · exact .inl (by rw [← e2]; exact h1)
  · exact .inl (by rw [e1]; exact h2)
  · exact .inr ⟨e1.trans e2, by omega⟩
theorem ltSI_tri (p q : SI) : ltSI p q = true ∨ p = q ∨ ltSI q p = true := by
  rcases lt_tri p.1.cps.toList q.1.cps.toList with h | h | h
  · exact .inl (ltSI_iff.mpr (.inl h))
  · have e := str_ext h
    rcases Int.lt_trichotomy p.2 q.2 with h | h | h
    · exact .inl (ltSI_iff.mpr (.inr ⟨e, h⟩))
    · exact .inr (.inl (Prod.ext e h))
    · exact .inr (.inr (ltSI_iff.mpr (.inr ⟨e.symm, h⟩)))
  · exact .inr (.inr (ltSI_iff.mpr (.inl h)))
theorem ltSI_asym {p q : SI} (h : ltSI p q = true) : ltSI q p = false := by
  cases z : ltSI q p with
  | false => rfl
  | true =>
    have := ltSI_trans h z
    rw [ltSI_irr] at this
    cases this
theorem swo_si {α : Type} (k : α → SI) : SrtO.Swo fun v u => ltSI (k v) (k u) := by
  refine ⟨fun x y h => ltSI_asym h, fun x y z h1 h2 => ?_⟩
  cases h : ltSI (k z) (k x) with
  | false => rfl
  | true =>
    rcases ltSI_tri (k x) (k y) with q | q | q
    · have b := ltSI_trans h q
      rw [h2] at b
      cases b
    · rw [q, h2] at h
      cases h
    · rw [h1] at q
      cases q
/-- a tuple of a text and an integer -/
def IsSI (h : Heap) (v : Value) (p : SI) : Prop := ∃ (a : Addr) (o : Obj) (t u : Tok) (n : Nat), v = .ref a ∧ h.get? a = some o ∧ o.cls = .type "tuple" ∧ o.data = .seq #[.str p.1 t, .int p.2 u] n
theorem IsSI.keeps {h h' : Heap} {v : Value} {p : SI} (x : IsSI h v p) (k : ∀ b o, h.get? b = some o → o.cls = .type "tuple" → h'.get? b = some o) : IsSI h' v p := by
  obtain ⟨a, o, t, u, n, e, ho, hc, hd⟩ := x
  exact ⟨a, o, t, u, n, e, k a o ho hc, hc, hd⟩
/-- what pair stands there -/
def siOf (h : Heap) (v : Value) : SI := match v with
  | .ref a => match h.get? a with
    | some o => match o.data with
      | .seq xs _ => match xs.toList with
        | [.str z _, .int i _] => (z, i)
        | _ => default
      | _ => default
    | none => default
  | _ => default
theorem IsSI.of {h : Heap} {v : Value} {p : SI} (x : IsSI h v p) : siOf h v = p := by
  obtain ⟨a, o, t, u, n, rfl, ho, hc, hd⟩ := x
  simp only [siOf, ho, hd]
section
variable {prog : Program} {w : World} {A : Around} {s : Shared}
theorem si_cmp {vs : List Value} {k : Value → SI} (hp : ∀ v ∈ vs, IsSI s.heap v (k v)) : SrtO.Cmp prog w A s (tuples' true) (fun p => p.1 ∈ vs) (SrtO.lt2 fun v u => ltSI (k v) (k u)) := by
  intro p q hm hm'
  have h1 := hp _ hm
  have h2 := hp _ hm'
  show wpAny (model prog w) A (keyLt' (tuples' true) p.1 q.1) (fun r s' => s' = s ∧ r = ltSI (k p.1) (k q.1)) (fun _ _ => False) s
  generalize k p.1 = x at h1 ⊢
  generalize k q.1 = y at h2 ⊢
  obtain ⟨a, o, t, u, n, e, ho, hc, hd⟩ := h1
  obtain ⟨a', o', t', u', n', e', ho', hc', hd'⟩ := h2
  rw [e, e']
  refine PySem.W.kat_lt ho hd ho' hd' ?_
  show PySem.W.KatLex prog w A true (decide (2 < 2)) _ [(.str x.1 t, .str y.1 t'), (.int x.2 u, .int y.2 u')] 0 s
  refine PySem.W.kat_cons (SeqAt.EqAt.str_str x.1 t y.1 t' prog w _ _ ?_)
  refine PySem.W.kat_go (fun e1 => ?_) (fun e1 => ?_)
  · have ex : x.1 = y.1 := eq_of_beq e1
    have ef : ltSI x y = decide (x.2 < y.2) := by unfold ltSI; rw [if_pos ex]
    refine PySem.W.kat_yes (PySem.W.kat_cons (SeqAt.EqAt.int_int x.2 u y.2 u' prog w _ _ ?_))
    refine PySem.W.kat_go (fun e2 => ?_) (fun e2 => ?_)
    · have ey : x.2 = y.2 := eq_of_beq e2
      exact PySem.W.kat_yes (PySem.W.kat_nil ⟨rfl, by rw [ef, ey]; simp⟩)
    · refine PySem.W.kat_no (PySem.W.kat_one _ _ (PyProof.Rows.lt_int ?_))
      exact (show s = s ∧ decide (x.2 < y.2) = ltSI x y from ⟨rfl, ef.symm⟩)
  · have ex : ¬ x.1 = y.1 := fun q => by
      rw [q] at e1
      simp at e1
    have ef : ltSI x y = decide (x.1.cps.toList < y.1.cps.toList) := by unfold ltSI; rw [if_neg ex]
    exact PySem.W.kat_no (oneLt_str (show s = s ∧ decide (x.1.cps.toList < y.1.cps.toList) = ltSI x y from ⟨rfl, ef.symm⟩))
theorem si_firsts {h : Heap} {k : Value → SI} : ∀ vs : List Value, (∀ v ∈ vs, IsSI h v (k v)) → ∃ fs : List Value, PySem.W.KatTups h vs fs ∧ fs.length = vs.length ∧ ∀ f ∈ fs, ∃ (z : Str) (t : Tok), f = Value.str z t
  | [], _ => ⟨[], PySem.W.KatTups.nil, rfl, fun f hf => nomatch hf⟩
  | v :: vs, x => by
    obtain ⟨fs, g, hl, hi⟩ := si_firsts vs fun u hu => x u (List.mem_cons_of_mem _ hu)
    obtain ⟨a, o, t, u, n, e, ho, hc, hd⟩ := x v (List.mem_cons_self ..)
    refine ⟨.str (k v).1 t :: fs, ⟨⟨a, o, _, n, e, ho, hc, hd, rfl⟩, g⟩, by rw [List.length_cons, List.length_cons, hl], fun f hf => ?_⟩
    rcases List.mem_cons.mp hf with rfl | hf
    · exact ⟨_, _, rfl⟩
    · exact hi f hf
theorem si_sortable {a : Addr} {vs : List Value} {k : Value → SI} (h0 : 0 < vs.length) (hp : ∀ v ∈ vs, IsSI s.heap v (k v)) (ha : ∀ o, s.heap.get? a = some o → o.cls ≠ .type "tuple") : SrtO.SortableO prog w A s a vs fun v u => ltSI (k v) (k u) := by
  intro h' keep
  have hp' : ∀ v ∈ vs, IsSI h' v (k v) := fun v hm => (hp v hm).keeps fun b o e c => keep b o (fun z => by subst z; exact ha o e c) e
  obtain ⟨fs, h1, h2, h3⟩ := si_firsts vs hp'
  refine ⟨tuples' true, fun Q E hq => ?_, si_cmp hp'⟩
  refine PySem.W.kat_kind (T := .type "str") h1 (by omega) (fun f hm => ?_) (by rfl) ?_
  · obtain ⟨x, t, rfl⟩ := h3 f hm
    exact PySem.W.Looks.now
  · have e : (Value.type "str" != Value.type "tuple") = true := by first | decide +kernel | rfl | decide
    rw [e]
    exact hq
end
/-! ### the keys of a dict, in a row -/
section
variable {prog : Program} {w : World} {d : Addr} {o : Obj} {es : Array DictEntry} {ep : Nat}
theorem walks_dt {A : Around} (hh : A.handled = none) (I : Addr) (hne : d ≠ I) (hdat : o.data = .dict es ep) :
    Walks prog w A I [I, d] [I] es.size (fun i v => ∃ en, es[i]? = some en ∧ v = en.key) (fun i h => h.IsKeyIter I d i es.size ep ∧ h.get? d = some o) where
  sub := fun b hb => by simp at hb; simp [hb]
  frame := fun _ _ _ st hk => ⟨st.1.at fun o e => hk I (by simp) o e, hk d (by simp) _ st.2⟩
  item := fun i s Q E hi st hQ => by
    have hx : es[i]? = some es[i] := Array.getElem?_eq_getElem hi
    exact next_key_item st.1 st.2 hdat rfl hx fun h' hit hs => hQ _ h' s.toks ⟨_, hx, rfl⟩ ⟨hit, hs.2 d hne ▸ st.2⟩ fun b o hb e => (hs.2 b (fun h => hb (by simp [h]))).trans e
  done := fun s Q E st hQ => next_key_end hh st.1 st.2 hdat rfl (Nat.le_refl _) fun h' he => hQ h' s.toks fun b o hb e => he b o (fun h => hb (by simp [h])) e
  self := fun _ _ _ _ st hQ => wpAny_pyIter_keyiter st.1 hQ
theorem kdl_dt (lo : (d == sysModules) = false) (hx : o.ExactDict) (hdat : o.data = .dict es ep) :
    PySem.W.KdlSrc prog w "dict" d d es.size (fun i v => ∃ en, es[i]? = some en ∧ v = en.key) (fun h => h.get? d = some o) where
  type := fun _ hm => ⟨o, hm, hx.1⟩
  there := fun _ hm => ⟨Heap.lt_size hm, Heap.lt_size hm⟩
  keep := fun _ _ hm hk => hk d (.inl rfl) o hm
  notList := by decide
  notTuple := by decide
  hint := fun _ _ _ _ hm hq => PySem.W.kdl_hint_dict ⟨o, hm, hx.1⟩ hq
  iter := fun _ _ hh hm => ⟨_, _, (fun _ _ hq => iter_keys lo hm hx hdat hq), walks_dt hh _ (Nat.ne_of_lt (Heap.lt_size hm)) hdat, ⟨⟨_, Heap.get?_push_size _ rfl, rfl, rfl⟩, Heap.get?_push_of_some _ hm⟩⟩
end
abbrev keySI (p : SI) : List L2.Key := [Sum.inr p.1, Sum.inl p.2]
def adOf : Value → Addr
  | .ref a => a
  | _ => 0
section
variable {X : Cx}
/-- sorted(d): the keys' own tuples, in a new list -/
def rSortDT : List V → Hp → VK → Prop := fun xs H Q => ∃ (a : Addr) (kvs : List (List L2.Key × V)) (ks : List SI), xs = [.ref a] ∧ H a = some (.dT kvs) ∧ kvs.map (·.1) = ks.map keySI ∧
  ∀ (zs : List (Addr × SI)) (p : Addr), (zs.map (·.2)).Perm ks → (zs.map (·.2)).Pairwise (fun x y => ltSI y x = false) → (∀ z ∈ zs, H z.1 = some (.tup [.str z.2.1, .int z.2.2])) → H p = none → Q (.ref p) (upd H p (.lst (zs.map fun z => V.ref z.1)))
theorem vals_refs : ∀ zs : List (Addr × SI), Vals (zs.map fun z => V.ref z.1) (zs.map fun z => Value.ref z.1)
  | [] => .nil
  | z :: zs => .cons rfl (vals_refs zs)
theorem cr_sortDT (hc : X.calm = true) : CallR X (.builtin "sorted") rSortDT := by
  intro pins s σ H xs us Q I r h
  obtain ⟨a, kvs, ks, rfl, ha, hks, q⟩ := h
  obtain rfl := Vals.ref1 r
  obtain ⟨z, lo, xs', rel, o, es, ep, ho, hx, hdat, hes, his, hn⟩ := dt_of I.hok ha
  have l1 : kvs.length = xs'.length := Paired.length rel
  have l2 : es.size = xs'.length := size_of_entries hes
  have l3 : kvs.length = ks.length := by
    have e := congrArg List.length hks
    rw [List.length_map, List.length_map] at e
    exact e
  have h16 : es.size ≤ sizeLine := by omega
  refine Calls.call_function_entry PyProof.Rows.kind_sorted PyProof.Rows.plain_sorted PyProof.Rows.entry_sorted (PyProof.Rows.args_sorted1 _) ?_
  unfold Builtin.«sorted»
  refine wpAny_bind (m := checkCount "sorted" 1 1 _) (wpAny_pure ?_)
  refine wpAny_bind (PySem.W.kdu_collect (A := X.A.in1) (kdl_dt lo hx hdat) (I.ok.hd hc) ho h16 fun h' tk acc hk hacc => ?_)
  -- each of them is a pair that is tracked
  have pr : ∀ (j : Nat) (v : Value), acc.toList[j]? = some v → ∃ (p : SI) (b : Addr), ks[j]? = some p ∧ v = .ref b ∧ H b = some (.tup [.str p.1, .int p.2]) := by
    intro j v hj
    obtain ⟨en, he, rfl⟩ := hacc.2 j v (by rw [← Array.getElem?_toList]; exact hj)
    rw [entry_at hes j] at he
    cases hxj : xs'[j]? with
    | none =>
      rw [hxj] at he
      exact nomatch (show (none : Option DictEntry) = some en from he)
    | some x =>
      rw [hxj] at he
      have een : entryOfKey (tupleKind (mixKind X.prog X.w)) x = en := Option.some.inj he
      obtain ⟨e0, he0, r1, r2, r3⟩ := L2.DX.pget rel hxj
      have k0 : (kvs.map (·.1))[j]? = some e0.1 := by rw [List.getElem?_map, he0]; rfl
      rw [hks, List.getElem?_map] at k0
      cases hkj : ks[j]? with
      | none =>
        rw [hkj] at k0
        cases k0
      | some p =>
        rw [hkj] at k0
        have k1 : keySI p = e0.1 := Option.some.inj k0
        refine ⟨p, x.2.1, rfl, by rw [← een]; rfl, ?_⟩
        rw [r2, ← k1]
        rfl
  have hS : ∀ v ∈ acc.toList, ∃ (p : SI) (b : Addr), v = .ref b ∧ H b = some (.tup [.str p.1, .int p.2]) ∧ IsSI s.heap v p := by
    intro v hv
    obtain ⟨j, hj⟩ := List.mem_iff_getElem?.mp hv
    obtain ⟨p, b, _, rfl, hb⟩ := pr j v hj
    refine ⟨p, b, rfl, hb, ?_⟩
    obtain ⟨_, its, rv, ot, hot, hct, nt, hdt⟩ := (show ObjOk X.prog X.w H s.heap b (.tup [.str p.1, .int p.2]) from I.hok b _ hb)
    obtain ⟨u1, u2, rfl, ⟨t1, rfl⟩, ⟨t2, rfl⟩⟩ := vals2 rv
    exact ⟨b, ot, t1, t2, nt, rfl, hot, hct, hdt⟩
  have hks2 : acc.toList.map (siOf s.heap) = ks := by
    refine List.ext_getElem? fun j => ?_
    rw [List.getElem?_map]
    cases hj : acc.toList[j]? with
    | none =>
      have e1 : acc.size ≤ j := by rw [← Array.length_toList]; exact List.getElem?_eq_none_iff.mp hj
      rw [hacc.1] at e1
      rw [List.getElem?_eq_none (by omega)]
      rfl
    | some v =>
      obtain ⟨p, b, e1, rfl, hb⟩ := pr j v hj
      obtain ⟨p', b', e2, hb', si⟩ := hS _ (List.mem_of_getElem? hj)
      cases e2
      rw [hb] at hb'
      have e3 : p = p' := by
        have e4 := HO.tup.inj (Option.some.inj hb')
        injection e4 with e5 e6
        injection e6 with e7 e8
        exact Prod.ext (V.str.inj e5) (V.int.inj e7)
      rw [e1, e3]
      exact congrArg some si.of
  have hz : acc.toList.length ≤ sizeLine := by rw [Array.length_toList, hacc.1]; exact h16
  have I1 : Inv X pins σ H { s with heap := h', toks := tk } := I.kept hk
  refine wpAny_bind (wpAny_newList ?_ hz)
  have hoL : (h'.push (seqObj "list" acc.toList.toArray 0)).get? h'.objs.size = some (seqObj "list" acc.toList.toArray 0) := Heap.get?_push_size _ rfl
  have kb : ∀ b ob, s.heap.get? b = some ob → (h'.push (seqObj "list" acc.toList.toArray 0)).get? b = some ob := fun b ob e => Heap.get?_push_of_some _ (hk b ob e)
  show wpAny _ _ _ _ _ { s with heap := h'.push (seqObj "list" acc.toList.toArray 0), toks := tk }
  refine wpAny_bind (wpAny_holding (wpAny_call_entry PyProof.Rows.slot_list_sort ⟨_, hoL, rfl⟩ PyProof.Rows.entry_list_sort
    (SrtO.list_sort_ord (s := { s with heap := h'.push (seqObj "list" acc.toList.toArray 0), toks := tk }) (swo_si (siOf s.heap)) hoL hz (fun h2 => si_sortable (by omega) (fun v hv => ?_) fun ob e c => ?_) fun out hs hb => ⟨_, rfl, ?_⟩)
    (PyProof.Rows.args_list_sort _)))
  · obtain ⟨p, b, e, _, si⟩ := hS v hv
    rw [si.of]
    exact si.keeps fun b ob e _ => kb b ob e
  · have e' : some ob = some (seqObj "list" acc.toList.toArray 0) := e.symm.trans hoL
    cases e'
    exact absurd (Value.type.inj c) (by decide)
  obtain ⟨e', he'⟩ := PyProof.Rows.sortedHeap_at (vs := acc.toList) (out := out.toArray) hoL
  have ho3 : ∀ v ∈ out, ∃ (p : SI) (b : Addr), v = .ref b ∧ H b = some (.tup [.str p.1, .int p.2]) ∧ IsSI s.heap v p := fun v hv => hS v (hb.perm.mem_iff.mp hv)
  have hout : (out.map fun v => (adOf v, siOf s.heap v)).map (fun z => Value.ref z.1) = out := by
    rw [List.map_map]
    refine (List.map_congr_left fun v hv => ?_).trans (List.map_id _)
    obtain ⟨p, b, rfl, _⟩ := ho3 v hv
    rfl
  have hlen : ((out.map fun v => (adOf v, siOf s.heap v)).map fun z => V.ref z.1).length ≤ sizeLine := by
    rw [List.length_map, List.length_map, hb.perm.length_eq]
    exact hz
  refine wpAny_pure ⟨_, rfl, .ref h'.objs.size, upd H h'.objs.size (.lst ((out.map fun v => (adOf v, siOf s.heap v)).map fun z => V.ref z.1)), I1.laid (t' := tk) (fun b u e => ?_) (Nat.le_refl _)
    (show ObjOk X.prog X.w _ _ _ (.lst _) from ⟨hlen, out, e', ?_, he'⟩), rfl, q _ _ ?_ ?_ ?_ (I1.hok.fresh (Nat.le_refl _))⟩
  · have hb : b < h'.objs.size := Heap.lt_size e
    rw [PyProof.Rows.sortedHeap_old (Nat.ne_of_lt hb) (by rw [size_push']; exact Nat.lt_succ_of_lt hb)]
    exact Heap.get?_push_of_some _ e
  · have := vals_refs (out.map fun v => (adOf v, siOf s.heap v))
    rw [hout] at this
    exact this
  · rw [List.map_map, ← hks2]
    exact hb.perm.map _
  · rw [List.map_map, List.pairwise_map]
    exact hs
  · intro z hz'
    obtain ⟨v, hv, rfl⟩ := List.mem_map.mp hz'
    obtain ⟨p, b, rfl, hb2, si⟩ := ho3 v hv
    rw [si.of]
    exact hb2
end
end Hk
/-! leases: rows of holder, talk, until; what each deed does to them -/
namespace Hs
open PySem PySem.Spec PyProof.Rows L2 Hu Evl
open Hk (SI ltSI)
abbrev Ls : Type := SI × (Int × Int)
def getL : List Ls → SI → Option (Int × Int)
  | [], _ => none
  | l :: r, k => if l.1 = k then some l.2 else getL r k
def putL : List Ls → SI → Int × Int → List Ls
  | [], k, v => [(k, v)]
  | l :: r, k, v => if l.1 = k then (k, v) :: r else l :: putL r k v
def dropL (L : List Ls) (k : SI) : List Ls := L.filter fun l => decide (l.1 ≠ k)
def ndK (L : List Ls) : Prop := (L.map (·.1)).Nodup
def srt (L : List Ls) : Prop := (L.map (·.1)).Pairwise fun a b => ltSI a b = true
theorem getL_cons (l : Ls) (r : List Ls) (k : SI) : getL (l :: r) k = if l.1 = k then some l.2 else getL r k := rfl
theorem getL_none {L : List Ls} {k : SI} : getL L k = none ↔ ∀ l ∈ L, l.1 ≠ k := by
  induction L with
  | nil => simp [getL]
  | cons l r ih =>
    unfold getL
    by_cases h : l.1 = k
    · rw [if_pos h]
      simp [h]
    · rw [if_neg h, ih]
      simp [h]
theorem getL_mem {L : List Ls} {k : SI} {v : Int × Int} (h : getL L k = some v) : (k, v) ∈ L := by
  induction L with
  | nil => cases h
  | cons l r ih =>
    unfold getL at h
    by_cases q : l.1 = k
    · rw [if_pos q] at h
      cases h
      rw [← q]
      exact List.mem_cons_self ..
    · rw [if_neg q] at h
      exact List.mem_cons_of_mem _ (ih h)
theorem getL_of {L : List Ls} (n : ndK L) {l : Ls} (h : l ∈ L) : getL L l.1 = some l.2 := by
  induction L with
  | nil => cases h
  | cons x r ih =>
    unfold ndK at n
    rw [List.map_cons, List.nodup_cons] at n
    unfold getL
    rcases List.mem_cons.mp h with rfl | h
    · rw [if_pos rfl]
    · have : x.1 ≠ l.1 := fun e => n.1 (by rw [e]; exact List.mem_map.mpr ⟨l, h, rfl⟩)
      rw [if_neg this]
      exact ih n.2 h
theorem getL_put {L : List Ls} {k j : SI} {v : Int × Int} : getL (putL L k v) j = if j = k then some v else getL L j := by
  induction L with
  | nil =>
    unfold putL getL
    by_cases h : k = j
    · rw [if_pos h, if_pos h.symm]
    · rw [if_neg h, if_neg (fun e => h e.symm)]
      rfl
  | cons l r ih =>
    unfold putL
    by_cases q : l.1 = k
    · rw [if_pos q]
      by_cases h : j = k
      · rw [if_pos h]
        unfold getL
        rw [if_pos h.symm]
      · rw [if_neg h]
        rw [getL_cons, getL_cons, if_neg (fun e => h e.symm), if_neg (fun e => h (e.symm.trans q))]
    · rw [if_neg q]
      unfold getL
      rw [ih]
      by_cases h : l.1 = j
      · rw [if_pos h, if_pos h, if_neg (fun e => q (h.trans e))]
      · rw [if_neg h, if_neg h]
theorem keys_put {L : List Ls} {k : SI} {v : Int × Int} : ∀ j ∈ (putL L k v).map (·.1), j = k ∨ j ∈ L.map (·.1) := by
  induction L with
  | nil =>
    intro j h
    simp [putL] at h
    exact .inl h
  | cons l r ih =>
    intro j h
    unfold putL at h
    by_cases q : l.1 = k
    · rw [if_pos q, List.map_cons] at h
      rcases List.mem_cons.mp h with h | h
      · exact .inl h
      · exact .inr (List.mem_cons_of_mem _ h)
    · rw [if_neg q, List.map_cons] at h
      rcases List.mem_cons.mp h with h | h
      · exact .inr (by rw [h]; exact List.mem_cons_self ..)
      · rcases ih j h with h | h
        · exact .inl h
        · exact .inr (List.mem_cons_of_mem _ h)
theorem ndK_put {L : List Ls} {k : SI} {v : Int × Int} (n : ndK L) : ndK (putL L k v) := by
  induction L with
  | nil => simp [putL, ndK]
  | cons l r ih =>
    unfold ndK at n
    rw [List.map_cons, List.nodup_cons] at n
    unfold putL
    by_cases q : l.1 = k
    · rw [if_pos q]
      unfold ndK
      rw [List.map_cons, List.nodup_cons]
      exact ⟨by rw [← q]; exact n.1, n.2⟩
    · rw [if_neg q]
      unfold ndK
      rw [List.map_cons, List.nodup_cons]
      refine ⟨fun h => ?_, ih n.2⟩
      rcases keys_put _ h with h | h
      · exact q h
      · exact n.1 h
theorem len_put (L : List Ls) (k : SI) (v : Int × Int) : (putL L k v).length ≤ L.length + 1 := by
  induction L with
  | nil => simp [putL]
  | cons l r ih =>
    unfold putL
    by_cases q : l.1 = k
    · rw [if_pos q]
      simp
    · rw [if_neg q, List.length_cons, List.length_cons]
      omega
theorem put_new {L : List Ls} {k : SI} {v : Int × Int} (h : getL L k = none) : putL L k v = L ++ [(k, v)] := by
  induction L with
  | nil => rfl
  | cons l r ih =>
    unfold getL at h
    by_cases q : l.1 = k
    · rw [if_pos q] at h
      cases h
    · rw [if_neg q] at h
      unfold putL
      rw [if_neg q, ih h]
      rfl
/-- a filter that looks at holder and what stands there -/
theorem getL_filter {L : List Ls} (n : ndK L) (f : Ls → Bool) (k : SI) : getL (L.filter f) k = (getL L k).filter fun v => f (k, v) := by
  induction L with
  | nil => rfl
  | cons l r ih =>
    unfold ndK at n
    rw [List.map_cons, List.nodup_cons] at n
    have i := ih n.2
    by_cases q : l.1 = k
    · have g : getL (l :: r) k = some l.2 := by
        unfold getL
        rw [if_pos q]
      have e : (k, l.2) = l := by rw [← q]
      rw [g]
      by_cases fl : f l = true
      · rw [List.filter_cons_of_pos fl]
        have : getL (l :: r.filter f) k = some l.2 := by
          unfold getL
          rw [if_pos q]
        rw [this, Option.filter_some, e, if_pos fl]
      · rw [List.filter_cons_of_neg fl, i]
        have : getL r k = none := getL_none.mpr fun x hx e => n.1 (by rw [q, ← e]; exact List.mem_map.mpr ⟨x, hx, rfl⟩)
        rw [this, Option.filter_some, e, if_neg fl]
        rfl
    · have g : getL (l :: r) k = getL r k := by
        conv => lhs; unfold getL
        rw [if_neg q]
      rw [g, ← i]
      by_cases fl : f l = true
      · rw [List.filter_cons_of_pos fl]
        conv => lhs; unfold getL
        rw [if_neg q]
      · rw [List.filter_cons_of_neg fl]
theorem getL_map {L : List Ls} (g : Int × Int → Int × Int) (k : SI) : getL (L.map fun l => (l.1, g l.2)) k = (getL L k).map g := by
  induction L with
  | nil => rfl
  | cons l r ih =>
    rw [List.map_cons]
    unfold getL
    by_cases q : l.1 = k
    · rw [if_pos q, if_pos q]
      rfl
    · rw [if_neg q, if_neg q, ih]
theorem ndK_filter {L : List Ls} (n : ndK L) (f : Ls → Bool) : ndK (L.filter f) := List.Nodup.sublist (List.Sublist.map _ List.filter_sublist) n
theorem srt_filter {L : List Ls} (n : srt L) (f : Ls → Bool) : srt (L.filter f) := List.Pairwise.sublist (List.Sublist.map _ List.filter_sublist) n
theorem keys_map (L : List Ls) (g : Int × Int → Int × Int) : (L.map fun l => ((l.1, g l.2) : Ls)).map (·.1) = L.map (·.1) := by
  rw [List.map_map]
  rfl
theorem srt_nd {L : List Ls} (h : srt L) : ndK L := by
  unfold ndK
  unfold srt at h
  refine List.Pairwise.imp (fun {a b} q e => ?_) h
  rw [e, Hk.ltSI_irr] at q
  cases q
theorem getL_drop {L : List Ls} (n : ndK L) (k j : SI) : getL (dropL L k) j = if j = k then none else getL L j := by
  unfold dropL
  rw [getL_filter n]
  by_cases h : j = k
  · rw [if_pos h]
    cases getL L j with
    | none => rfl
    | some v => simp [h]
  · rw [if_neg h]
    cases getL L j with
    | none => rfl
    | some v => simp [h]
/-- rows in order are told by what they hold -/
theorem srt_uniq : ∀ {A B : List Ls}, srt A → srt B → (∀ k, getL A k = getL B k) → A = B
  | [], [], _, _, _ => rfl
  | [], b :: B, _, _, h => by
    have := h b.1
    unfold getL at this
    rw [if_pos rfl] at this
    cases this
  | a :: A, [], _, _, h => by
    have := h a.1
    unfold getL at this
    rw [if_pos rfl] at this
    cases this
  | a :: A, b :: B, ha, hb, h => by
    have na := srt_nd ha
    have nb := srt_nd hb
    have ga : ∀ x ∈ b :: B, x ∈ a :: A := fun x hx => by
      have e := getL_of nb hx
      rw [← h] at e
      exact getL_mem e
    have gb : ∀ x ∈ a :: A, x ∈ b :: B := fun x hx => by
      have e := getL_of na hx
      rw [h] at e
      exact getL_mem e
    have ha' := ha
    have hb' := hb
    unfold srt at ha hb
    rw [List.map_cons, List.pairwise_cons] at ha hb
    have e : a = b := by
      rcases List.mem_cons.mp (gb a (List.mem_cons_self ..)) with q | q
      · exact q
      · rcases List.mem_cons.mp (ga b (List.mem_cons_self ..)) with q2 | q2
        · exact q2.symm
        · have l1 := hb.1 a.1 (List.mem_map.mpr ⟨a, q, rfl⟩)
          have l2 := ha.1 b.1 (List.mem_map.mpr ⟨b, q2, rfl⟩)
          rw [Hk.ltSI_asym l1] at l2
          cases l2
    subst e
    unfold ndK at na nb
    rw [List.map_cons, List.nodup_cons] at na nb
    rw [srt_uniq (A := A) (B := B) ha.2 hb.2 fun k => ?_]
    by_cases q : a.1 = k
    · rw [getL_none.mpr fun x hx e => na.1 (by rw [q, ← e]; exact List.mem_map.mpr ⟨x, hx, rfl⟩), getL_none.mpr fun x hx e => nb.1 (by rw [q, ← e]; exact List.mem_map.mpr ⟨x, hx, rfl⟩)]
    · have := h k
      unfold getL at this
      rw [if_neg q, if_neg q] at this
      exact this
/-- the holders in order, each with what stands there -/
def byKeys (L : List Ls) (zs : List SI) : List Ls := zs.map fun z => (z, (getL L z).getD (0, 0))
theorem byKeys_srt {L : List Ls} {zs : List SI} (n : ndK L) (hp : zs.Perm (L.map (·.1))) (hs : zs.Pairwise fun x y => ltSI y x = false) : srt (byKeys L zs) ∧ ∀ k, getL (byKeys L zs) k = getL L k := by
  have ek : (byKeys L zs).map (·.1) = zs := by
    unfold byKeys
    rw [List.map_map]
    exact (List.map_congr_left fun _ _ => rfl).trans (List.map_id _)
  have nz : zs.Nodup := hp.nodup_iff.mpr n
  have st : srt (byKeys L zs) := by
    unfold srt
    rw [ek]
    refine (hs.and nz).imp (fun {a b} q => ?_)
    rcases Hk.ltSI_tri a b with h | h | h
    · exact h
    · exact absurd h q.2
    · rw [q.1] at h
      cases h
  refine ⟨st, fun k => ?_⟩
  cases e : getL (byKeys L zs) k with
  | none =>
    rw [getL_none] at e
    refine (getL_none.mpr fun l hl ek => ?_).symm
    have : l.1 ∈ zs := hp.mem_iff.mpr (List.mem_map.mpr ⟨l, hl, rfl⟩)
    exact e (l.1, (getL L l.1).getD (0, 0)) (List.mem_map.mpr ⟨l.1, this, rfl⟩) ek
  | some v =>
    have m := getL_mem e
    obtain ⟨z, hz, ez⟩ := List.mem_map.mp m
    have e1 : z = k := congrArg Prod.fst ez
    subst e1
    obtain ⟨l, hl, e2⟩ := List.mem_map.mp (hp.mem_iff.mp hz)
    have g := getL_of n hl
    rw [e2] at g
    have e3 : (getL L z).getD (0, 0) = v := congrArg Prod.snd ez
    rw [g] at e3 ⊢
    rw [← e3]
    rfl
/-! ### deeds -/
inductive Deed where
  | lease (k : SI) (t : Int)
  | free (k : SI) (t : Int)
  | tick
  | rise
def Deed.isTick : Deed → Bool
  | .tick => true
  | _ => false
/-- what stands at a holder behind a deed; c the clock behind it -/
def fD (D : Deed) (c : Int) (k : SI) (o : Option (Int × Int)) : Option (Int × Int) := match D with
  | .lease j t => if k = j then some (match o with | some v => max t v.1 | none => t, c + 8) else o
  | .free j t => if k = j then o.filter fun v => decide (t ≤ v.1) else o
  | .tick => o.filter fun v => decide (c < v.2)
  | .rise => o.map fun v => (v.1, c + 8)
/-- deeds at another holder -/
def Deed.off (D : Deed) (k : SI) : Prop := match D with
  | .lease j _ => j ≠ k
  | .free j _ => j ≠ k
  | _ => False
theorem fD_off {D : Deed} {k : SI} (h : D.off k) (c : Int) (o : Option (Int × Int)) : fD D c k o = o := by
  cases D with
  | lease j t => exact if_neg fun e => h e.symm
  | free j t => exact if_neg fun e => h e.symm
  | tick => exact h.elim
  | rise => exact h.elim
end Hs
/-! values made anew, known by their data -/
namespace Hu
open PySem
mutual
/-- nothing, integers, texts, tuples of such -/
def pln : U → Prop
  | .tup us => plnL us
  | .lst _ | .dct _ | .exc | .bl _ => False
  | _ => True
def plnL : List U → Prop
  | [] => True
  | u :: us => pln u ∧ plnL us
end
theorem plnL_all {us : List U} : plnL us ↔ ∀ u ∈ us, pln u := by
  induction us with
  | nil => simp [plnL]
  | cons u us ih => simp [plnL, ih]
end Hu
namespace Hs
open PySem PySem.Spec PyProof.Rows L2 Hu Evl
section
variable {w C : Addr} {H H' : Hp}
/-- a tuple, open or locked -/
def TQ (o : HO) : Prop := ∃ zs, o = .tup zs ∨ ∃ b, o = .frz b (.tup zs)
theorem tq_upd {l : Addr} {xs : List V} {x : HO} (hl : H l = some (.lst xs)) : ∀ b o, b ≠ w → TQ o → H b = some o → upd H l x b = some o := fun b o _ q e => by
  rw [upd_ne (fun z => by
    rw [z, hl] at e
    cases e
    obtain ⟨zs, q | ⟨c, q⟩⟩ := q <;> cases q)]
  exact e
theorem tu_tups {a : Addr} {xs : List V} {us : List U} (k : ∀ b o, b ≠ w → TQ o → H b = some o → H' b = some o) (n : a ≠ w) (h : Tu H a xs us) : Tu H' a xs us := by
  cases c : isB us with
  | false => exact Tu.of (k _ _ n ⟨xs, .inl rfl⟩ (h.plain c)) c
  | true =>
    obtain ⟨o, d, e⟩ := h.lock c
    unfold Tu
    rw [if_pos c]
    exact ⟨o, d, k _ _ n ⟨xs, .inr ⟨o, rfl⟩⟩ e⟩
mutual
theorem at_tups (k : ∀ b o, b ≠ w → TQ o → H b = some o → H' b = some o) : ∀ {u : U} {v : V}, pln u → At w C H v u → At w C H' v u
  | _, _, _, .non => .non
  | .bl _, _, p, _ => p.elim
  | _, _, _, .int i => .int i
  | _, _, _, .str z => .str z
  | _, _, p, .tup h n l => .tup (tu_tups k n h) n (atl_tups k p l)
  | _, _, p, .lst _ _ _ => p.elim
  | _, _, p, .dct _ _ _ _ _ => p.elim
  | _, _, p, .exc _ _ _ _ => p.elim
theorem atl_tups (k : ∀ b o, b ≠ w → TQ o → H b = some o → H' b = some o) : ∀ {us : List U} {vs : List V}, plnL us → AtL w C H vs us → AtL w C H' vs us
  | _, _, _, .nil => .nil
  | _, _, p, .cons x l => .cons (at_tups k p.1 x) (atl_tups k p.2 l)
end
/-- evaluates to a value of this data -/
def EvD (w C : Addr) (te : TE) (σ : L2.St) (H : Hp) (u : U) : Prop := ∀ H1, Ex H H1 → ∀ Q : VK, (∀ v H2, Ex H1 H2 → At w C H2 v u → Q v H2) → te σ H1 Q
def EvDs (w C : Addr) (ta : TA) (σ : L2.St) (H : Hp) (us : List U) : Prop := ∀ H1, Ex H H1 → ∀ Q : List V → Hp → Prop, (∀ vs H2, Ex H1 H2 → AtL w C H2 vs us → Q vs H2) → ta σ H1 Q
/-- to a new list of this data -/
def EvLD (w C : Addr) (te : TE) (σ : L2.St) (H : Hp) (us : List U) : Prop := ∀ H1, Ex H H1 → ∀ Q : VK, (∀ p ys H2, H1 p = none → Ex H1 H2 → H2 p = some (.lst ys) → AtL w C H2 ys us → Q (.ref p) H2) → te σ H1 Q
theorem EvD.mono {te : TE} {σ : L2.St} {u : U} (e : Ex H H') (h : EvD w C te σ H u) : EvD w C te σ H' u := fun H1 e1 Q q => h H1 (e.trans e1) Q q
theorem EvLD.mono {te : TE} {σ : L2.St} {us : List U} (e : Ex H H') (h : EvLD w C te σ H us) : EvLD w C te σ H' us := fun H1 e1 Q q => h H1 (e.trans e1) Q q
section
variable {K : PySem.W.Frag} {σ : L2.St} {te tb tl : TE} {t : TT} {ta tr : TA} {v : V} {u : U} {us us1 us2 : List U} {xs : List V}
theorem ed_ev (h : Ev te σ H v) (hat : At w C H v u) : EvD w C te σ H u := fun H1 e Q q => h H1 e _ fun H2 e2 => q v H2 e2 (ex_at (e.trans e2) hat)
theorem eds_nil : EvDs w C tNil σ H [] := fun H1 e Q q => q [] H1 (Ex.refl H1) .nil
theorem eds_cons (h : EvD w C te σ H u) (hr : EvDs w C tr σ H us) : EvDs w C (tCons te tr) σ H (u :: us) := fun H1 e Q q =>
  h H1 e _ fun v H2 e2 a => hr H2 (e.trans e2) _ fun vs H3 e3 l => q (v :: vs) H3 (e2.trans e3) (.cons (ex_at e3 a) l)
theorem new_ne {p : Addr} (hw : ∃ o, H w = some o) (h : H p = none) : p ≠ w := fun z => by
  obtain ⟨o, ho⟩ := hw
  rw [← z, h] at ho
  cases ho
theorem ed_tup (hw : ∃ o, H w = some o) (h : EvDs w C ta σ H us) (hz : us.length ≤ 100000) : EvD w C (tTupF ta) σ H (.tup us) := fun H1 e Q q =>
  h H1 e _ fun vs H2 e2 l => ⟨sz_of (by rw [AtL.length l]; exact hz), newT_data (hw.imp fun o z => (e.trans e2) _ _ z) l fun v H3 e3 a => q v H3 (e2.trans e3) a⟩
def cutU (us : List U) (lo hi : Option Int) : List U := (us.drop (HT.sIx us.length 0 lo)).take (HT.sIx us.length us.length hi - HT.sIx us.length 0 lo)
theorem atl_cut {lo hi : Option Int} (l : AtL w C H xs us) : AtL w C H (cutV xs lo hi) (cutU us lo hi) := by
  unfold cutV cutU
  rw [AtL.length l]
  exact AtL.take _ (AtL.drop _ l)
theorem ed_slice {a : Addr} {tl th : TO} {lo hi : Option Int} (hw : ∃ o, H w = some o) (h : Ev te σ H (.ref a)) (hx : Tu H a xs us) (na : a ≠ w) (l : AtL w C H xs us) (h1 : EvO tl σ H lo) (h2 : EvO th σ H hi) : EvD w C (tSl (rSlF K) te tl th) σ H (.tup (cutU us lo hi)) := fun H1 e Q q =>
  h H1 e _ fun H2 e2 => h1 H2 (e.trans e2) _ fun H3 e3 => h2 H3 ((e.trans e2).trans e3) _ fun H4 e4 => by
    have e5 := ((e.trans e2).trans e3).trans e4
    refine ⟨a, xs, rfl, Tu.st (Tu.ex e5 hx), fun hh => ?_, fun _ => newT_data (hw.imp fun o z => e5 _ _ z) (atl_cut (ex_atl e5 l)) fun v H5 e6 a => q v H5 (((e2.trans e3).trans e4).trans e6) a⟩
    have eu : cutU us lo hi = us := by
      unfold cutU
      rw [← AtL.length l, hh.1, hh.2, AtL.length l, List.drop_zero, Nat.sub_zero, List.take_length]
    exact q _ H4 ((e2.trans e3).trans e4) (by rw [eu]; exact .tup (Tu.ex e5 hx) na (ex_atl e5 l))
theorem ed_cat (hw : ∃ o, H w = some o) (h1 : EvD w C te σ H (.tup us1)) (h2 : EvD w C tb σ H (.tup us2)) (hz : us1.length + us2.length ≤ 100000) : EvD w C (tOp (rCatF K) te tb) σ H (.tup (us1 ++ us2)) := fun H1 e Q q =>
  h1 H1 e _ fun v1 H2 e2 a1 => h2 H2 (e.trans e2) _ fun v2 H3 e3 a2 => by
    obtain ⟨p1, x1, rfl, g1, n1, t1⟩ := at_tup (ex_at e3 a1)
    obtain ⟨p2, x2, rfl, g2, n2, t2⟩ := at_tup a2
    refine ⟨p1, p2, x1, x2, rfl, rfl, Tu.st g1, Tu.st g2, sz_of (by rw [AtL.length t1, AtL.length t2]; exact hz), fun z => ?_, fun _ z => ?_, fun _ _ => newT_data (hw.imp fun o z => ((e.trans e2).trans e3) _ _ z) (AtL.append t1 t2) fun v H5 e6 a => q v H5 ((e2.trans e3).trans e6) a⟩
    · subst z
      cases t1
      exact q _ H3 (e2.trans e3) a2
    · subst z
      cases t2
      rw [List.append_nil] at q
      exact q _ H3 (e2.trans e3) (ex_at e3 a1)
theorem ed_call {sp : Sp} {E : XK} {ur : U} (h : EvDs w C ta σ H us) (hs : ∀ vs H1, Ex H H1 → AtL w C H1 vs us → ∀ Q : VK, (∀ v H2, Ex H1 H2 → At w C H2 v ur → Q v H2) → ∀ E, sp vs H1 Q E) : EvD w C (tCall sp [] E ta) σ H ur :=
  fun H1 e Q q => h H1 e _ fun vs H2 e2 l => by
    have := hs vs H2 (e.trans e2) l Q (fun v H3 e3 a => q v H3 (e2.trans e3) a) E
    rwa [show vs = vs ++ [] from (List.append_nil vs).symm] at this
/-- tuple(a new list) -/
abbrev rTupO (K : PySem.W.Frag) : List V → Hp → VK → Prop := rTupF K
theorem ed_tupL (hw : ∃ o, H w = some o) (h : EvLD w C te σ H us) : EvD w C (tCB (rTupO K) (tCons te tNil)) σ H (.tup us) := fun H1 e Q q =>
  h H1 e _ fun p ys H2 hp e2 h2 l => ⟨p, ys, rfl, .inl ⟨sq_of h2, newT_data (hw.imp fun o z => (e.trans e2) _ _ z) l fun v H3 e3 a => q v H3 (e2.trans e3) a⟩⟩
theorem atl_append {us1 us2 : List U} {x1 x2 : List V} (h1 : AtL w C H x1 us1) (h2 : AtL w C H x2 us2) : AtL w C H (x1 ++ x2) (us1 ++ us2) := AtL.append h1 h2
theorem take_filter {us : List U} {i : Nat} {u : U} (g : U → Bool) (h : us[i]? = some u) : (us.take (i + 1)).filter g = (us.take i).filter g ++ if g u = true then [u] else [] := by
  rw [List.take_add_one, h, List.filter_append]
  congr 1
  by_cases q : g u = true
  · rw [if_pos q]
    show List.filter g [u] = _
    rw [List.filter_cons_of_pos q]
    rfl
  · rw [if_neg q]
    show List.filter g [u] = _
    rw [List.filter_cons_of_neg q]
    rfl
/-- [f(x) for x in a tuple if g(x)] -/
theorem lc_D {a : Addr} {j : Nat} {vs : List Nat} {g : U → Bool} {f : U → U} (h : Ev tl σ H (.ref a)) (hx : Tu H a xs us) (hl : AtL w C H xs us) (hz : us.length ≤ 40000) (hp : ∀ u ∈ us, pln (f u)) (hw : ∀ x, wipe ((wipe σ vs).set j (some x)) vs = wipe σ vs)
    (ht : ∀ (x : V) (u : U) G, u ∈ us → Ex H G → At w C G x u → EvT t ((wipe σ vs).set j (some x)) G (g u)) (he : ∀ (x : V) (u : U) G, u ∈ us → g u = true → Ex H G → At w C G x u → EvD w C te ((wipe σ vs).set j (some x)) G (f u)) :
    EvLD w C (tLc (iTup K tl) (gName j) t te vs) σ H ((us.filter g).map f) := fun H0 e Q q => h H0 e _ fun H1 e1 => ⟨a, rfl, ⟨xs, Tu.st (Tu.ex (e.trans e1) hx)⟩, fun Dl hD =>
  lc_tup (xs := xs) (fun i H' => Ex H1 H' ∧ ∃ ys, H' Dl = some (.lst ys) ∧ ys.length ≤ i ∧ AtL w C H' ys (((us.take i).filter g).map f)) ⟨Ex.new hD, [], upd_same, Nat.le_refl _, .nil⟩ (fun i H' _ p => Tu.st (Tu.ex ((e.trans e1).trans p.1) hx)) (fun i x H2 hi p => by
    obtain ⟨p1, ys, p2, p3, p4⟩ := p
    have hlen := AtL.length hl
    have hu : i < us.length := by
      have := (List.getElem?_eq_some_iff.mp hi).1
      omega
    obtain ⟨x', hx', hax⟩ := AtL.get hl (List.getElem?_eq_getElem hu)
    rw [hi] at hx'
    cases hx'
    have e2 := (e.trans e1).trans p1
    refine ⟨hw x, ht x us[i] H2 (List.getElem_mem hu) e2 (ex_at e2 hax) H2 (Ex.refl H2) _ fun H3 e3 => ?_⟩
    have eg := take_filter g (List.getElem?_eq_getElem hu)
    cases hg : g us[i] with
    | false =>
      rw [hg] at eg
      rw [if_neg Bool.false_ne_true, List.append_nil] at eg
      rw [if_neg Bool.false_ne_true]
      exact ⟨p1.trans e3, ys, e3 _ _ p2, by omega, by rw [eg]; exact ex_atl e3 p4⟩
    | true =>
      rw [hg, if_pos rfl] at eg
      rw [if_pos rfl]
      refine he x us[i] H3 (List.getElem_mem hu) hg (e2.trans e3) (ex_at (e2.trans e3) hax) H3 (Ex.refl H3) _ fun v H4 e4 a4 => ⟨ys, e4 _ _ (e3 _ _ p2), ?_, fun q o hq => ?_, ys ++ [v], upd_same, ?_, ?_⟩
      · have := bit_line
        unfold bit at this
        omega
      · rw [upd_ne (ne_of_none hq hD)]
        exact e4 _ _ (e3 _ _ (p1 _ _ hq))
      · rw [List.length_append]
        show ys.length + 1 ≤ i + 1
        omega
      · have nt := tq_upd (w := w) (x := .lst (ys ++ [v])) (e4 _ _ (e3 _ _ p2))
        rw [eg, List.map_append]
        refine AtL.append (atl_tups nt (plnL_all.mpr fun y hy => ?_) (ex_atl (e3.trans e4) p4)) (.cons (at_tups nt (hp _ (List.getElem_mem hu)) a4) .nil)
        obtain ⟨z, hz', rfl⟩ := List.mem_map.mp hy
        exact hp z (List.mem_of_mem_take (List.mem_filter.mp hz').1)) (fun H' p => by
    obtain ⟨p1, ys, p2, p3, p4⟩ := p
    rw [AtL.length hl, List.take_length] at p4
    exact q Dl ys H' (fresh_back e1 hD) (e1.trans p1) p2 p4)⟩
end
end
end Hs
/-! a dict comprehension with tuples as keys; d.pop(k) of such a dict -/
namespace Hk
open PySem PySem.Spec PyProof.Rows L2
section
variable {X : Cx} {pins : List (Addr × Obj)} {σ : L2.St} {H : Hp} {s : Shared}
/-- a block of a comprehension writes the key and the value -/
theorem dt_set {E : Value → Shared → Prop} {D b : Addr} {kvs : List (List L2.Key × V)} {k : List L2.Key} {v : V} {r : Value} {Q : Unit → Shared → Prop} (hu : X.A.units + 1 < cLine) (J : Inv X pins σ H s) (eD : H D = some (.dT kvs)) (lz : kvs.length < sizeLine)
    (eb : H b = some (.tup (k.map kV))) (rv : RelV v r) (h : ∀ s', Inv X pins σ (upd H D (.dT (putK kvs k v))) s' → Q () s') : wpAny (model X.prog X.w) X.A (dictSet D (.ref b) r) Q E s := by
  obtain ⟨lk, hd, xs, pr, at_⟩ := dt_of J.hok eD
  have lx : xs.length ≤ sizeLine := by have := Paired.length pr; omega
  have lp : (putK kvs k v).length ≤ sizeLine := by have := length_putK kvs k v; omega
  refine wpAny_dictSet_heap (hsz := lx) (show X.A.units < cLine from Nat.lt_of_succ_lt hu) (key_of J.hok eb) at_ fun hp' at' sb => h _ ?_
  obtain ⟨ob, es, ep, g1, g2, g3, g4, _, g5⟩ := at'
  exact d_write J (by rw [eD]; exact True.intro) sb ⟨ob, g1⟩ ⟨lp, hd, _, (pr.put k eb rv).keeps (fun c ys ec => by rw [upd_ne (ne_of ec eD (fun z => nomatch z))]; exact ec), ob, es, ep, g1, g2, g3, g4, g5⟩
/-- {(..): v for target in iter}: D the new dict -/
def tDt (wi : TI) (g : TG) (tt : TT) (tk tv : TE) (vs : List Nat) : TE := fun σ H Q => wi σ H fun It G => ∀ D, G D = none → ∃ W : Nat → Nat → Hp → Prop, (∃ m, W 0 m (upd G D (.dT []))) ∧ ∀ i m H, W i m H →
  (It.stop i H ∧ Q (.ref D) H) ∨ (It.go i H ∧ ∃ Nx : Hp → Prop, (∀ H', Nx H' → ∃ m', m' < m ∧ W (i + 1) m' H') ∧ ∀ x H', It.yld i H x H' → g x (wipe σ vs) H' fun τ H2 => wipe τ vs = wipe σ vs ∧ tt τ H2 fun ok H3 =>
    if ok = true then tk τ H3 fun y H4 => tv τ H4 fun z H5 => ∃ b kvs k, y = .ref b ∧ H5 b = some (.tup (k.map kV)) ∧ H5 D = some (.dT kvs) ∧ kvs.length < sizeLine ∧ Nx (upd H5 D (.dT (putK kvs k z))) else Nx H3)
/-- the parts of such a comprehension, read in each block -/
structure DtP (X : Cx) (kx vx tg : Expr) (ifs : List Expr) (scope : Scope) (g : TG) (tt : TT) (tk tv : TE) : Prop where
  g : ∀ (s : Shared) (H : Hp) (C : Addr) (cl : List (Str × Addr)) (fp : List Addr), PG (X.blk s H scope (compEnvC scope cl C X.env) fp) tg g
  t : ∀ (s : Shared) (H : Hp) (C : Addr) (cl : List (Str × Addr)) (fp : List Addr), PTs (X.blk s H scope (compEnvC scope cl C X.env) fp) ifs tt
  k : ∀ (s : Shared) (H : Hp) (C : Addr) (cl : List (Str × Addr)) (fp : List Addr), PE (X.blk s H scope (compEnvC scope cl C X.env) fp) kx tk
  v : ∀ (s : Shared) (H : Hp) (C : Addr) (cl : List (Str × Addr)) (fp : List Addr), PE (X.blk s H scope (compEnvC scope cl C X.env) fp) vx tv
theorem dt_core {Q : VK} {kx vx tg iter : Expr} {ifs : List Expr} {scope : Scope} {own : List (Str × Nat)} {pos pos' : Pos} {wi : TI} {g : TG} {tt : TT} {tk tv : TE} {use : Option (Value → Sem Unit)} {Qf : Value → Shared → Prop}
    (hu : X.A.units + 1 < cLine) (hc : X.calm = true) (nd : X.N.Nodup) (J : Inv X pins σ H s) (pi : PI X tg iter wi) (ok : BlkOk X.N X.env.scope scope own) (P : DtP X kx vx tg ifs scope g tt tk tv)
    (fl : ∀ x, foldedSetIterable iter X.env x = pure x) (h : tDt wi g tt tk tv (own.map (·.2)) σ H Q)
    (back : ∀ D C s' m H', Inv X pins σ H' s' → Q (.ref D) H' → s'.heap.Ns C m → FpOk X pins H' C → compPost (model X.prog X.w) X.A X.xe use Qf (.ref D) C (.ok .next) s') :
    wpAny (model X.prog X.w) X.A (comprehension (.DictComp kx vx [⟨tg, iter, ifs, 0⟩] scope pos) scope X.env pos' newDict false (eval iter X.env) use) Qf X.xe s := by
  have frees : ∀ y ∈ scope.names, y.2 = .free → ∃ c, X.env.cells.lookup y.1 = some c := fun y hy e => by
    rcases ok.free y hy e with k | k
    all_goals exact J.ok.has _ (by first | exact .inl k | exact .inr k)
  refine wpAny_comprehension_free (use := use) rfl fl (closure_ok frees) ok.kind (fun y hy e => by rw [ok.uniq y hy, e]) (thn (pi.run pins s σ H _ J h) fun xv t1 hx => thn hx fun itv t2 got => ?_)
  obtain ⟨it, fp, tn, It, G2, rfl, J2, T, st2, f2, q⟩ := got
  refine wpAny_newObj_type (newEnv_comp ?_)
  generalize eD : t2.heap.objs.size = D
  obtain ⟨W, ⟨m0, w0⟩, turn⟩ := q D (J2.hok.fresh (Nat.le_of_eq eD))
  -- the dict, empty
  generalize e3 : ({ t2 with heap := t2.heap.push { cls := .type "dict", data := .dict #[] } } : Shared) = t3
  have q3 : t3.heap = t2.heap.push { cls := .type "dict", data := .dict #[] } := by rw [← e3]
  have J3 : Inv X pins σ (upd G2 D (.dT [])) t3 := by
    rw [← e3]
    exact J2.laid (t' := t2.toks) (fun b o e => Heap.get?_push_of_some _ e) (Nat.le_of_eq eD) (by rw [← eD]; exact dt_empty t2.heap J2.big)
  have below : ∀ b ∈ fp, b < t2.heap.objs.size := fun b hb => (T.obj _ _ st2 b hb).elim fun o z => Heap.lt_size z.1
  have f3 : ∀ b ∈ fp, FpOk X pins (upd G2 D (.dT [])) b ∧ b < t3.heap.objs.size := fun b hb => ⟨⟨by rw [upd_ne (by rw [← eD]; exact Nat.ne_of_lt (below b hb))]; exact (f2 b hb).1, (f2 b hb).2⟩, by rw [q3, Heap.size_push]; exact Nat.lt_succ_of_lt (below b hb)⟩
  have st3 : tn 0 t3.heap := T.keep _ _ _ st2 fun b _ o e => by rw [q3]; exact Heap.get?_push_of_some _ e
  have J4 := block_start J3 ok nd f3
  have pg := P.g t3 (upd G2 D (.dT [])) t3.heap.objs.size (cellsFrom (t3.heap.objs.size + 1) scope.names (cloFrom X.env.cells scope.names [])) fp
  have pt := P.t t3 (upd G2 D (.dT [])) t3.heap.objs.size (cellsFrom (t3.heap.objs.size + 1) scope.names (cloFrom X.env.cells scope.names [])) fp
  have pk := P.k t3 (upd G2 D (.dT [])) t3.heap.objs.size (cellsFrom (t3.heap.objs.size + 1) scope.names (cloFrom X.env.cells scope.names [])) fp
  have pv := P.v t3 (upd G2 D (.dT [])) t3.heap.objs.size (cellsFrom (t3.heap.objs.size + 1) scope.names (cloFrom X.env.cells scope.names [])) fp
  show codeAny _ _ (.compStart (.DictComp kx vx [⟨tg, iter, ifs, 0⟩] scope pos) 0 (.ref it) (.ref D) (compEnvC scope (cellsFrom (t3.heap.objs.size + 1) scope.names (cloFrom X.env.cells scope.names [])) t3.heap.objs.size X.env)) (compPost (model X.prog X.w) X.A X.xe use Qf (.ref D) t3.heap.objs.size) { t3 with heap := pushCells (t3.heap.push { cls := .type "dict", data := .dict #[] }) scope.names }
  have nofp : ∀ b ∈ fp, (upd G2 D (.dT [])) b = none := fun b hb => (f3 b hb).1.1
  generalize ec : compEnvC scope (cellsFrom (t3.heap.objs.size + 1) scope.names (cloFrom X.env.cells scope.names [])) t3.heap.objs.size X.env = ce at J4 pg pt pk pv ⊢
  have eloc : ce.locals = t3.heap.objs.size := by rw [← ec]; rfl
  generalize eG3 : upd G2 D (.dT []) = G3 at J3 J4 pg pt pk pv w0 nofp f3
  generalize e4 : ({ t3 with heap := pushCells (t3.heap.push { cls := .type "dict", data := .dict #[] }) scope.names } : Shared) = t4 at J4 ⊢
  have st4 : tn 0 t4.heap := T.keep _ _ _ st3 fun b _ o e => by rw [← e4]; exact pushCells_keeps _ _ _ _ (Heap.get?_push_of_some _ e)
  have stay : ∀ {τ : L2.St} {G : Hp} {u : Shared}, Inv (X.blk t3 G3 scope ce fp) [] τ G u → (∀ b ∈ fp, G b = none) → ∀ b ∈ fp, FpOk (X.blk t3 G3 scope ce fp) [] G b := fun {τ G u} J' hn b hb =>
    ⟨hn b hb, (J'.ok.exf b hb).1, J'.ok.exfs b hb, .inl hb, fun x c e => (J'.ok.exf b hb).2 x c e, fun p hp => absurd (show p ∈ ([] : List (Addr × Obj)) ++ [] from hp) (by simp)⟩
  have lp : codeAny (model X.prog X.w) X.A (.compLoop (.DictComp kx vx [⟨tg, iter, ifs, 0⟩] scope pos) 0 (.ref it) (.ref D) ce) (compPost (model X.prog X.w) X.A X.xe use Qf (.ref D) t3.heap.objs.size) t4 := by
    refine compLoop_anyD (fun n u => ∃ i G, Inv (X.blk t3 G3 scope ce fp) [] (wipe σ (own.map (·.2))) G u ∧ tn i u.heap ∧ (∀ b ∈ fp, G b = none) ∧ W i n G) (fun n t5 => ?_) m0 ⟨0, G3, J4, st4, nofp, w0⟩
    rintro ⟨i, G5, J5, st5, n5, w5⟩
    rcases turn i n G5 w5 with ⟨stop, qq⟩ | ⟨go, Nx, hNx, step⟩
    · refine thnF (T.done (X.blk t3 G3 scope ce fp) rfl rfl rfl hc i [] t5 _ G5 (fun _ _ => False) J5 (stay J5 n5) st5 stop) fun r t6 ⟨hr, J6⟩ => ?_
      subst hr
      have J7 : Inv X pins σ G5 t6 := J3.call' (ch := fp) J6.os J6.base J6.hok J6.bare fun b hb => ⟨(f3 b hb).1.2.2.2.1, (f3 b hb).1.2.1, (f3 b hb).1.2.2.2.2.1, (f3 b hb).1.2.2.2.2.2⟩
      obtain ⟨m, hm, _⟩ := J6.loc
      have hm : t6.heap.Ns ce.locals m := hm
      have nC : G5 ce.locals = none := J6.free
      rw [eloc] at hm nC
      exact back D t3.heap.objs.size t6 m G5 J7 qq hm (J3.fpOk (Nat.le_refl _) nC)
    · refine thnF (T.item (X.blk t3 G3 scope ce fp) rfl rfl rfl hc i [] t5 _ G5 (fun _ _ => False) J5 (stay J5 n5) st5 go) fun r t6 ⟨u, hr, h6⟩ => ?_
      subst hr
      refine thnF h6 fun _ t7 ⟨x, G7, J7, r7, y7, st7, n7⟩ => ?_
      have J7' := J7.pinned (stay J7 n7) (T.obj _ _ st7)
      refine thnF (pg.run _ t7 _ G7 x u _ J7' r7 (step x G7 y7)) fun _ t8 ⟨τ, G8, J8, w8, q8⟩ => ?_
      refine thnF (pt.run _ t8 τ G8 _ J8 q8) fun b t9 ⟨G9, J9, q9⟩ => ?_
      have fin : ∀ {u : Shared} {G : Hp}, Inv (X.blk t3 G3 scope ce fp) ([] ++ pinsAt fp t7.heap) τ G u → Nx G → ∃ m, m < n ∧ ∃ i G, Inv (X.blk t3 G3 scope ce fp) [] (wipe σ (own.map (·.2))) G u ∧ tn i u.heap ∧ (∀ b ∈ fp, G b = none) ∧ W i m G := fun {u G} J' nx => by
        obtain ⟨m', hm, w'⟩ := hNx G nx
        have pin : ∀ b ∈ fp, ∀ o, t7.heap.get? b = some o → u.heap.get? b = some o ∧ G b = none := fun b hb o e => (J'.pin (b, o) (List.mem_append_right _ (List.mem_append_right _ (mem_pinsAt hb e)))).elim fun z1 z2 => ⟨z1, z2.1⟩
        refine ⟨m', hm, i + 1, G, (J'.unpinned (pins := [])).weak (by rw [← w8, wipe_length]) (fun j v e => ?_), T.keep _ _ _ st7 fun b hb o e => (pin b hb o e).1, fun b hb => (T.obj _ _ st7 b hb).elim fun o z => (pin b hb o z.1).2, w'⟩
        rw [← w8] at e
        exact (wipe_some e).1
      cases b
      · simp only [Bool.false_eq_true, if_false] at q9 ⊢
        exact fin J9 q9
      · simp only [if_true] at q9 ⊢
        refine thnF (pk.run _ t9 τ G9 _ J9 q9) fun z t10 ⟨yk, G10, J10, r10, q10⟩ => ?_
        refine thnF (pv.run _ t10 τ G10 _ J10 q10) fun z2 t11 ⟨yv, G11, J11, r11, b, kvs, k, eb, hb, hD, lz, nx⟩ => ?_
        subst eb
        cases (show z = Value.ref b from r10)
        exact dt_set (X := X.blk t3 G3 scope ce fp) hu J11 hD lz hb r11 fun t12 J12 => fin J12 nx
  exact codeAny_compStart_dict lp (T.self X.A 0 _ _ _ st4 lp)
theorem pe_dt {kx vx tg iter : Expr} {ifs : List Expr} {scope : Scope} {own : List (Str × Nat)} {pos : Pos} {wi : TI} {g : TG} {tt : TT} {tk tv : TE} (hu : X.A.units + 1 < cLine) (hc : X.calm = true) (nd : X.N.Nodup) (pi : PI X tg iter wi) (ok : BlkOk X.N X.env.scope scope own)
    (pg : ∀ (s : Shared) (H : Hp) (C : Addr) (cl : List (Str × Addr)) (fp : List Addr), PG (X.blk s H scope (compEnvC scope cl C X.env) fp) tg g) (pt : ∀ (s : Shared) (H : Hp) (C : Addr) (cl : List (Str × Addr)) (fp : List Addr), PTs (X.blk s H scope (compEnvC scope cl C X.env) fp) ifs tt)
    (pk : ∀ (s : Shared) (H : Hp) (C : Addr) (cl : List (Str × Addr)) (fp : List Addr), PE (X.blk s H scope (compEnvC scope cl C X.env) fp) kx tk) (pv : ∀ (s : Shared) (H : Hp) (C : Addr) (cl : List (Str × Addr)) (fp : List Addr), PE (X.blk s H scope (compEnvC scope cl C X.env) fp) vx tv)
    (fl : ∀ x, foldedSetIterable iter X.env x = pure x := by intro _; rfl) : PE X (.DictComp kx vx [⟨tg, iter, ifs, 0⟩] scope pos) (tDt wi g tt tk tv (own.map (·.2))) := by
  refine ⟨fun pins s σ H Q J h => ?_⟩
  rw [arm_eval_DictComp]
  refine dt_core hu hc nd J pi ok ⟨pg, pt, pk, pv⟩ fl h fun D C s' m H' J' q hn f => ⟨m, hn, fun h'' sb => ?_⟩
  exact ⟨.ref D, H', J'.turned (t' := s'.toks) (fun b o hb e => (sb.2 b hb).trans e) f.1 f.2.1 f.2.2.2.1 f.2.2.2.2.1 f.2.2.2.2.2, rfl, q⟩
/-- d.pop(k), the key there -/
def rPop1T : V → List V → Hp → VK → Prop := fun x xs H Q => ∃ (a b : Addr) (kvs : List (List L2.Key × V)) (k : List L2.Key) (v : V), x = .ref a ∧ xs = [.ref b] ∧ H a = some (.dT kvs) ∧ H b = some (.tup (k.map kV)) ∧ valV kvs k = some v ∧ Q v (upd H a (.dT (dropK kvs k)))
theorem mt_pop1T (hu : X.A.units + 1 < cLine) : MtR X "dict.pop" rPop1T := by
  intro pins s σ H x xs v us Q J rx rxs h
  obtain ⟨a, b, kvs, k, v0, rfl, rfl, ha, hb, hv, q⟩ := h
  cases rx
  obtain ⟨u1, rfl, r1⟩ := vals1 rxs
  cases (show u1 = Value.ref b from r1)
  obtain ⟨lk, hd, xs, pr, at_⟩ := dt_of J.hok ha
  have lx : xs.length ≤ sizeLine := by have := Paired.length pr; omega
  have rv := pr.val k
  rw [hv] at rv
  cases hp : atKey xs k with
  | none =>
    rw [hp] at rv
    exact rv.elim
  | some p =>
    rw [hp] at rv
    refine call_pop_heap (p := p) (.inl rfl) (PySem.F.args_dict_pop_2 _ _) (tupleKind_room_in1 hu) (key_of J.hok hb) hd at_ hp (fun hp' at' sb => ?_) lx
    obtain ⟨ob, es, ep, g1, g2, g3, g4, _, g5⟩ := at'
    exact ⟨v0, upd H a (.dT (dropK kvs k)), d_write (ob := .dT (dropK kvs k)) J (by rw [ha]; exact True.intro) sb ⟨ob, g1⟩ ⟨Nat.le_trans (dropK_le kvs k) lk, hd, _, (DX.KT_drop k pr).keeps (fun c ys ec => by rw [upd_ne (ne_of ec ha (fun z => nomatch z))]; exact ec), ob, es, ep, g1, g2, g3, g4, g5⟩, rv, q⟩
end
end Hk
namespace Hs
open PySem PySem.Spec PyProof.Rows L2 Hu Evl
open Hk (SI ltSI)
abbrev sChanged : Stmt := topS 61
abbrev sByHolder : Stmt := topS 64
abbrev sInOrder : Stmt := topS 65
abbrev sLeased : Stmt := topS 71
abbrev sFreed : Stmt := topS 72
abbrev sTicked : Stmt := topS 76
abbrev sRisen : Stmt := topS 78
abbrev sBehind : Stmt := topS 82
abbrev sLets : Stmt := topS 83
abbrev sDone : Stmt := topS 84
/-- a table, its clock and leases open -/
structure Tb where
  (e m a : U)
  clock : Int
  (h b : U)
  ls : List Ls
  (p v n : U)
def lsU (l : Ls) : U := .tup [.str l.1.1, .int l.1.2, .int l.2.1, .int l.2.2]
def tabU (T : Tb) : U := .tup [T.e, T.m, T.a, .int T.clock, T.h, T.b, .tup (T.ls.map lsU), T.p, T.v, T.n]
section
variable {P : Program} {wd : World} {K : PySem.W.Frag} {mg : Str → Option Value} {base : Heap} {C : Addr}
/-! ### changed -/
theorem scChanged : FnScope ["table", "at", "part"] ["table", "at", "part"] (defScope sChanged) := ⟨rfl, rfl, rfl, by decide +kernel, rfl, by decide +kernel, by decide +kernel⟩
def spCh (C : Addr) : Sp := fun vs H Q _ => ∃ (x y : V) (k : Nat) (us : List U) (u : U) (w : Addr), vs = [x, .int (k : Int), y] ∧ At w C H x (.tup us) ∧ At w C H y u ∧ (∃ o, H w = some o) ∧ k < us.length ∧ us.length ≤ 1000 ∧
  ∀ v H', Same H H' → At w C H' v (.tup (us.set k u)) → Q v H'
theorem set_cut (us : List U) (k : Nat) (u : U) (h : k < us.length) : cutU us none (some (k : Int)) ++ [u] ++ cutU us (some ((k : Int) + 1)) none = us.set k u := by
  have e1 : cutU us none (some (k : Int)) = us.take k := by
    unfold cutU
    have z1 : HT.sIx us.length 0 none = 0 := rfl
    have z2 : HT.sIx us.length us.length (some (k : Int)) = k := by
      simp only [HT.sIx]
      rw [if_neg (by omega)]
      omega
    rw [z1, z2]
    simp
  have e2 : cutU us (some ((k : Int) + 1)) none = us.drop (k + 1) := by
    unfold cutU
    have z1 : HT.sIx us.length 0 (some ((k : Int) + 1)) = k + 1 := by
      simp only [HT.sIx]
      rw [if_neg (by omega)]
      omega
    have z2 : HT.sIx us.length us.length none = us.length := rfl
    rw [z1, z2, List.take_of_length_le (by rw [List.length_drop]; omega)]
  rw [e1, e2, List.set_eq_take_append_cons_drop, if_pos h]
  simp
theorem ok_changed {f : Addr} {fd : FuncData} (D : Df K mg "changed" sChanged ["table", "at", "part"] f fd) : FnOk P wd K mg base CX0 1 f fd ["table", "at", "part"] (spCh C) := by
  refine D.F.ok scChanged (fun vs H Q E h => ?_) (fun cdv A outer s H vs Q E hr h => ?_)
  · obtain ⟨x, y, k, us, u, w, rfl, _⟩ := h
    rfl
  obtain ⟨x, y, j, us, u, w, rfl, hx, hy, hw, hj, hz, k⟩ := h
  refine ⟨_, pss_one (ps_ret (pe_op op_catF (pe_op op_catF (pe_slice sl_tupF (pv 0) po_none (po_some (pv 1))) (pe_tupF (pa_cons (pv 2) pa_nil))) (pe_slice sl_tupF (pv 0) (po_some (pe_op op_add (pv 1) pe_int)) po_none))), ?_⟩
  obtain ⟨a, xs, rfl, ha, na, hl⟩ := at_tup hx
  have main : EvD w C (tOp (rCatF K) (tOp (rCatF K) (tSl (rSlF K) (tVar 0) tNoPart (tPart (tVar 1))) (tTupF (tCons (tVar 2) tNil))) (tSl (rSlF K) (tVar 0) (tPart (tOp (rI0 fun i j => .int (i + j)) (tVar 1) (tC (.int 1)))) tNoPart)) [some (.ref a), some (.int (j : Int)), some y] H (.tup (us.set j u)) := by
    rw [← set_cut us j u hj]
    have l1 : (cutU us none (some (j : Int))).length ≤ 1000 := by
      unfold cutU
      rw [List.length_take, List.length_drop]
      omega
    have l2 : (cutU us (some ((j : Int) + 1)) none).length ≤ 1000 := by
      unfold cutU
      rw [List.length_take, List.length_drop]
      omega
    refine ed_cat hw (ed_cat hw (ed_slice hw (ev_var rfl) ha na hl eo_none (eo_some (ev_var rfl))) (ed_tup hw (eds_cons (ed_ev (ev_var rfl) hy) eds_nil) (by show (1 : Nat) ≤ 100000; decide)) ?_) (ed_slice hw (ev_var rfl) ha na hl (eo_some (ev_op (ev_var rfl) ev_c rv_I0)) eo_none) ?_
    · show _ + 1 ≤ 100000
      omega
    · rw [List.length_append]
      show _ + 1 + _ ≤ 100000
      omega
  exact main H (Ex.refl H) _ fun v H1 e a => k v H1 e a
/-! ### dicts of leases -/
inductive Dl (H : Hp) : List (List L2.Key × V) → List Ls → Prop
  | nil : Dl H [] []
  | cons {p : Addr} {l : Ls} {kvs : List (List L2.Key × V)} {L : List Ls} : H p = some (.tup [.int l.2.1, .int l.2.2]) → Dl H kvs L → Dl H ((Hk.keySI l.1, .ref p) :: kvs) (l :: L)
theorem Dl.tups {H H' : Hp} {kvs : List (List L2.Key × V)} {L : List Ls} (e : ∀ b zs, H b = some (.tup zs) → H' b = some (.tup zs)) (h : Dl H kvs L) : Dl H' kvs L := by
  induction h with
  | nil => exact .nil
  | cons h _ ih => exact .cons (e _ _ h) ih
theorem Dl.len {H : Hp} {kvs : List (List L2.Key × V)} {L : List Ls} (h : Dl H kvs L) : kvs.length = L.length := by
  induction h with
  | nil => rfl
  | cons _ _ ih => rw [List.length_cons, List.length_cons, ih]
theorem Dl.keys {H : Hp} {kvs : List (List L2.Key × V)} {L : List Ls} (h : Dl H kvs L) : kvs.map (·.1) = (L.map (·.1)).map Hk.keySI := by
  induction h with
  | nil => rfl
  | cons _ _ ih => rw [List.map_cons, List.map_cons, List.map_cons, ih]
theorem keySI_inj {a b : SI} (h : Hk.keySI a = Hk.keySI b) : a = b := by
  injection h with h1 h2
  injection h2 with h3 h4
  exact Prod.ext (Sum.inr.inj h1) (Sum.inl.inj h3)
theorem Dl.vnone {H : Hp} {kvs : List (List L2.Key × V)} {L : List Ls} (h : Dl H kvs L) {k : SI} (g : getL L k = none) : valV kvs (Hk.keySI k) = none := by
  induction h with
  | nil => rfl
  | @cons p l kvs L _ _ ih =>
    rw [getL_cons] at g
    by_cases q : l.1 = k
    · rw [if_pos q] at g
      cases g
    · rw [if_neg q] at g
      rw [valV_neg fun e => q (keySI_inj e)]
      exact ih g
theorem Dl.vsome {H : Hp} {kvs : List (List L2.Key × V)} {L : List Ls} (h : Dl H kvs L) {k : SI} {v : Int × Int} (g : getL L k = some v) : ∃ p, valV kvs (Hk.keySI k) = some (.ref p) ∧ H p = some (.tup [.int v.1, .int v.2]) := by
  induction h with
  | nil => cases g
  | @cons p l kvs L hp _ ih =>
    rw [getL_cons] at g
    by_cases q : l.1 = k
    · rw [if_pos q] at g
      cases g
      rw [valV_pos (congrArg Hk.keySI q)]
      exact ⟨p, rfl, hp⟩
    · rw [if_neg q] at g
      rw [valV_neg fun e => q (keySI_inj e)]
      exact ih g
theorem Dl.append {H : Hp} {kvs kvs2 : List (List L2.Key × V)} {L L2 : List Ls} (h : Dl H kvs L) (h2 : Dl H kvs2 L2) : Dl H (kvs ++ kvs2) (L ++ L2) := by
  induction h with
  | nil => exact h2
  | cons hp _ ih => exact .cons hp ih
theorem Dl.repl {H : Hp} {kvs : List (List L2.Key × V)} {L : List Ls} {k : SI} {p : Addr} {v : Int × Int} (hp : H p = some (.tup [.int v.1, .int v.2])) (h : Dl H kvs L) :
    Dl H (kvs.map fun kv => if kv.1 = Hk.keySI k then (kv.1, V.ref p) else kv) (L.map fun l => if l.1 = k then (k, v) else l) := by
  induction h with
  | nil => exact .nil
  | @cons p' l kvs L hp' _ ih =>
    rw [List.map_cons, List.map_cons]
    by_cases q : l.1 = k
    · rw [if_pos q, if_pos (congrArg Hk.keySI q)]
      have : (Hk.keySI l.1, V.ref p) = (Hk.keySI ((k, v) : Ls).1, V.ref p) := by rw [q]
      rw [this]
      exact .cons hp ih
    · rw [if_neg q, if_neg fun e => q (keySI_inj e)]
      exact .cons hp' ih
theorem putL_map {L : List Ls} {k : SI} {v : Int × Int} (n : ndK L) (g : (getL L k).isSome = true) : putL L k v = L.map fun l => if l.1 = k then (k, v) else l := by
  induction L with
  | nil => cases g
  | cons l r ih =>
    unfold ndK at n
    rw [List.map_cons, List.nodup_cons] at n
    unfold putL
    rw [getL_cons] at g
    rw [List.map_cons]
    by_cases q : l.1 = k
    · rw [if_pos q, if_pos q]
      congr 1
      refine ((List.map_congr_left fun x hx => ?_).trans (List.map_id _)).symm
      exact if_neg fun e => n.1 (by rw [q, ← e]; exact List.mem_map.mpr ⟨x, hx, rfl⟩)
    · rw [if_neg q] at g
      rw [if_neg q, if_neg q, ih n.2 g]
theorem Dl.put {H : Hp} {kvs : List (List L2.Key × V)} {L : List Ls} (n : ndK L) {k : SI} {p : Addr} {v : Int × Int} (h : Dl H kvs L) (hp : H p = some (.tup [.int v.1, .int v.2])) : Dl H (putK kvs (Hk.keySI k) (.ref p)) (putL L k v) := by
  cases g : getL L k with
  | none =>
    rw [putK_new _ (h.vnone g), put_new g]
    exact h.append (.cons (l := (k, v)) hp .nil)
  | some x =>
    obtain ⟨q, hq, _⟩ := h.vsome g
    have ha : (kvs.any fun kv => decide (kv.1 = Hk.keySI k)) = true := by
      rw [valV_any, hq]
      rfl
    rw [putL_map n (by rw [g]; rfl)]
    unfold putK
    rw [if_pos ha]
    exact h.repl hp
theorem Dl.drop {H : Hp} {kvs : List (List L2.Key × V)} {L : List Ls} (k : SI) (h : Dl H kvs L) : Dl H (dropK kvs (Hk.keySI k)) (dropL L k) := by
  induction h with
  | nil => exact .nil
  | @cons p l kvs L hp _ ih =>
    unfold dropK dropL at *
    by_cases q : l.1 = k
    · rw [List.filter_cons_of_neg (by rw [q]; simp), List.filter_cons_of_neg (by simp [q])]
      exact ih
    · rw [List.filter_cons_of_pos (p := fun kv : List L2.Key × V => decide (kv.1 ≠ Hk.keySI k)) (decide_eq_true fun e => q (keySI_inj e)), List.filter_cons_of_pos (p := fun l : Ls => decide (l.1 ≠ k)) (decide_eq_true q)]
      exact .cons hp ih
end
end Hs
namespace Hs
open PySem PySem.Spec PyProof.Rows L2 Hu Evl
open Hk (SI ltSI)
theorem dt_tup {K : PySem.W.Frag} {a : Addr} {xs : List V} {g : TG} {tt : TT} {tk tv : TE} {vs : List Nat} {σ : L2.St} {G : Hp} {D : Addr} {Qd : Hp → Prop} (Pv : Nat → Hp → Prop) (h0 : Pv 0 (upd G D (.dT []))) (hl : ∀ i H, i ≤ xs.length → Pv i H → SqT K H a xs)
    (hs : ∀ i x H, xs[i]? = some x → Pv i H → g x (wipe σ vs) H fun τ H2 => wipe τ vs = wipe σ vs ∧ tt τ H2 fun ok H3 =>
      if ok = true then tk τ H3 fun y H4 => tv τ H4 fun z H5 => ∃ b kvs k, y = .ref b ∧ H5 b = some (.tup (k.map kV)) ∧ H5 D = some (.dT kvs) ∧ kvs.length < sizeLine ∧ Pv (i + 1) (upd H5 D (.dT (putK kvs k z))) else Pv (i + 1) H3) (hd : ∀ H, Pv xs.length H → Qd H) :
    ∃ W : Nat → Nat → Hp → Prop, (∃ m, W 0 m (upd G D (.dT []))) ∧ ∀ i m H, W i m H →
      ((Itt K a).stop i H ∧ Qd H) ∨ ((Itt K a).go i H ∧ ∃ Nx : Hp → Prop, (∀ H', Nx H' → ∃ m', m' < m ∧ W (i + 1) m' H') ∧ ∀ x H', (Itt K a).yld i H x H' → g x (wipe σ vs) H' fun τ H2 => wipe τ vs = wipe σ vs ∧ tt τ H2 fun ok H3 =>
        if ok = true then tk τ H3 fun y H4 => tv τ H4 fun z H5 => ∃ b kvs k, y = .ref b ∧ H5 b = some (.tup (k.map kV)) ∧ H5 D = some (.dT kvs) ∧ kvs.length < sizeLine ∧ Nx (upd H5 D (.dT (putK kvs k z))) else Nx H3) := by
  refine ⟨fun i m H => m = xs.length - i ∧ i ≤ xs.length ∧ Pv i H, ⟨xs.length, (Nat.sub_zero _).symm, Nat.zero_le _, h0⟩, ?_⟩
  rintro i m H ⟨em, le, p⟩
  by_cases h : i < xs.length
  · exact .inr ⟨⟨xs, xs[i], hl i H le p, List.getElem?_eq_getElem h⟩, Pv (i + 1), fun H' p' => ⟨xs.length - (i + 1), by omega, rfl, h, p'⟩, fun x H' y => by
      have ex := y.2 xs (hl i H le p)
      rw [y.1]
      exact hs i x H ex p⟩
  · have e : i = xs.length := by omega
    exact .inl ⟨⟨xs, hl i H le p, by omega⟩, hd H (by rw [← e]; exact p)⟩
theorem at_ls {w C : Addr} {H : Hp} {x : V} {l : Ls} (h : At w C H x (lsU l)) : ∃ p, x = .ref p ∧ H p = some (.tup [.str l.1.1, .int l.1.2, .int l.2.1, .int l.2.2]) := four_at h
theorem lsU_pln (l : Ls) : pln (lsU l) := by
  unfold lsU
  simp [pln, plnL]
section
variable {P : Program} {wd : World} {K : PySem.W.Frag} {mg : Str → Option Value} {base : Heap} {C : Addr}
theorem atl_leases {w : Addr} {H : Hp} {xs : List V} {L : List Ls} (h : AtL w C H xs (L.map lsU)) {i : Nat} {x : V} (hx : xs[i]? = some x) : ∃ l, L[i]? = some l ∧ At w C H x (lsU l) := by
  have hl := AtL.length h
  rw [List.length_map] at hl
  have hi : i < L.length := by
    have := (List.getElem?_eq_some_iff.mp hx).1
    omega
  obtain ⟨y, hy, ha⟩ := AtL.get h (i := i) (by rw [List.getElem?_map, List.getElem?_eq_getElem hi]; rfl)
  rw [hx] at hy
  cases hy
  exact ⟨L[i], List.getElem?_eq_getElem hi, ha⟩
/-! ### _leases_by_holder -/
theorem scByHolder : FnScope ["table", "name", "hand", "talk", "until"] ["table"] (defScope sByHolder) := ⟨rfl, rfl, rfl, by decide +kernel, rfl, by decide +kernel, by decide +kernel⟩
def spBy (C : Addr) : Sp := fun vs H Q _ => ∃ (x : V) (T : Tb) (w : Addr), vs = [x] ∧ At w C H x (tabU T) ∧ ndK T.ls ∧ T.ls.length ≤ 40000 ∧ ∀ d kvs H', H d = none → Same H H' → H' d = some (.dT kvs) → Dl H' kvs T.ls → Q (.ref d) H'
theorem nth_at {w : Addr} {H : Hp} {x : V} {us : List U} {σ : L2.St} {te : TE} (hat : At w C H x (.tup us)) (h : Ev te σ H x) (k : Nat) (hk : k < us.length) : ∃ y, Ev (tOp (rIxT K) te (tC (.int (k : Int)))) σ H y ∧ At w C H y (us.getD k .non) :=
  ev_nth (m := us.length) h hat (decide_eq_true rfl) hk
theorem ok_byHolder {f : Addr} {fd : FuncData} (D : Df K mg "_leases_by_holder" sByHolder ["table"] f fd) (N : Ct mg) : FnOk P wd K mg base CX0 1 f fd ["table"] (spBy C) := by
  refine D.F.ok scByHolder (fun vs H Q E h => ?_) (fun cdv A outer s H vs Q E hr h => ?_)
  · obtain ⟨x, T, w, rfl, _⟩ := h
    rfl
  obtain ⟨x, T, w, rfl, hx, nd, hz, k⟩ := h
  refine ⟨_, pss_one (ps_ret (Hk.pe_dt (g := gTup K 4 (gCons (gName 1) (gCons (gName 2) (gCons (gName 3) (gCons (gName 4) gNil))))) (tt := tYes) (tk := tTup (tCons (tVar 1) (tCons (tVar 2) tNil))) (tv := tTup (tCons (tVar 3) (tCons (tVar 4) tNil))) (own := [("name", 1), ("hand", 2), ("talk", 3), ("until", 4)]) (Nat.lt_of_le_of_lt (Nat.add_le_add_left (by decide : 1 ≤ 64) _) (room_hu hr)) rfl scByHolder.nd (pi_tup (pe_ix ix_tup (pv 0) (pe_gi (by rfl) N.p6) (fun _ _ => rfl)))
    (blkOk_by (N := ["table", "name", "hand", "talk", "until"]) (sc := defScope sByHolder) (by decide +kernel))
    (fun _ _ _ _ _ => pg_tup rfl (pgs_cons (pg_name (i := 1) scByHolder.nd rfl (.inl rfl)) (pgs_cons (pg_name (i := 2) scByHolder.nd rfl (.inl rfl)) (pgs_cons (pg_name (i := 3) scByHolder.nd rfl (.inl rfl)) (pgs_cons (pg_name (i := 4) scByHolder.nd rfl (.inl rfl)) pgs_nil)))))
      (fun _ _ _ _ _ => pts_nil) (fun _ _ _ _ _ => pe_tup (pa_cons (pv 1) (pa_cons (pv 2) pa_nil))) (fun _ _ _ _ _ => pe_tup (pa_cons (pv 3) (pa_cons (pv 4) pa_nil))))), ?_⟩
  obtain ⟨y, ey, ay⟩ := nth_at (K := K) (us := _) (σ := [some x, none, none, none, none]) (te := tVar 0) hx (ev_var rfl) 6 (by show 6 < 10; decide)
  have ay' : At w C H y (.tup (T.ls.map lsU)) := ay
  obtain ⟨a, xs, rfl, ha, na, hl⟩ := at_tup ay'
  have hlen := AtL.length hl
  rw [List.length_map] at hlen
  refine ey H (Ex.refl H) _ fun H1 e1 => ⟨a, rfl, ⟨xs, Tu.st (Tu.ex e1 ha)⟩, fun Dd hD => dt_tup (xs := xs) (fun i G => Ex H1 G ∧ ∃ kvs, G Dd = some (.dT kvs) ∧ Dl G kvs (T.ls.take i)) ⟨Ex.new hD, [], upd_same, .nil⟩ (fun i G _ p => Tu.st (Tu.ex p.1 (Tu.ex e1 ha))) (fun i x G hi p => ?_) (fun G p => ?_)⟩
  · obtain ⟨p1, kvs, p2, p3⟩ := p
    obtain ⟨l, hl1, hx1⟩ := atl_leases hl hi
    obtain ⟨b, rfl, hb⟩ := at_ls (ex_at (e1.trans p1) hx1)
    refine ⟨b, _, rfl, st_of hb, rfl, _, _, rfl, _, _, rfl, _, _, rfl, _, _, rfl, rfl, rfl, ?_⟩
    refine et_yes G (Ex.refl G) _ fun G0 e0 => ?_
    rw [if_pos rfl]
    refine eu_tup (ea_cons (ev_var rfl) (ea_cons (ev_var rfl) ea_nil)) (by show (2 : Nat) ≤ 100000; decide) G0 (Ex.refl G0) _ fun c G1 _ e2' kc => ?_
    have e2 := e0.trans e2'
    refine eu_tup (ea_cons (ev_var rfl) (ea_cons (ev_var rfl) ea_nil)) (by show (2 : Nat) ≤ 100000; decide) G1 (Ex.refl G1) _ fun d G2 _ e3 kd => ?_
    have hi1 : i < T.ls.length := (List.getElem?_eq_some_iff.mp hl1).1
    have g0 : getL (T.ls.take i) l.1 = none := getL_none.mpr fun y hy ey' => by
      have n1 : ndK (T.ls.take (i + 1)) := List.Nodup.sublist (List.Sublist.map _ (List.take_sublist _ _)) nd
      rw [List.take_add_one, hl1] at n1
      unfold ndK at n1
      rw [List.map_append, List.nodup_append] at n1
      exact n1.2.2 y.1 (List.mem_map.mpr ⟨y, hy, rfl⟩) l.1 (by show l.1 ∈ [l.1]; simp) ey'
    have nt : ∀ b zs, G2 b = some (.tup zs) → upd G2 Dd (.dT (putK kvs (Hk.keySI l.1) (.ref d))) b = some (.tup zs) := fun b zs hb => by
      rw [upd_ne (fun z => by rw [z, e3 _ _ (e2 _ _ p2)] at hb; cases hb)]
      exact hb
    refine ⟨c, kvs, Hk.keySI l.1, rfl, e3 _ _ kc, e3 _ _ (e2 _ _ p2), ?_, Ex.mut ((p1.trans e2).trans e3) hD, _, upd_same, ?_⟩
    · have := p3.len
      rw [List.length_take] at this
      exact sz_lt (by omega)
    · rw [List.take_add_one, hl1, putK_new _ (p3.vnone g0)]
      exact ((p3.tups fun b zs h => e3 _ _ (e2 _ _ h)).append (.cons (l := l) kd .nil)).tups (by rw [← putK_new (v := V.ref d) (p3.vnone g0)]; exact nt)
  · obtain ⟨p1, kvs, p2, p3⟩ := p
    rw [hlen, List.take_length] at p3
    exact k Dd kvs G (fresh_back e1 hD) (e1.trans p1) p2 p3
end
end Hs
namespace Hs
open PySem PySem.Spec PyProof.Rows L2 Hu Evl
open Hk (SI ltSI)
/-- the built-ins that k03 has more than k01 -/
structure Bz (mg : Str → Option Value) : Prop where
  sort : mg "sorted" = none
  zip : mg "zip" = none
theorem boot_sorted' : bootBuiltins "sorted" = some (.builtin "sorted") := by decide +kernel
theorem boot_max' : bootBuiltins "max" = some (.builtin "max") := by decide +kernel
section
variable {K : PySem.W.Frag} {w C : Addr} {σ : L2.St} {H : Hp} {tl te : TE}
/-- [f(x) for x in a list], each known by its data -/
theorem lc_DL {Rx : List V → Hp → Prop} {fs : List U} {j : Nat} {vs : List Nat} (hT : ∀ H0, Ex H H0 → ∀ Q : VK, (∀ p xs H1, Ex H0 H1 → H1 p = some (.lst xs) → Rx xs H1 → Q (.ref p) H1) → tl σ H0 Q) (hz : fs.length ≤ 40000) (hp : ∀ u ∈ fs, pln u) (hw : ∀ x, wipe ((wipe σ vs).set j (some x)) vs = wipe σ vs)
    (he : ∀ xs G0, Ex H G0 → Rx xs G0 → fs.length = xs.length ∧ ∀ (i : Nat) (x : V) (u : U) (G : Hp), xs[i]? = some x → fs[i]? = some u → Ex G0 G → EvD w C te ((wipe σ vs).set j (some x)) G u) :
    EvLD w C (tLc (iList K tl) (gName j) tYes te vs) σ H fs := fun H0 e Q q => hT H0 e _ fun a xs H1 e1 ha hR => ⟨a, rfl, ⟨xs, sq_of ha⟩, fun Dd hD => by
    obtain ⟨hlen, he'⟩ := he xs H1 (e.trans e1) hR
    exact lc_list (xs := xs) (fun i H' => Ex H1 H' ∧ ∃ ys, H' Dd = some (.lst ys) ∧ ys.length ≤ i ∧ AtL w C H' ys (fs.take i)) ⟨Ex.new hD, [], upd_same, Nat.le_refl _, .nil⟩ (fun i H' _ p => sq_of (p.1 _ _ ha)) (fun i x H2 hi p => by
      obtain ⟨p1, ys, p2, p3, p4⟩ := p
      have hu : i < fs.length := by
        have := (List.getElem?_eq_some_iff.mp hi).1
        omega
      refine ⟨hw x, et_yes H2 (Ex.refl H2) _ fun H3 e3 => ?_⟩
      rw [if_pos rfl]
      refine he' i x fs[i] H3 hi (List.getElem?_eq_getElem hu) (p1.trans e3) H3 (Ex.refl H3) _ fun v H4 e4 a4 => ⟨ys, e4 _ _ (e3 _ _ p2), ?_, fun q o hq => ?_, ys ++ [v], upd_same, ?_, ?_⟩
      · have := bit_line
        unfold bit at this
        omega
      · rw [upd_ne (ne_of_none hq hD)]
        exact e4 _ _ (e3 _ _ (p1 _ _ hq))
      · rw [List.length_append]
        show ys.length + 1 ≤ i + 1
        omega
      · have nt := tq_upd (w := w) (x := .lst (ys ++ [v])) (e4 _ _ (e3 _ _ p2))
        rw [List.take_add_one, List.getElem?_eq_getElem hu]
        exact AtL.append (atl_tups nt (plnL_all.mpr fun y hy => hp y (List.mem_of_mem_take hy)) (ex_atl (e3.trans e4) p4)) (.cons (at_tups nt (hp _ (List.getElem_mem hu)) a4) .nil)) (fun H' p => by
      obtain ⟨p1, ys, p2, p3, p4⟩ := p
      rw [← hlen, List.take_length] at p4
      exact q Dd ys H' (fresh_back e1 hD) (e1.trans p1) p2 p4)⟩
end
section
variable {P : Program} {wd : World} {K : PySem.W.Frag} {mg : Str → Option Value} {base : Heap} {C : Addr}
theorem byKeys_len (L : List Ls) (zs : List SI) : (byKeys L zs).length = zs.length := by
  unfold byKeys
  rw [List.length_map]
/-! ### _leases_in_order -/
theorem scInOrder : FnScope ["found", "holder"] ["found"] (defScope sInOrder) := ⟨rfl, rfl, rfl, by decide +kernel, rfl, by decide +kernel, by decide +kernel⟩
def spOrd (C : Addr) : Sp := fun vs H Q _ => ∃ (d : Addr) (kvs : List (List L2.Key × V)) (L L' : List Ls) (w : Addr), vs = [.ref d] ∧ H d = some (.dT kvs) ∧ Dl H kvs L ∧ ndK L ∧ srt L' ∧ (∀ k, getL L' k = getL L k) ∧ L.length ≤ 40000 ∧ (∃ o, H w = some o) ∧
  ∀ v H', Same H H' → At w C H' v (.tup (L'.map lsU)) → Q v H'
theorem ok_inOrder {f : Addr} {fd : FuncData} (D : Df K mg "_leases_in_order" sInOrder ["found"] f fd) (B : Bt mg) (Z : Bz mg) : FnOk P wd K mg base CX0 1 f fd ["found"] (spOrd C) := by
  refine D.F.ok scInOrder (fun vs H Q E h => ?_) (fun cdv A outer s H vs Q E hr h => ?_)
  · obtain ⟨d, kvs, L, L', w, rfl, _⟩ := h
    rfl
  obtain ⟨d, kvs, L, L', w, rfl, hd, dl, nd, st, hg, hz, hw, k⟩ := h
  refine ⟨_, pss_one (ps_ret (pe_callTy call_tupF (by rfl) B.tup boot_tuple' (pa_cons (pe_lc (own := [("holder", 1)]) (g := gName 1) (tt := tYes) rfl scInOrder.nd (pi_list (pe_callB (Hk.cr_sortDT rfl) (by rfl) Z.sort boot_sorted' (pa_cons (pv 0) pa_nil)))
    (blkOk_by (N := ["found", "holder"]) (sc := defScope sInOrder) (by decide +kernel)) (fun _ _ _ _ _ => pg_name (i := 1) scInOrder.nd rfl (Or.inl rfl)) (fun _ _ _ _ _ => pts_nil)
    (fun _ _ _ _ _ => pe_op (show OpR _ _ (rCatF K) from op_catF) (pv 1) (pe_dget (Nat.lt_of_le_of_lt (Nat.add_le_add_left (by decide : 1 ≤ 64) _) (room_hu hr)) (pv 0) (pv 1) (fun _ _ => rfl)))) pa_nil))), ?_⟩
  have lenL : L'.length = L.length := by
    have p : (L'.map (·.1)).Perm (L.map (·.1)) := by
      refine (List.perm_ext_iff_of_nodup (srt_nd st) nd).mpr fun x => ?_
      have key : ∀ {A B : List Ls}, (∀ k, getL A k = getL B k) → x ∈ A.map (·.1) → x ∈ B.map (·.1) := fun {A B} h m => by
        obtain ⟨l, hl, rfl⟩ := List.mem_map.mp m
        cases g : getL A l.1 with
        | none => exact absurd rfl (getL_none.mp g l hl)
        | some v =>
          rw [h] at g
          exact List.mem_map.mpr ⟨_, getL_mem g, rfl⟩
      exact ⟨key hg, key fun k => (hg k).symm⟩
    have := p.length_eq
    rwa [List.length_map, List.length_map] at this
  refine (show EvD w C _ _ H (.tup (L'.map lsU)) from ed_tupL hw (lc_DL (K := K) (Rx := fun xs G => ∃ zs : List (Addr × SI), xs = zs.map (fun z => V.ref z.1) ∧ byKeys L (zs.map (·.2)) = L' ∧ ∀ z ∈ zs, G z.1 = some (.tup [.str z.2.1, .int z.2.2])) (fun H0 e Q q => ?_) ?_ ?_ (fun _ => rfl) fun xs G0 e0 hR => ?_)) H (Ex.refl H) _ fun v H1 e a => k v H1 e a
  · refine ⟨_, rfl, d, kvs, L.map (·.1), rfl, e _ _ hd, dl.keys, fun zs p hperm hs ht hp => ?_⟩
    refine q p _ _ (Ex.new hp) upd_same ⟨zs, rfl, ?_, fun z hz => Ex.new hp _ _ (ht z hz)⟩
    obtain ⟨b1, b2⟩ := byKeys_srt nd hperm hs
    exact srt_uniq b1 st fun k => (b2 k).trans (hg k).symm
  · rw [List.length_map, lenL]
    exact hz
  · intro u hu
    obtain ⟨l, _, rfl⟩ := List.mem_map.mp hu
    exact lsU_pln l
  · obtain ⟨zs, rfl, hb, ht⟩ := hR
    refine ⟨by rw [List.length_map, List.length_map, ← hb, byKeys_len, List.length_map], fun i x u G hx hu eg => ?_⟩
    rw [List.getElem?_map] at hx hu
    cases h1 : zs[i]? with
    | none => rw [h1] at hx; cases hx
    | some z =>
      rw [h1] at hx
      cases hx
      have hz1 := ht z (List.mem_of_getElem? h1)
      have e2 : L'[i]? = some (z.2, (getL L z.2).getD (0, 0)) := by
        rw [← hb]
        unfold byKeys
        rw [List.getElem?_map, List.getElem?_map, h1]
        rfl
      rw [e2] at hu
      have hu' : lsU (z.2, (getL L z.2).getD (0, 0)) = u := Option.some.inj hu
      subst hu'
      have hm : getL L z.2 = some ((getL L z.2).getD (0, 0)) := by
        have := getL_of (srt_nd st) (List.mem_of_getElem? e2)
        rw [hg] at this
        rw [this]
        rfl
      obtain ⟨p, hv, hp⟩ := dl.vsome hm
      refine fun G1 e1 Q q => ⟨.ref z.1, rfl, .ref d, rfl, .ref z.1, rfl, d, .ref p, rfl, ?_, ?_⟩
      · have := DGet.t (k := Hk.keySI z.2) ((e0.trans (eg.trans e1)) _ _ hd) ((eg.trans e1) _ _ hz1)
        rw [hv] at this
        exact this
      · refine ⟨z.1, p, _, _, rfl, rfl, st_of ((eg.trans e1) _ _ hz1), st_of ((e0.trans (eg.trans e1)) _ _ hp), sz_of (by show (4 : Nat) ≤ 100000; decide), fun h => (by cases h), fun _ h => (by cases h), fun _ _ => newT_data (w := w) (C := C) (us := [.str z.2.1, .int z.2.2, .int ((getL L z.2).getD (0, 0)).1, .int ((getL L z.2).getD (0, 0)).2]) (hw.imp fun o z => (e0.trans (eg.trans e1)) _ _ z) (.cons (.str _) (.cons (.int _) (.cons (.int _) (.cons (.int _) .nil)))) fun v G3 e3 a3 => ?_⟩
        exact q v G3 e3 a3
end
end Hs
namespace Hs
open PySem PySem.Spec PyProof.Rows L2 Hu Evl
open Hk (SI ltSI)
/-! ### rows in order with one more -/
def insL (k : SI) (v : Int × Int) : List Ls → List Ls
  | [] => [(k, v)]
  | l :: r => if k = l.1 then (k, v) :: r else if ltSI k l.1 = true then (k, v) :: l :: r else l :: insL k v r
theorem getL_ins {k j : SI} {v : Int × Int} : ∀ {L : List Ls}, getL (insL k v L) j = if j = k then some v else getL L j
  | [] => by
    unfold insL
    rw [getL_cons]
    by_cases h : k = j
    · rw [if_pos h, if_pos h.symm]
    · rw [if_neg h, if_neg fun e => h e.symm]
  | l :: r => by
    unfold insL
    by_cases q : k = l.1
    · rw [if_pos q, getL_cons, getL_cons]
      by_cases h : k = j
      · rw [if_pos h, if_pos h.symm]
      · rw [if_neg h, if_neg (fun e => h e.symm), if_neg fun e => h (q.trans e)]
    · rw [if_neg q]
      by_cases z : ltSI k l.1 = true
      · rw [if_pos z, getL_cons]
        by_cases h : k = j
        · rw [if_pos h, if_pos h.symm]
        · rw [if_neg h, if_neg fun e => h e.symm]
      · rw [if_neg z, getL_cons, getL_cons, getL_ins]
        by_cases h : l.1 = j
        · rw [if_pos h, if_pos h, if_neg fun e => q (e.symm.trans h.symm)]
        · rw [if_neg h, if_neg h]
theorem keys_ins {k : SI} {v : Int × Int} : ∀ {L : List Ls}, ∀ j ∈ (insL k v L).map (·.1), j = k ∨ j ∈ L.map (·.1)
  | [], j, h => by
    simp [insL] at h
    exact .inl h
  | l :: r, j, h => by
    unfold insL at h
    by_cases q : k = l.1
    · rw [if_pos q, List.map_cons] at h
      rcases List.mem_cons.mp h with h | h
      · exact .inl h
      · exact .inr (List.mem_cons_of_mem _ h)
    · rw [if_neg q] at h
      by_cases z : ltSI k l.1 = true
      · rw [if_pos z, List.map_cons] at h
        rcases List.mem_cons.mp h with h | h
        · exact .inl h
        · exact .inr h
      · rw [if_neg z, List.map_cons] at h
        rcases List.mem_cons.mp h with h | h
        · exact .inr (by rw [h]; exact List.mem_cons_self ..)
        · rcases keys_ins j h with h | h
          · exact .inl h
          · exact .inr (List.mem_cons_of_mem _ h)
theorem srt_ins {k : SI} {v : Int × Int} : ∀ {L : List Ls}, srt L → srt (insL k v L)
  | [], _ => by simp [insL, srt]
  | l :: r, h => by
    have h0 := h
    unfold srt at h
    rw [List.map_cons, List.pairwise_cons] at h
    unfold insL
    by_cases q : k = l.1
    · rw [if_pos q]
      unfold srt
      rw [List.map_cons, List.pairwise_cons]
      exact ⟨by rw [q]; exact h.1, h.2⟩
    · rw [if_neg q]
      by_cases z : ltSI k l.1 = true
      · rw [if_pos z]
        unfold srt
        rw [List.map_cons, List.pairwise_cons]
        refine ⟨fun j hj => ?_, h0⟩
        rcases List.mem_cons.mp hj with e | hj
        · rw [e]
          exact z
        · exact Hk.ltSI_trans z (h.1 j hj)
      · rw [if_neg z]
        unfold srt
        rw [List.map_cons, List.pairwise_cons]
        refine ⟨fun j hj => ?_, srt_ins h.2⟩
        rcases keys_ins j hj with e | hj
        · rw [e]
          rcases Hk.ltSI_tri l.1 k with a | a | a
          · exact a
          · exact absurd a.symm q
          · exact absurd a z
        · exact h.1 j hj
theorem len_ins (k : SI) (v : Int × Int) : ∀ L : List Ls, (insL k v L).length ≤ L.length + 1
  | [] => Nat.le_refl _
  | l :: r => by
    unfold insL
    by_cases q : k = l.1
    · rw [if_pos q]
      exact Nat.le_succ _
    · rw [if_neg q]
      by_cases z : ltSI k l.1 = true
      · rw [if_pos z]
        exact Nat.le_refl _
      · rw [if_neg z]
        exact Nat.succ_le_succ (len_ins k v r)
/-! ### what a deed makes of a table -/
structure Nx (D : Deed) (T T' : Tb) : Prop where
  e : T'.e = T.e
  m : T'.m = T.m
  a : T'.a = T.a
  h : T'.h = T.h
  b : T'.b = T.b
  p : T'.p = T.p
  v : T'.v = T.v
  n : T'.n = T.n
  c : T'.clock = T.clock + if D.isTick = true then 1 else 0
  s : srt T'.ls
  g : ∀ k, getL T'.ls k = fD D T'.clock k (getL T.ls k)
def Deed.parts : Deed → List U
  | .lease k t => [.str k.1, .int k.2, .int t]
  | .free k t => [.str k.1, .int k.2, .int t]
  | .tick => []
  | .rise => []
def Deed.txt : Deed → Prop
  | .lease k _ => PyData.strOk k.1 = true
  | .free k _ => PyData.strOk k.1 = true
  | _ => True
def spDo (C : Addr) (D : Deed) : Sp := fun vs H Q _ => ∃ (x y : V) (T : Tb) (w : Addr), vs = [x, y] ∧ At w C H x (tabU T) ∧ At w C H y (.tup D.parts) ∧ (∃ o, H w = some o) ∧ srt T.ls ∧ T.ls.length ≤ 30000 ∧ (∀ l ∈ T.ls, PyData.strOk l.1.1 = true) ∧ D.txt ∧
  ∀ v H' T', Same H H' → Nx D T T' → At w C H' v (tabU T') → Q v H'
theorem lenDo {C : Addr} {D : Deed} {a b : Str} : ∀ vs H Q E, spDo C D vs H Q E → vs.length = [a, b].length := fun vs H Q E h => by
  obtain ⟨x, y, T, w, rfl, _⟩ := h
  rfl
theorem q_asgGU {te : TE} {g : TG} {tz : TS} {D : Ends} {σ : L2.St} {H : Hp} {xs : List V} (h : EvU te σ H xs) (k : ∀ p H1, H p = none → Ex H H1 → H1 p = some (.tup xs) → g (.ref p) σ H1 fun σ' H' => tz D σ' H') : tSeq (tAsg te g) tz D σ H :=
  h H (Ex.refl H) _ fun p H1 hp e h1 => k p H1 hp e h1
section
variable {P : Program} {wd : World} {K : PySem.W.Frag} {mg : Str → Option Value} {base : Heap} {C : Addr}
theorem room_h1 {k : Nat} {A : Around} (r : Room k A) : A.units + 1 < cLine := Nat.lt_of_le_of_lt (Nat.add_le_add_left (by decide : 1 ≤ 64) _) (room_hu r)
/-- changed(..) in a reading -/
theorem ed_changed {w : Addr} {σ : L2.St} {H : Hp} {t1 t2 t3 : TE} {E : XK} {us : List U} {u : U} {k : Nat} (hw : ∃ o, H w = some o) (h1 : EvD w C t1 σ H (.tup us)) (h2 : Ev t2 σ H (.int (k : Int))) (h3 : EvD w C t3 σ H u) (hk : k < us.length) (hz : us.length ≤ 1000) :
    EvD w C (tCall (spCh C) [] E (tCons t1 (tCons t2 (tCons t3 tNil)))) σ H (.tup (us.set k u)) := fun G e Q q =>
  h1 G e _ fun v1 G1 e1 a1 => h2 G1 (e.trans e1) _ fun G2 e2 => h3 G2 ((e.trans e1).trans e2) _ fun v3 G3 e3 a3 =>
    ⟨v1, v3, k, us, u, w, rfl, ex_at (e2.trans e3) a1, a3, hw.imp fun o z => (((e.trans e1).trans e2).trans e3) _ _ z, hk, hz, fun v H' s a => q v H' (((e1.trans e2).trans e3).trans s) a⟩
theorem tab_set6 (T : Tb) (L : List Ls) : [T.e, T.m, T.a, .int T.clock, T.h, T.b, .tup (T.ls.map lsU), T.p, T.v, T.n].set 6 (.tup (L.map lsU)) = [T.e, T.m, T.a, .int T.clock, T.h, T.b, .tup (L.map lsU), T.p, T.v, T.n] := rfl
theorem three_at {w : Addr} {H : Hp} {v : V} {z : Str} {i t : Int} (h : At w C H v (.tup [.str z, .int i, .int t])) : ∃ p, v = .ref p ∧ H p = some (.tup [.str z, .int i, .int t]) := by
  obtain ⟨p, xs, rfl, hp, _, hl⟩ := at_tup h
  cases hl with
  | cons h1 hl => cases hl with
    | cons h2 hl => cases hl with
      | cons h3 hl => cases hl with
        | nil =>
          rw [at_str h1, at_int h2, at_int h3] at hp
          exact ⟨p, rfl, hp⟩
/-! ### _leased -/
theorem scLeased : FnScope ["table", "parts", "name", "hand", "talk", "found", "elder"] ["table", "parts"] (defScope sLeased) := ⟨rfl, rfl, rfl, by decide +kernel, rfl, by decide +kernel, by decide +kernel⟩
theorem ok_leased {f f1 f2 f3 : Addr} {fd d1 d2 d3 : FuncData} {k : SI} {t : Int} (D : Df K mg "_leased" sLeased ["table", "parts"] f fd) (B : Bt mg) (Z : Bz mg) (N : Ct mg) (DB : Df K mg "_leases_by_holder" sByHolder ["table"] f1 d1) (DO : Df K mg "_leases_in_order" sInOrder ["found"] f2 d2)
    (DC : Df K mg "changed" sChanged ["table", "at", "part"] f3 d3) (ht : 0 ≤ t) : FnOk P wd K mg base CX0 2 f fd ["table", "parts"] (spDo C (.lease k t)) := by
  have GB : FnOk P wd K mg base CX0 1 f1 d1 ["table"] (spBy C) := ok_byHolder DB N
  have GO : FnOk P wd K mg base CX0 1 f2 d2 ["found"] (spOrd C) := ok_inOrder DO B Z
  have GC : FnOk P wd K mg base CX0 1 f3 d3 ["table", "at", "part"] (spCh C) := ok_changed DC
  refine D.F.ok scLeased lenDo (fun cdv A outer s H vs Q E hr h => ?_)
  obtain ⟨x, y, T, w, rfl, hx, hy, hw, st, hz, _, _, q⟩ := h
  refine ⟨_, pss_cons (ps_asg (pv 1) (pg_tup rfl (pgs_cons (pg_name (i := 2) scLeased.nd rfl (.inl rfl)) (pgs_cons (pg_name (i := 3) scLeased.nd rfl (.inl rfl)) (pgs_cons (pg_name (i := 4) scLeased.nd rfl (.inl rfl)) pgs_nil)))))
    (pss_cons (ps_set (i := 5) scLeased.nd rfl (.inl rfl) (pe_call GB hr (by rfl) DB.g DB.F.kp DB.b .nil pass0 (pa_cons (pv 0) pa_nil)))
    (pss_cons (ps_set (i := 6) scLeased.nd rfl (.inl rfl) (pe_ix ix_tup (pe_dget2 (room_h1 hr) (pv 5) (pe_tup (pa_cons (pv 2) (pa_cons (pv 3) pa_nil))) (pe_tup (pa_cons pe_int (pa_cons pe_int pa_nil))) ⟨rfl, rfl, rfl, rfl⟩) pe_int (fun _ _ => rfl)))
    (pss_cons (ps_asg (pe_tup (pa_cons (pe_callB (call_max2 rfl) (by rfl) B.max boot_max' (pa_cons (pv 4) (pa_cons (pv 6) pa_nil))) (pa_cons (pe_op op_add (pe_ix ix_tup (pv 0) (pe_gi (by rfl) N.p3) (fun _ _ => rfl)) (pe_gi (by rfl) N.ticks)) pa_nil)))
      (pg_sub (pv 5) (pe_tup (pa_cons (pv 2) (pa_cons (pv 3) pa_nil))) (set_dict (room_h1 hr))))
    (pss_one (ps_ret (pe_call GC hr (by rfl) DC.g DC.F.kp DC.b .nil pass0 (pa_cons (pv 0) (pa_cons (pe_gi (by rfl) N.p6) (pa_cons (pe_call GO hr (by rfl) DO.g DO.F.kp DO.b .nil pass0 (pa_cons (pv 5) pa_nil)) pa_nil))))))))), ?_⟩
  obtain ⟨p, rfl, hp⟩ := three_at hy
  refine ⟨_, rfl, p, _, rfl, st_of hp, rfl, _, _, rfl, _, _, rfl, _, _, rfl, rfl, ?_⟩
  dsimp only [gName]
  have two : (2 : Nat) ≤ 100000 := by decide
  refine ⟨_, rfl, x, T, w, rfl, hx, srt_nd st, by omega, fun d kvs H1 hd e1 hk dl => ?_⟩
  dsimp only [gName]
  have hd1 : d ≠ w := new_ne hw hd
  refine ⟨_, rfl, d, rfl, .inr ⟨kvs, .inl hk⟩, eu_tup (ea_cons (ev_var rfl) (ea_cons (ev_var rfl) ea_nil)) two H1 (Ex.refl H1) _ fun b H2 _ e2 hb => eu_tup (ea_cons ev_c (ea_cons ev_c ea_nil)) two H2 (Ex.refl H2) _ fun c H3 _ e3 hc => ?_⟩
  have e13 := e1.trans (e2.trans e3)
  have dg : DGet H3 d (.ref b) (valV kvs (Hk.keySI k)) := DGet.t (k := Hk.keySI k) (e3 _ _ (e2 _ _ hk)) (e3 _ _ hb)
  refine ⟨_, dg, ?_⟩
  have gel : ∃ (el z2 : Int) (r : Addr), (valV kvs (Hk.keySI k)).getD (.ref c) = .ref r ∧ H3 r = some (.tup [.int el, .int z2]) ∧ el = match getL T.ls k with | some v => v.1 | none => 0 := by
    cases g : getL T.ls k with
    | none => exact ⟨0, 0, c, by rw [dl.vnone g]; rfl, hc, rfl⟩
    | some v =>
      obtain ⟨r, hr1, hr2⟩ := dl.vsome g
      exact ⟨v.1, v.2, r, by rw [hr1]; rfl, e3 _ _ (e2 _ _ hr2), rfl⟩
  obtain ⟨el, z2, r, er, hr2, eel⟩ := gel
  rw [er]
  refine ⟨r, _, 0, _, rfl, rfl, st_of hr2, rfl, ?_⟩
  dsimp only [gName]
  obtain ⟨y3, ev3, a3⟩ := nth_at (K := K) (σ := [some x, some (.ref p), some (.str k.1), some (.int k.2), some (.int t), some (.ref d), some (.int el)]) (te := tVar 0) (ex_at e13 hx) (ev_var rfl) 3 (by show 3 < 10; decide)
  have ey3 : y3 = .int T.clock := at_int (show At w C H3 y3 (.int T.clock) from a3)
  subst ey3
  refine q_asgGU (eu_tup (vs := [.int (max t el), .int (T.clock + 8)]) ?hv two) fun nv H4 _ e4 hnv => ?_
  case hv =>
    refine ea_cons (ev_cb (ea_cons (ev_var rfl) (ea_cons (ev_var rfl) ea_nil)) fun G e Q q => ⟨_, _, rfl, ?_⟩) (ea_cons (ev_op ev3 ev_c rv_I0) ea_nil)
    have : (if el > t then el else t) = max t el := by
      rw [Int.max_def]
      by_cases h : el > t
      · rw [if_pos h, if_pos (by omega)]
      · rw [if_neg h]
        by_cases h2 : t ≤ el
        · rw [if_pos h2]
          omega
        · rw [if_neg h2]
    rw [this]
    exact q G (Ex.refl G)
  refine ⟨_, rfl, eu_tup (ea_cons (ev_var rfl) (ea_cons (ev_var rfl) ea_nil)) two H4 (Ex.refl H4) _ fun b2 H5 _ e5 hb2 => ?_⟩
  have hk5 : H5 d = some (.dT kvs) := e5 _ _ (e4 _ _ (e3 _ _ (e2 _ _ hk)))
  have lenk : kvs.length < sizeLine := sz_lt (by rw [dl.len]; omega)
  refine ⟨d, _, rfl, DPut.t (k := Hk.keySI k) hk5 hb2 lenk, ?_⟩
  have nt : ∀ b zs, H5 b = some (.tup zs) → upd H5 d (.dT (putK kvs (Hk.keySI k) (.ref nv))) b = some (.tup zs) := fun b zs hb => by
    rw [upd_ne (fun z => by rw [z, hk5] at hb; cases hb)]
    exact hb
  have e15 : Ex H (upd H5 d (.dT (putK kvs (Hk.keySI k) (.ref nv)))) := Ex.mut ((e13.trans e4).trans e5) hd
  have dl5 : Dl (upd H5 d (.dT (putK kvs (Hk.keySI k) (.ref nv)))) (putK kvs (Hk.keySI k) (.ref nv)) (putL T.ls k (max t el, T.clock + 8)) :=
    (Dl.put (v := (max t el, T.clock + 8)) (srt_nd st) (dl.tups fun b zs h => e5 _ _ (e4 _ _ (e3 _ _ (e2 _ _ h)))) (e5 _ _ hnv)).tups nt
  have hw5 := hw.imp fun o z => e15 _ _ z
  refine (ed_changed (us := [T.e, T.m, T.a, .int T.clock, T.h, T.b, .tup (T.ls.map lsU), T.p, T.v, T.n]) (u := .tup ((insL k (max t el, T.clock + 8) T.ls).map lsU)) (k := 6) hw5 (ed_ev (ev_var rfl) (ex_at e15 hx)) ev_c (fun G e Q q => ⟨_, rfl, d, _, putL T.ls k (max t el, T.clock + 8), insL k (max t el, T.clock + 8) T.ls, w, rfl, e _ _ upd_same, dl5.tups fun b zs h => e _ _ h, ndK_put (srt_nd st), srt_ins st, fun j => by rw [getL_ins, getL_put], ?_, hw5.imp fun o z => e _ _ z, fun v H' s a => q v H' s a⟩) (by show 6 < 10; decide) (by show 10 ≤ 1000; decide)) _ (Ex.refl _) _ fun v H6 e6 a6 => ?_
  · refine q v H6 { T with ls := insL k (max t el, T.clock + 8) T.ls } (e15.trans e6) ⟨rfl, rfl, rfl, rfl, rfl, rfl, rfl, rfl, ?_, srt_ins st, fun j => ?_⟩ a6
    · show T.clock = T.clock + (if false = true then 1 else 0)
      simp
    · show getL (insL k _ T.ls) j = if j = k then some (match getL T.ls j with | some v => max t v.1 | none => t, T.clock + 8) else getL T.ls j
      rw [getL_ins]
      by_cases h : j = k
      · rw [if_pos h, if_pos h, h, eel]
        cases getL T.ls k with
        | none =>
          have : max t (0 : Int) = t := by omega
          show some (max t 0, _) = _
          rw [this]
        | some v => rfl
      · rw [if_neg h, if_neg h]
  · have := len_put T.ls k (max t el, T.clock + 8)
    omega
end
end Hs
namespace Hs
open PySem PySem.Spec PyProof.Rows L2 Hu Evl
open Hk (SI ltSI)
theorem q_asgLD {te : TE} {w C : Addr} {i : Nat} {tz : TS} {D : Ends} {σ : L2.St} {H : Hp} {us : List U} (h : EvLD w C te σ H us) (k : ∀ p ys H1, H p = none → Ex H H1 → H1 p = some (.lst ys) → AtL w C H1 ys us → tz D (σ.set i (some (.ref p))) H1) : tSeq (tAsg te (gName i)) tz D σ H :=
  h H (Ex.refl H) _ fun p ys H1 hp e h1 a => k p ys H1 hp e h1 a
theorem eld_var {i : Nat} {w C : Addr} {σ : L2.St} {H : Hp} {p : Addr} {ys : List V} {us : List U} (hw : ∃ o, H w = some o) (K : PySem.W.Frag) (hi : σ[i]? = some (some (.ref p))) (h1 : H p = some (.lst ys)) (l : AtL w C H ys us) : EvD w C (tCB (rTupO K) (tCons (tVar i) tNil)) σ H (.tup us) := fun G e Q q =>
  ⟨_, hi, p, ys, rfl, .inl ⟨sq_of (e _ _ h1), newT_data (hw.imp fun o z => e _ _ z) (ex_atl e l) fun v H3 e3 a => q v H3 e3 a⟩⟩
section
variable {P : Program} {wd : World} {K : PySem.W.Frag} {mg : Str → Option Value} {base : Heap} {C : Addr}
theorem filter_ls (L : List Ls) (g : U → Bool) : (L.map lsU).filter g = (L.filter fun l => g (lsU l)).map lsU := by
  rw [List.filter_map]
  rfl
theorem shpSI {z : Str} (i : Int) (hz : PyData.strOk z = true) : SeqAt.shaped (.tuple [.str z, .int i]) = true := by
  show ((PyData.tuple [.str z, .int i]).canLay0 && decide ((PyData.tuple [.str z, .int i]).depth ≤ 64)) = true
  simp [PyData.canLay0, PyData.canLayAll0, PyData.depth, PyData.depthAll, hz]
theorem eqvSI (z y : Str) (i j : Int) : PyData.eqv (.tuple [.str z, .int i]) (.tuple [.str y, .int j]) = (decide (z = y) && decide (i = j)) := by
  simp only [PyData.eqv, PyData.eqvAll, Bool.and_true]
  congr 1
theorem dpSI {H : Hp} {p : Addr} {z : Str} {i : Int} (h : H p = some (.tup [.str z, .int i])) : Dp K H (.ref p) (.tuple [.str z, .int i]) := .tup (st_of h) (.cons (.str z) (.cons (.int i) .nil))
theorem rv_neSI {H : Hp} {p q : Addr} {a b : SI} (ha : PyData.strOk a.1 = true) (hb : PyData.strOk b.1 = true) (hp : H p = some (.tup [.str a.1, .int a.2])) (hq : H q = some (.tup [.str b.1, .int b.2])) : RV (rNeD K) (.ref p) (.ref q) H (.bl (!decide (a = b))) := fun H1 e Q f =>
  ⟨_, _, dpSI (e _ _ hp), dpSI (e _ _ hq), shpSI _ ha, shpSI _ hb, by
    rw [eqvSI]
    have : (decide (a.1 = b.1) && decide (a.2 = b.2)) = decide (a = b) := by
      by_cases h : a = b
      · rw [h]
        simp
      · rw [decide_eq_false h]
        by_cases h1 : a.1 = b.1
        · rw [decide_eq_true h1, decide_eq_false fun h2 => h (Prod.ext h1 h2)]
          rfl
        · rw [decide_eq_false h1]
          rfl
    rw [this]
    exact f H1 (Ex.refl H1)⟩
/-- a stretch of a tuple, shorter than it -/
theorem eu_cut {σ : L2.St} {H : Hp} {te : TE} {tl th : TO} {a : Addr} {xs : List V} {lo hi : Option Int} (h : Ev te σ H (.ref a)) (hx : H a = some (.tup xs)) (h1 : EvO tl σ H lo) (h2 : EvO th σ H hi) (hn : ¬ (HT.sIx xs.length 0 lo = 0 ∧ HT.sIx xs.length xs.length hi = xs.length)) :
    EvU (tSl (rSlA K) te tl th) σ H (cutV xs lo hi) := fun G e Q q => h G e _ fun G1 e1 => h1 G1 (e.trans e1) _ fun G2 e2 => h2 G2 ((e.trans e1).trans e2) _ fun G3 e3 => ⟨a, xs, rfl, st_of ((((e.trans e1).trans e2).trans e3) _ _ hx), fun z => absurd z hn, fun _ p hp => q p _ (fresh_back ((e1.trans e2).trans e3) hp) (((e1.trans e2).trans e3).trans (Ex.new hp)) upd_same⟩
/-! ### _freed -/
theorem scFreed : FnScope ["table", "parts", "name", "hand", "talk", "lease", "stay"] ["table", "parts"] (defScope sFreed) := ⟨rfl, rfl, rfl, by decide +kernel, rfl, by decide +kernel, by decide +kernel⟩
theorem ok_freed {f f3 : Addr} {fd d3 : FuncData} {k : SI} {t : Int} (D : Df K mg "_freed" sFreed ["table", "parts"] f fd) (B : Bt mg) (N : Ct mg)
    (DC : Df K mg "changed" sChanged ["table", "at", "part"] f3 d3) : FnOk P wd K mg base CX0 2 f fd ["table", "parts"] (spDo C (.free k t)) := by
  have GC : FnOk P wd K mg base CX0 1 f3 d3 ["table", "at", "part"] (spCh C) := ok_changed DC
  refine D.F.ok scFreed lenDo (fun cdv A outer s H vs Q E hr h => ?_)
  obtain ⟨x, y, T, w, rfl, hx, hy, hw, st, hz, hsl, hsk, q⟩ := h
  refine ⟨_, pss_cons (ps_asg (pv 1) (pg_tup rfl (pgs_cons (pg_name (i := 2) scFreed.nd rfl (.inr rfl)) (pgs_cons (pg_name (i := 3) scFreed.nd rfl (.inr rfl)) (pgs_cons (pg_name (i := 4) scFreed.nd rfl (.inr rfl)) pgs_nil)))))
    (pss_cons (ps_setLc (i := 6) (own := [("lease", 5)]) (g := gName 5) (tt := tOr (tTest (tOp (rNeD K) (tSl (rSlA K) (tVar 5) tNoPart (tPart (tC (.int 2)))) (tTup (tCons (tVar 2) (tCons (tVar 3) tNil))))) (tTest (tOp (rI0 fun i j => .bl (decide (i ≥ j))) (tOp (rIxT K) (tVar 5) (tC (.int 2))) (tVar 4)))) rfl scFreed.nd rfl rfl rfl
      (pi_tup (pe_ix ix_tup (pv 0) (pe_gi (by rfl) N.p6) (fun _ _ => rfl))) (blkOk_by (N := ["table", "parts", "name", "hand", "talk", "lease", "stay"]) (sc := defScope sFreed) (by decide +kernel)) (fun _ _ _ _ _ => pg_name (i := 5) scFreed.nd rfl (Or.inl rfl))
      (fun _ _ _ _ _ => pts_one (PW.pt (pw_or (pt_cmpR (show OpR _ _ (rNeD K) from op_neD (room_hu hr)) (pe_slice (show SlR _ (rSlA K) from sl_tupA) (pv 5) po_none (po_some pe_int)) (pe_tup (pa_cons (pv 2) (pa_cons (pv 3) pa_nil))) (nomark _)) (pw_or1 (pt_cmpR op_ge (pe_ix (show IxR _ (rIxT K) from ix_tup) (pv 5) pe_int (fun _ _ => rfl)) (pv 4) (nomark _)))))) (fun _ _ _ _ _ => pv 5))
    (pss_one (ps_ret (pe_call GC hr (by rfl) DC.g DC.F.kp DC.b .nil pass0 (pa_cons (pv 0) (pa_cons (pe_gi (by rfl) N.p6) (pa_cons (pe_callTy call_tupF (by rfl) B.tup boot_tuple' (pa_cons (pv 6) pa_nil)) pa_nil))))))), ?_⟩
  obtain ⟨p, rfl, hp⟩ := three_at hy
  refine ⟨_, rfl, p, _, rfl, st_of hp, rfl, _, _, rfl, _, _, rfl, _, _, rfl, rfl, ?_⟩
  dsimp only [gName]
  obtain ⟨y6, e6, a6⟩ := nth_at (K := K) (σ := [some x, some (.ref p), some (.str k.1), some (.int k.2), some (.int t), none, none]) (te := tVar 0) hx (ev_var rfl) 6 (by show 6 < 10; decide)
  have a6' : At w C H y6 (.tup (T.ls.map lsU)) := a6
  obtain ⟨a, xs, rfl, ha, na, hl⟩ := at_tup a6'
  refine q_asgLD (w := w) (C := C) (us := (T.ls.filter fun l => !decide (l.1 = k) || decide (l.2.1 ≥ t)).map lsU) ?hv fun r ys H1 hr0 e1 h1 al => ?_
  case hv =>
    have := lc_D (K := K) (w := w) (C := C) (te := tVar 5) (t := tOr (tTest (tOp (rNeD K) (tSl (rSlA K) (tVar 5) tNoPart (tPart (tC (.int 2)))) (tTup (tCons (tVar 2) (tCons (tVar 3) tNil))))) (tTest (tOp (rI0 fun i j => .bl (decide (i ≥ j))) (tOp (rIxT K) (tVar 5) (tC (.int 2))) (tVar 4)))) (j := 5) (vs := [5]) (g := fun u => match u with | .tup [.str z, .int i, .int s, .int n] => !decide (((z, i) : SI) = k) || decide (s ≥ t) | _ => false) (f := fun u => u) e6 ha hl (by rw [List.length_map]; omega) (fun u hu => by
      obtain ⟨l, _, rfl⟩ := List.mem_map.mp hu
      exact lsU_pln l) (fun _ => rfl) (fun v u G hu eg hv => ?_) (fun v u G hu _ eg hv => ed_ev (ev_var rfl) hv)
    · rw [List.map_id', filter_ls] at this
      exact this
    · obtain ⟨l, hl0, rfl⟩ := List.mem_map.mp hu
      obtain ⟨b, rfl, hb⟩ := at_ls hv
      refine et_or (et_test (ev_opUU (eu_cut (ev_var rfl) hb eo_none (eo_some ev_c) (fun h => absurd h.2 (show ¬ (HT.sIx 4 4 (some 2) = 4) from by decide))) (eu_tup (ea_cons (ev_var rfl) (ea_cons (ev_var rfl) ea_nil)) (by show (2 : Nat) ≤ 100000; decide)) fun p1 p2 G1 hp1 hp2 _ => rv_neSI (a := l.1) (b := k) (hsl l hl0) hsk hp1 hp2)) fun _ => et_test (ev_op (ev_ixP (j := 2) (ev_var rfl) hb rfl) (ev_var rfl) rv_I0)
  refine (ed_changed (us := [T.e, T.m, T.a, .int T.clock, T.h, T.b, .tup (T.ls.map lsU), T.p, T.v, T.n]) (u := .tup ((T.ls.filter fun l => !decide (l.1 = k) || decide (l.2.1 ≥ t)).map lsU)) (k := 6) (hw.imp fun o z => e1 _ _ z) (ed_ev (ev_var rfl) (ex_at e1 hx)) ev_c (eld_var (hw.imp fun o z => e1 _ _ z) K rfl h1 al) (by show 6 < 10; decide) (by show 10 ≤ 1000; decide)) _ (Ex.refl _) _ fun v H6 e6 a6 => ?_
  refine q v H6 { T with ls := T.ls.filter fun l => !decide (l.1 = k) || decide (l.2.1 ≥ t) } (e1.trans e6) ⟨rfl, rfl, rfl, rfl, rfl, rfl, rfl, rfl, ?_, srt_filter st _, fun j => ?_⟩ a6
  · show T.clock = T.clock + (if false = true then 1 else 0)
    simp
  · show getL (T.ls.filter _) j = if j = k then (getL T.ls j).filter (fun v => decide (t ≤ v.1)) else getL T.ls j
    rw [getL_filter (srt_nd st)]
    by_cases h : j = k
    · rw [if_pos h]
      subst h
      simp
    · rw [if_neg h]
      cases getL T.ls j with
      | none => rfl
      | some v => simp [h]
end
end Hs
namespace Hs
open PySem PySem.Spec PyProof.Rows L2 Hu Evl
open Hk (SI ltSI)
def Deed.word : Deed → Str
  | .lease _ _ => "lease"
  | .free _ _ => "free"
  | .tick => "tick"
  | .rise => "rise"
def deedU (D : Deed) : U := .tup (.str D.word :: D.parts)
theorem FnOk.ex {α : Type} {P : Program} {w : World} {K : PySem.W.Frag} {mg : Str → Option Value} {base : Heap} {CX : CXT} {k : Nat} {f : Addr} {fd : FuncData} {ps : List Str} {sp : α → Sp} (p : α → Prop) (F : ∀ i, p i → FnOk P w K mg base CX k f fd ps (sp i)) :
    FnOk P w K mg base CX k f fd ps (fun vs H Q E => ∃ i, p i ∧ sp i vs H Q E) :=
  ⟨fun vs H Q E ⟨i, hp, h⟩ => (F i hp).len vs H Q E h, fun A outer s H args us vs Q E hr h0 hb hv ⟨i, hp, h⟩ => (F i hp).run A outer s H args us vs Q E hr h0 hb hv h⟩
section
variable {P : Program} {wd : World} {K : PySem.W.Frag} {mg : Str → Option Value} {base : Heap} {C : Addr}
/-! ### _ticked -/
theorem scTicked : FnScope ["table", "parts", "clock", "lease", "stay"] ["table", "parts"] (defScope sTicked) := ⟨rfl, rfl, rfl, by decide +kernel, rfl, by decide +kernel, by decide +kernel⟩
theorem ok_ticked {f f3 : Addr} {fd d3 : FuncData} (D : Df K mg "_ticked" sTicked ["table", "parts"] f fd) (B : Bt mg) (N : Ct mg)
    (DC : Df K mg "changed" sChanged ["table", "at", "part"] f3 d3) : FnOk P wd K mg base CX0 2 f fd ["table", "parts"] (spDo C .tick) := by
  have GC : FnOk P wd K mg base CX0 1 f3 d3 ["table", "at", "part"] (spCh C) := ok_changed DC
  refine D.F.ok scTicked lenDo (fun cdv A outer s H vs Q E hr h => ?_)
  obtain ⟨x, y, T, w, rfl, hx, hy, hw, st, hz, hsl, hsk, q⟩ := h
  refine ⟨_, pss_cons (ps_set (i := 2) scTicked.nd rfl (.inr rfl) (pe_op op_add (pe_ix ix_tup (pv 0) (pe_gi (by rfl) N.p3) (fun _ _ => rfl)) pe_int))
    (pss_cons (ps_setLc (i := 4) (own := [("lease", 3)]) (g := gName 3) (tt := tTest (tOp (rI0 fun i j => .bl (decide (i < j))) (tVar 2) (tOp (rIxT K) (tVar 3) (tC (.int 3))))) rfl scTicked.nd rfl rfl rfl
      (pi_tup (pe_ix ix_tup (pv 0) (pe_gi (by rfl) N.p6) (fun _ _ => rfl))) (blkOk_by (N := ["table", "parts", "clock", "lease", "stay"]) (sc := defScope sTicked) (by decide +kernel)) (fun _ _ _ _ _ => pg_name (i := 3) scTicked.nd rfl (Or.inl rfl))
      (fun _ _ _ _ _ => pts_one (pt_cmpR op_lt (pv 2) (pe_ix (show IxR _ (rIxT K) from ix_tup) (pv 3) pe_int (fun _ _ => rfl)) (nomark _))) (fun _ _ _ _ _ => pv 3))
    (pss_one (ps_ret (pe_call GC hr (by rfl) DC.g DC.F.kp DC.b .nil pass0 (pa_cons (pe_call GC hr (by rfl) DC.g DC.F.kp DC.b .nil pass0 (pa_cons (pv 0) (pa_cons (pe_gi (by rfl) N.p3) (pa_cons (pv 2) pa_nil)))) (pa_cons (pe_gi (by rfl) N.p6) (pa_cons (pe_callTy call_tupF (by rfl) B.tup boot_tuple' (pa_cons (pv 4) pa_nil)) pa_nil))))))), ?_⟩
  obtain ⟨y3, e3, a3⟩ := nth_at (K := K) (σ := [some x, some y, none, none, none]) (te := tVar 0) hx (ev_var rfl) 3 (by show 3 < 10; decide)
  have ey3 : y3 = .int T.clock := at_int (show At w C H y3 (.int T.clock) from a3)
  subst ey3
  refine q_asg (v := .int (T.clock + 1)) (ev_op e3 ev_c rv_I0) fun H0 e0 => ?_
  have hx0 := ex_at e0 hx
  obtain ⟨y6, e6, a6⟩ := nth_at (K := K) (σ := [some x, some y, some (.int (T.clock + 1)), none, none]) (te := tVar 0) hx0 (ev_var rfl) 6 (by show 6 < 10; decide)
  have a6' : At w C H0 y6 (.tup (T.ls.map lsU)) := a6
  obtain ⟨a, xs, rfl, ha, na, hl⟩ := at_tup a6'
  refine q_asgLD (w := w) (C := C) (us := (T.ls.filter fun l => decide (T.clock + 1 < l.2.2)).map lsU) ?hv fun r ys H1 hr0 e1 h1 al => ?_
  case hv =>
    have := lc_D (K := K) (w := w) (C := C) (te := tVar 3) (t := tTest (tOp (rI0 fun i j => .bl (decide (i < j))) (tVar 2) (tOp (rIxT K) (tVar 3) (tC (.int 3))))) (j := 3) (vs := [3]) (g := fun u => match u with | .tup [.str z, .int i, .int s, .int n] => decide (T.clock + 1 < n) | _ => false) (f := fun u => u) e6 ha hl (by rw [List.length_map]; omega) (fun u hu => by
      obtain ⟨l, _, rfl⟩ := List.mem_map.mp hu
      exact lsU_pln l) (fun _ => rfl) (fun v u G hu eg hv => ?_) (fun v u G hu _ eg hv => ed_ev (ev_var rfl) hv)
    · rw [List.map_id', filter_ls] at this
      exact this
    · obtain ⟨l, hl0, rfl⟩ := List.mem_map.mp hu
      obtain ⟨b, rfl, hb⟩ := at_ls hv
      exact et_test (ev_op (ev_var rfl) (ev_ixP (j := 3) (ev_var rfl) hb rfl) rv_I0)
  have e01 := e0.trans e1
  have hw1 := hw.imp fun o z => e01 _ _ z
  refine (ed_changed (us := [T.e, T.m, T.a, .int (T.clock + 1), T.h, T.b, .tup (T.ls.map lsU), T.p, T.v, T.n]) (u := .tup ((T.ls.filter fun l => decide (T.clock + 1 < l.2.2)).map lsU)) (k := 6) hw1
    (ed_changed (us := [T.e, T.m, T.a, .int T.clock, T.h, T.b, .tup (T.ls.map lsU), T.p, T.v, T.n]) (u := .int (T.clock + 1)) (k := 3) hw1 (ed_ev (ev_var rfl) (ex_at e01 hx)) ev_c (ed_ev (ev_var rfl) (.int _)) (by show 3 < 10; decide) (by show 10 ≤ 1000; decide))
    ev_c (eld_var hw1 K rfl h1 al) (by show 6 < 10; decide) (by show 10 ≤ 1000; decide)) _ (Ex.refl _) _ fun v H6 e6 a6 => ?_
  refine q v H6 { T with clock := T.clock + 1, ls := T.ls.filter fun l => decide (T.clock + 1 < l.2.2) } (e01.trans e6) ⟨rfl, rfl, rfl, rfl, rfl, rfl, rfl, rfl, rfl, srt_filter st _, fun j => ?_⟩ a6
  exact getL_filter (srt_nd st) _ _
/-! ### _risen -/
theorem scRisen : FnScope ["table", "parts", "until", "lease"] ["table", "parts"] (defScope sRisen) := ⟨rfl, rfl, rfl, by decide +kernel, rfl, by decide +kernel, by decide +kernel⟩
theorem ok_risen {f f3 : Addr} {fd d3 : FuncData} (D : Df K mg "_risen" sRisen ["table", "parts"] f fd) (B : Bt mg) (N : Ct mg)
    (DC : Df K mg "changed" sChanged ["table", "at", "part"] f3 d3) : FnOk P wd K mg base CX0 2 f fd ["table", "parts"] (spDo C .rise) := by
  have GC : FnOk P wd K mg base CX0 1 f3 d3 ["table", "at", "part"] (spCh C) := ok_changed DC
  refine D.F.ok scRisen lenDo (fun cdv A outer s H vs Q E hr h => ?_)
  obtain ⟨x, y, T, w, rfl, hx, hy, hw, st, hz, hsl, hsk, q⟩ := h
  refine ⟨_, pss_cons (ps_set (i := 2) scRisen.nd rfl (.inr rfl) (pe_op op_add (pe_ix ix_tup (pv 0) (pe_gi (by rfl) N.p3) (fun _ _ => rfl)) (pe_gi (by rfl) N.ticks)))
    (pss_one (ps_ret (pe_call GC hr (by rfl) DC.g DC.F.kp DC.b .nil pass0 (pa_cons (pv 0) (pa_cons (pe_gi (by rfl) N.p6) (pa_cons (pe_callTy call_tupF (by rfl) B.tup boot_tuple' (pa_cons
      (pe_lc (own := [("lease", 3)]) (g := gName 3) (tt := tYes) rfl scRisen.nd (pi_tup (pe_ix ix_tup (pv 0) (pe_gi (by rfl) N.p6) (fun _ _ => rfl))) (blkOk_by (N := ["table", "parts", "until", "lease"]) (sc := defScope sRisen) (by decide +kernel)) (fun _ _ _ _ _ => pg_name (i := 3) scRisen.nd rfl (Or.inl rfl))
        (fun _ _ _ _ _ => pts_nil) (fun _ _ _ _ _ => pe_op (show OpR _ _ (rCatF K) from op_catF) (pe_slice (show SlR _ (rSlF K) from sl_tupF) (pv 3) po_none (po_some pe_int)) (pe_tupF (pa_cons (pv 2) pa_nil)))) pa_nil)) pa_nil)))))), ?_⟩
  obtain ⟨y3, e3, a3⟩ := nth_at (K := K) (σ := [some x, some y, none, none]) (te := tVar 0) hx (ev_var rfl) 3 (by show 3 < 10; decide)
  have ey3 : y3 = .int T.clock := at_int (show At w C H y3 (.int T.clock) from a3)
  subst ey3
  refine q_asg (v := .int (T.clock + 8)) (ev_op e3 ev_c rv_I0) fun H0 e0 => ?_
  have hx0 := ex_at e0 hx
  have hw0 := hw.imp fun o z => e0 _ _ z
  obtain ⟨y6, e6, a6⟩ := nth_at (K := K) (σ := [some x, some y, some (.int (T.clock + 8)), none]) (te := tVar 0) hx0 (ev_var rfl) 6 (by show 6 < 10; decide)
  have a6' : At w C H0 y6 (.tup (T.ls.map lsU)) := a6
  obtain ⟨a, xs, rfl, ha, na, hl⟩ := at_tup a6'
  have main : EvLD w C (tLc (iTup K (tOp (rIxT K) (tVar 0) (tC (.int 6)))) (gName 3) tYes (tOp (rCatF K) (tSl (rSlF K) (tVar 3) tNoPart (tPart (tC (.int 3)))) (tTupF (tCons (tVar 2) tNil))) [3]) [some x, some y, some (.int (T.clock + 8)), none] H0 ((T.ls.map fun l => ((l.1, (l.2.1, T.clock + 8)) : Ls)).map lsU) := by
    have := lc_D (K := K) (w := w) (C := C) (te := tOp (rCatF K) (tSl (rSlF K) (tVar 3) tNoPart (tPart (tC (.int 3)))) (tTupF (tCons (tVar 2) tNil))) (t := tYes) (j := 3) (vs := [3]) (g := fun _ => true) (f := fun u => match u with | .tup [.str z, .int i, .int s, .int n] => lsU ((z, i), (s, T.clock + 8)) | _ => .non) e6 ha hl (by rw [List.length_map]; omega) (fun u hu => by
      obtain ⟨l, _, rfl⟩ := List.mem_map.mp hu
      exact lsU_pln _) (fun _ => rfl) (fun v u G hu eg hv => et_yes) (fun v u G hu _ eg hv => ?_)
    · rw [List.filter_eq_self.mpr fun _ _ => rfl, List.map_map] at this
      rw [List.map_map]
      exact this
    · obtain ⟨l, hl0, rfl⟩ := List.mem_map.mp hu
      obtain ⟨b, xs', rfl, hb, nb, hlb⟩ := at_tup (show At w C G v (.tup [.str l.1.1, .int l.1.2, .int l.2.1, .int l.2.2]) from hv)
      exact ed_cat (us1 := [.str l.1.1, .int l.1.2, .int l.2.1]) (us2 := [.int (T.clock + 8)]) (hw0.imp fun o z => eg _ _ z) (ed_slice (hw0.imp fun o z => eg _ _ z) (ev_var rfl) hb nb hlb eo_none (eo_some ev_c)) (ed_tup (hw0.imp fun o z => eg _ _ z) (eds_cons (ed_ev (ev_var rfl) (.int _)) eds_nil) (by show (1 : Nat) ≤ 100000; decide)) (by show (4 : Nat) ≤ 100000; decide)
  refine (ed_changed (us := [T.e, T.m, T.a, .int T.clock, T.h, T.b, .tup (T.ls.map lsU), T.p, T.v, T.n]) (u := .tup ((T.ls.map fun l => ((l.1, (l.2.1, T.clock + 8)) : Ls)).map lsU)) (k := 6) hw0 (ed_ev (ev_var rfl) hx0) ev_c (ed_tupL hw0 main) (by show 6 < 10; decide) (by show 10 ≤ 1000; decide)) _ (Ex.refl _) _ fun v H6 e6 a6 => ?_
  refine q v H6 { T with ls := T.ls.map fun l => ((l.1, (l.2.1, T.clock + 8)) : Ls) } (e0.trans e6) ⟨rfl, rfl, rfl, rfl, rfl, rfl, rfl, rfl, ?_, ?_, fun j => ?_⟩ a6
  · show T.clock = T.clock + (if false = true then 1 else 0)
    simp
  · unfold srt
    rw [keys_map T.ls fun v => (v.1, T.clock + 8)]
    exact st
  · exact getL_map (fun v => (v.1, T.clock + 8)) j
end
end Hs
namespace Hs
open PySem PySem.Spec PyProof.Rows L2 Hu Evl
open Hk (SI ltSI)
abbrev sPart : Stmt := topS 37
abbrev sParts : Stmt := topS 39
abbrev sDeed : Stmt := topS 60
theorem pss_dead {X : Cx} {l : List Stmt} : PSs X l (fun _ _ _ => False) := ⟨fun _ _ _ _ _ _ h => h.elim⟩
theorem pe_dead {X : Cx} {e : Expr} : PE X e (fun _ _ _ => False) := ⟨fun _ _ _ _ _ _ h => h.elim⟩
/-- the lists of words that the text names -/
def TupK (K : PySem.W.Frag) (a : Addr) (zs : List Str) : Prop := ∀ H, SqT K H a (zs.map V.str)
/-- the forms of deeds -/
structure Dds (K : PySem.W.Frag) (w : World) (mg : Str → Option Value) (a : Addr) (es : Array DictEntry) (n : Nat) : Prop where
  g : mg "DEEDS" = some (.ref a)
  kd : KDict K w a es n
  lease : ∃ p, PySem.W.nsIn K a "lease" = some (some (.ref p)) ∧ TupK K p ["name", "hand", "talk"]
  free : ∃ p, PySem.W.nsIn K a "free" = some (some (.ref p)) ∧ TupK K p ["name", "hand", "talk"]
  tick : ∃ p, PySem.W.nsIn K a "tick" = some (some (.ref p)) ∧ TupK K p []
  rise : ∃ p, PySem.W.nsIn K a "rise" = some (some (.ref p)) ∧ TupK K p []
def Deed.kinds : Deed → List Str
  | .lease _ _ => ["name", "hand", "talk"]
  | .free _ _ => ["name", "hand", "talk"]
  | _ => []
theorem Dds.at {K : PySem.W.Frag} {w : World} {mg : Str → Option Value} {a : Addr} {es : Array DictEntry} {n : Nat} (d : Dds K w mg a es n) (D : Deed) : ∃ p, PySem.W.nsIn K a D.word = some (some (.ref p)) ∧ TupK K p D.kinds := by
  cases D with
  | lease k t => exact d.lease
  | free k t => exact d.free
  | tick => exact d.tick
  | rise => exact d.rise
/-- a part of a deed, as its kind asks -/
def PartOk (z : Str) (u : U) : Prop := (z = "name" ∧ gNam u = true) ∨ (z = "hand" ∧ gHand u = true) ∨ (z = "talk" ∧ gCnt u = true)
/-- a deed of a right form -/
def Deed.ok : Deed → Prop
  | .lease k t => gNam (.str k.1) = true ∧ gHand (.int k.2) = true ∧ 0 ≤ t
  | .free k t => gNam (.str k.1) = true ∧ gHand (.int k.2) = true ∧ 0 ≤ t
  | _ => True
theorem Deed.fits (D : Deed) (h : D.ok) : D.kinds.length = D.parts.length ∧ ∀ (i : Nat) (z : Str) (u : U), D.kinds[i]? = some z → D.parts[i]? = some u → PartOk z u := by
  have three : ∀ (k : SI) (t : Int), gNam (.str k.1) = true ∧ gHand (.int k.2) = true ∧ 0 ≤ t → ∀ (i : Nat) (z : Str) (u : U), (["name", "hand", "talk"] : List Str)[i]? = some z → ([.str k.1, .int k.2, .int t] : List U)[i]? = some u → PartOk z u := by
    intro k t ⟨h1, h2, h3⟩ i z u hz hu
    match i with
    | 0 =>
      cases hz
      cases hu
      exact .inl ⟨rfl, h1⟩
    | 1 =>
      cases hz
      cases hu
      exact .inr (.inl ⟨rfl, h2⟩)
    | 2 =>
      cases hz
      cases hu
      exact .inr (.inr ⟨rfl, decide_eq_true h3⟩)
    | i + 3 => simp at hz
  cases D with
  | lease k t => exact ⟨rfl, three k t h⟩
  | free k t => exact ⟨rfl, three k t h⟩
  | tick => exact ⟨rfl, fun i z u hz => by simp [Deed.kinds] at hz⟩
  | rise => exact ⟨rfl, fun i z u hz => by simp [Deed.kinds] at hz⟩
section
variable {P : Program} {wd : World} {K : PySem.W.Frag} {mg : Str → Option Value} {base : Heap} {C : Addr}
/-! ### is_part -/
theorem scPart : FnScope ["kind", "thing"] ["kind", "thing"] (defScope sPart) := ⟨rfl, rfl, rfl, by decide +kernel, rfl, by decide +kernel, by decide +kernel⟩
def spPart (C : Addr) : Sp := fun vs H Q _ => ∃ (z : Str) (v : V) (u : U) (w : Addr), vs = [.str z, v] ∧ At w C H v u ∧ Fine u ∧ PartOk z u ∧ ∀ H', Same H H' → Q (.bl true) H'
theorem ok_part {f f1 f2 f3 : Addr} {fd d1 d2 d3 : FuncData} (D : Df K mg "is_part" sPart ["kind", "thing"] f fd) (JC : Jd P wd K mg base C 2 "is_count" "thing" f1 d1 gCnt) (JN : Jd P wd K mg base C 2 "is_name" "thing" f2 d2 gNam) (JH : Jd P wd K mg base C 2 "is_hand" "thing" f3 d3 gHand) :
    FnOk P wd K mg base CX0 3 f fd ["kind", "thing"] (spPart C) := by
  refine D.F.ok scPart (fun vs H Q E h => ?_) (fun cdv A outer s H vs Q E hr h => ?_)
  · obtain ⟨z, v, u, w, rfl, _⟩ := h
    rfl
  obtain ⟨z, v, u, w, rfl, hat, fi, hp, k⟩ := h
  refine ⟨_, pss_cons (ps_if (pt_cmpR (show OpR _ _ (rIn K false) from op_in_seq) (pv 0) (pe_tup (pa_cons pe_str (pa_cons pe_str (pa_cons pe_str pa_nil)))) (by rfl)) (pss_one (ps_ret (pe_J JC hr (by decide) (by rfl) pass0 (pv 1)))) pss_nil)
    (pss_cons (ps_if (pt_cmpR op_eq (pv 0) pe_str (nomark _)) (pss_one (ps_ret (pe_J JN hr (by decide) (by rfl) pass0 (pv 1)))) pss_nil)
    (pss_cons (ps_if (pt_cmpR op_eq (pv 0) pe_str (nomark _)) (pss_one (ps_ret (pe_J JH hr (by decide) (by rfl) pass0 (pv 1)))) pss_nil)
    pss_dead)), ?_⟩
  have e1 : EvT (tTest (tOp (rIn K false) (tVar 0) (tTup (tCons (tC (.str "epoch")) (tCons (tC (.str "talk")) (tCons (tC (.str "size")) tNil)))))) [some (.str z), some v] H (inV (.str z) [.str "epoch", .str "talk", .str "size"]) :=
    et_test (ev_opU (ev_var rfl) (eu_tup (ea_cons ev_c (ea_cons ev_c (ea_cons ev_c ea_nil))) (by show (3 : Nat) ≤ 100000; decide)) fun q H1 hq e1 => rv_inT (neg := false) (st_of hq) rfl rfl)
  refine q_when e1 (fun q H1 e => ?_) (fun q H1 e => ?_)
  · rcases hp with ⟨rfl, h⟩ | ⟨rfl, h⟩ | ⟨rfl, h⟩
    · exact absurd q (by decide +kernel)
    · exact absurd q (by decide +kernel)
    · exact s_ret (ev_is (ev_J (ev_var rfl) (ex_at e hat) fi) (by rw [h])) fun H2 e2 => k H2 (e.trans e2)
  · rcases hp with ⟨rfl, h⟩ | ⟨rfl, h⟩ | ⟨rfl, h⟩
    · refine q_when (b := true) (et_test (ev_op (ev_var rfl) ev_c (rv_eq rfl))) (fun _ H2 e2 => ?_) (fun q => by cases q)
      exact s_ret (ev_is (ev_J (ev_var rfl) (ex_at (e.trans e2) hat) fi) (by rw [h])) fun H3 e3 => k H3 ((e.trans e2).trans e3)
    · refine q_when (b := false) (et_test (ev_is (ev_op (ev_var rfl) ev_c (rv_eq rfl)) (by decide +kernel))) (fun q => by cases q) (fun _ H2 e2 => ?_)
      refine q_when (b := true) (et_test (ev_op (ev_var rfl) ev_c (rv_eq rfl))) (fun _ H3 e3 => ?_) (fun q => by cases q)
      exact s_ret (ev_is (ev_J (ev_var rfl) (ex_at ((e.trans e2).trans e3) hat) fi) (by rw [h])) fun H4 e4 => k H4 (((e.trans e2).trans e3).trans e4)
    · exact absurd q (by decide +kernel)
end
end Hs
namespace Hs
open PySem PySem.Spec PyProof.Rows L2 Hu Evl
open Hk (SI ltSI)
theorem boot_zip' : bootBuiltins "zip" = some (.type "zip") := by decide +kernel
theorem walk_zipT {K : PySem.W.Frag} {a b : Addr} {xs ys : List V} (hl : xs.length = ys.length) : Walk (RZ.ItzT K a b) xs.length (fun H => SqT K H a xs ∧ SqT K H b ys) (fun i H v H' => ∃ T x y, v = .ref T ∧ H T = none ∧ H' = upd H T (.tup [x, y]) ∧ xs[i]? = some x ∧ ys[i]? = some y) :=
  ⟨fun i H hi q => ⟨xs, ys, xs[i], ys[i]'(by omega), q.1, q.2, List.getElem?_eq_getElem hi, List.getElem?_eq_getElem (by omega)⟩, fun H q => ⟨xs, ys, q.1, q.2, .inl (Nat.le_refl _)⟩, fun i H v H' hi q ⟨T, x, y, e1, e2, e3, e4, e5⟩ => ⟨T, x, y, e1, e2, e3, e4 _ q.1, e5 _ q.2⟩⟩
section
variable {P : Program} {wd : World} {K : PySem.W.Frag} {mg : Str → Option Value} {base : Heap} {C : Addr}
/-- all([f(x, y) for x, y in zip(a, b)]), all true -/
theorem ev_allZip {σ : L2.St} {H : Hp} {ta tb te : TE} {a b : Addr} {xs ys : List V} {i j : Nat} {vs : List Nat} (ha : Ev ta σ H (.ref a)) (hb : Ev tb σ H (.ref b)) (hx : ∀ G, Ex H G → SqT K G a xs) (hy : ∀ G, Ex H G → SqT K G b ys) (hl : xs.length = ys.length) (hz : xs.length ≤ 40000)
    (hw : ∀ x y, wipe (((wipe σ vs).set i (some x)).set j (some y)) vs = wipe σ vs) (he : ∀ (n : Nat) (x y : V), xs[n]? = some x → ys[n]? = some y → Ev te (((wipe σ vs).set i (some x)).set j (some y)) H (.bl true)) :
    Ev (tCB (rAll K) (tCons (tLc (RZ.iZipA K (tCons ta (tCons tb tNil))) (gTup K 2 (gCons (gName i) (gCons (gName j) gNil))) tYes te vs) tNil)) σ H (.bl true) := by
  have main : EvL (tLc (RZ.iZipA K (tCons ta (tCons tb tNil))) (gTup K 2 (gCons (gName i) (gCons (gName j) gNil))) tYes te vs) σ H (List.replicate xs.length (.bl true)) := fun H0 e Q q =>
    ha H0 e _ fun Ha ea => hb Ha (e.trans ea) _ fun H1 eb => by
      have e1 := ea.trans eb
      have E1 := e.trans e1
      refine ⟨a, b, xs, ys, rfl, .inr ⟨hx _ E1, hy _ E1, fun Dl hD => ?_⟩⟩
      refine lc_it (walk_zipT hl) (fun k H' => Ex H1 H' ∧ H' Dl = some (.lst (List.replicate k (.bl true)))) ⟨Ex.new hD, upd_same⟩ (fun k H' _ p => ⟨hx _ (E1.trans p.1), hy _ (E1.trans p.1)⟩) ?_ ?_
      · rintro k x H2 H2' hk ⟨p1, p2⟩ ⟨T, x1, y1, rfl, hT, rfl, hx1, hy1⟩
        have eT : Ex H2 (upd H2 T (.tup [x1, y1])) := Ex.new hT
        refine ⟨T, _, rfl, st_of upd_same, rfl, x1, _, rfl, y1, _, rfl, rfl, hw _ _, ?_⟩
        refine et_yes _ (Ex.refl _) _ fun H3 e3 => ?_
        rw [if_pos rfl]
        refine he k x1 y1 hx1 hy1 _ ((E1.trans p1).trans (eT.trans e3)) _ fun H4 e4 => ⟨_, e4 _ _ (e3 _ _ (eT _ _ p2)), ?_, Ex.mut (((p1.trans eT).trans e3).trans e4) hD, ?_⟩
        · rw [List.length_replicate]
          exact sz_lt (by omega)
        · rw [upd_same, List.replicate_succ']
      · rintro H' ⟨p1, p2⟩
        exact q Dl H' (fresh_back e1 hD) (e1.trans p1) p2
  refine ev_cb1 main fun p H2 h2 e2 Q q => ⟨p, List.replicate xs.length true, rfl, sq_of ?_, ?_⟩
  · rw [h2, List.map_replicate]
  · have : (List.replicate xs.length true).all id = true := by simp
    rw [this]
    exact q H2 (Ex.refl H2)
/-! ### are_parts -/
theorem scParts : FnScope ["kinds", "things", "kind", "thing"] ["kinds", "things"] (defScope sParts) := ⟨rfl, rfl, rfl, by decide +kernel, rfl, by decide +kernel, by decide +kernel⟩
def spParts (K : PySem.W.Frag) (C : Addr) : Sp := fun vs H Q _ => ∃ (p : Addr) (zs : List Str) (v : V) (us : List U) (w : Addr), vs = [.ref p, v] ∧ TupK K p zs ∧ At w C H v (.tup us) ∧ Fine (.tup us) ∧ us.length ≤ 1000 ∧ zs.length = us.length ∧
  (∀ (i : Nat) (z : Str) (u : U), zs[i]? = some z → us[i]? = some u → PartOk z u) ∧ ∀ H', Same H H' → Q (.bl true) H'
theorem ok_parts {f f1 : Addr} {fd d1 : FuncData} (D : Df K mg "are_parts" sParts ["kinds", "things"] f fd) (B : Bt mg) (Z : Bz mg) (D1 : Df K mg "is_part" sPart ["kind", "thing"] f1 d1) (G : FnOk P wd K mg base CX0 3 f1 d1 ["kind", "thing"] (spPart C)) :
    FnOk P wd K mg base CX0 4 f fd ["kinds", "things"] (spParts K C) := by
  refine D.F.ok scParts (fun vs H Q E h => ?_) (fun cdv A outer s H vs Q E hr h => ?_)
  · obtain ⟨p, zs, v, us, w, rfl, _⟩ := h
    rfl
  obtain ⟨p, zs, v, us, w, rfl, hp, hat, fi, hz, hl, hok, k⟩ := h
  refine ⟨_, pss_cons (ps_if (pt_cmpR op_ne (pe_callB call_len_seq (by rfl) B.len PySem.boot_len (pa_cons (pv 1) pa_nil)) (pe_callB call_len_seq (by rfl) B.len PySem.boot_len (pa_cons (pv 0) pa_nil)) (nomark _)) (pss_one (ps_ret pe_bl)) pss_nil)
    (pss_one (ps_ret (pe_callB (cr_all rfl) (by rfl) B.all boot_all' (pa_cons (pe_lc (own := [("kind", 2), ("thing", 3)]) (g := gTup K 2 (gCons (gName 2) (gCons (gName 3) gNil))) (tt := tYes) rfl scParts.nd (RZ.pi_zipA (by rfl) Z.zip (pa_cons (pv 0) (pa_cons (pv 1) pa_nil))) (blkOk_by (N := ["kinds", "things", "kind", "thing"]) (sc := defScope sParts) (by decide +kernel))
      (fun _ _ _ _ _ => pg_tup rfl (pgs_cons (pg_name (i := 2) scParts.nd rfl (Or.inl rfl)) (pgs_cons (pg_name (i := 3) scParts.nd rfl (Or.inl rfl)) pgs_nil))) (fun _ _ _ _ _ => pts_nil) (fun _ _ _ _ _ => pe_call G hr (by rfl) D1.g D1.F.kp D1.b .nil pass0 (pa_cons (pv 2) (pa_cons (pv 3) pa_nil)))) pa_nil)))), ?_⟩
  obtain ⟨a, xs, rfl, ha, _, hlx⟩ := at_tup hat
  have lx := AtL.length hlx
  have lenP : Ev (tCB (rLenQ K) (tCons (tVar 0) tNil)) [some (.ref p), some (.ref a), none, none] H (.int ((zs.map V.str).length : Int)) := ev_cb (ea_cons (ev_var rfl) ea_nil) fun H1 e Q q => ⟨p, _, rfl, .inr (hp H1), q H1 (Ex.refl H1)⟩
  refine q_when (b := false) (et_test (ev_is (ev_op (ev_lenT (K := K) (ev_var rfl) ha) lenP (rv_ne rfl)) ?_)) (fun q => by cases q) (fun _ H1 e => ?_)
  · rw [List.length_map, lx, hl]
    simp
  · refine s_ret (ev_allZip (xs := zs.map V.str) (ys := xs) (ev_var rfl) (ev_var rfl) (fun G _ => hp G) (fun G eg => Tu.st (Tu.ex eg (Tu.ex e ha))) (by rw [List.length_map, lx, hl]) (by rw [List.length_map]; omega) (fun _ _ => rfl) fun n x y hx hy => ?_) fun H2 e2 => k H2 (e.trans e2)
    rw [List.getElem?_map] at hx
    cases hz1 : zs[n]? with
    | none => rw [hz1] at hx; cases hx
    | some z =>
      rw [hz1] at hx
      cases hx
      have hn : n < us.length := by
        have := (List.getElem?_eq_some_iff.mp hy).1
        omega
      obtain ⟨y', hy', hay⟩ := AtL.get hlx (List.getElem?_eq_getElem hn)
      rw [hy] at hy'
      cases hy'
      exact ev_call (ea_cons (ev_var rfl) (ea_cons (ev_var rfl) ea_nil)) fun H1' e1 Q q E => ⟨z, y, us[n], w, rfl, ex_at (e.trans e1) hay, fi.tup _ (List.getElem_mem hn), hok n z _ hz1 (List.getElem?_eq_getElem hn), q⟩
/-! ### is_deed -/
theorem scDeed : FnScope ["thing"] ["thing"] (defScope sDeed) := ⟨rfl, rfl, rfl, by decide +kernel, rfl, by decide +kernel, by decide +kernel⟩
def spDeed (C : Addr) : Sp := fun vs H Q _ => ∃ (v : V) (D : Deed) (w : Addr), vs = [v] ∧ At w C H v (deedU D) ∧ (∃ o, H w = some o) ∧ Fine (deedU D) ∧ D.ok ∧ ∀ H', Same H H' → Q (.bl true) H'
theorem word_stand (D : Deed) : decide (V.str D.word = V.str "stand") = false := by
  cases D with
  | lease k t =>
    show decide (V.str ("lease" : Str) = V.str ("stand" : Str)) = false
    decide +kernel
  | free k t =>
    show decide (V.str ("free" : Str) = V.str ("stand" : Str)) = false
    decide +kernel
  | tick =>
    show decide (V.str ("tick" : Str) = V.str ("stand" : Str)) = false
    decide +kernel
  | rise =>
    show decide (V.str ("rise" : Str) = V.str ("stand" : Str)) = false
    decide +kernel
theorem cut_one (u : U) (us : List U) : cutU (u :: us) (some 1) none = us := by
  unfold cutU
  have z1 : HT.sIx (u :: us).length 0 (some 1) = 1 := by
    simp only [HT.sIx]
    rw [if_neg (by decide), List.length_cons]
    show min 1 (us.length + 1) = 1
    omega
  have z2 : HT.sIx (u :: us).length (u :: us).length none = (u :: us).length := rfl
  rw [z1, z2]
  simp
theorem ok_deed {f f1 a : Addr} {es : Array DictEntry} {n : Nat} {fd d1 : FuncData} (D : Df K mg "is_deed" sDeed ["thing"] f fd) (S : Bs K mg C) (Ds : Dds K wd mg a es n) (D1 : Df K mg "are_parts" sParts ["kinds", "things"] f1 d1) (G : FnOk P wd K mg base CX0 4 f1 d1 ["kinds", "things"] (spParts K C)) :
    FnOk P wd K mg base CX0 5 f fd ["thing"] (spDeed C) := by
  refine D.F.ok scDeed (fun vs H Q E h => ?_) (fun cdv A outer s H vs Q E hr h => ?_)
  · obtain ⟨v, De, w, rfl, _⟩ := h
    rfl
  obtain ⟨v, De, w, rfl, hat, hw, fi, hok, k⟩ := h
  refine ⟨_, pss_cons (ps_if (PW.pt (pw_or (pt_not (pt_val (pe_isiX S (by rfl) (by rfl) S.B.tup boot_tuple' (by decide) (pv 0) (by decide) (by decide)))) (pw_or (pt_cmpR (op_eqN (room_hu hr)) (pv 0) (pe_tup pa_nil) (nomark _)) (pw_or1 (pt_not (pt_val (pe_isiX S (by rfl) (by rfl) S.B.str boot_str (by decide) (pe_ix ix_tup (pv 0) pe_int (fun _ _ => rfl)) (by decide) (by decide)))))))) (pss_one (ps_ret pe_bl)) pss_nil)
    (pss_cons (ps_if (pt_cmpR op_eq (pe_ix ix_tup (pv 0) pe_int (fun _ _ => rfl)) pe_str (nomark _)) pss_dead pss_nil)
    (pss_one (ps_ret (pe_and (pe_cmpR (op_in_kd Ds.kd) (pe_ix ix_tup (pv 0) pe_int (fun _ _ => rfl)) (pe_glob (v := .ref a) (by rfl) Ds.g rfl) (by rfl)) (pe_one (pe_call G (hr.mono (by decide)) (by rfl) D1.g D1.F.kp D1.b .nil pass0 (pa_cons (pe_ix ix_kdict (pe_glob (v := .ref a) (by rfl) Ds.g rfl) (pe_ix ix_tup (pv 0) pe_int (fun _ _ => rfl)) (fun _ _ => rfl)) (pa_cons (pe_slice sl_tupF (pv 0) (po_some pe_int) po_none) pa_nil)))))))), ?_⟩
  obtain ⟨b, xs, rfl, hb, nb, hl⟩ := at_tup hat
  obtain ⟨x0, xr, rfl, h0⟩ : ∃ x0 xr, xs = x0 :: xr ∧ x0 = .str De.word := by
    cases hl with
    | cons h1 h2 => exact ⟨_, _, rfl, at_str h1⟩
  subst h0
  have e0 : ∀ G, Ex H G → Ev (tOp (rIxT K) (tVar 0) (tC (.int 0))) [some (.ref b)] G (.str De.word) := fun G e => ev_ixT (j := 0) (ev_var rfl) (Tu.ex e hb) rfl
  refine q_when (b := false) (et_is (et_or (et_not (et_B (ev_isi (ev_var rfl) hat))) fun _ => et_or (et_test (ev_opU (ev_var rfl) (eu_tup ea_nil (by decide)) fun q H1 hq e1 => rv_eqN ((nc_at S.q hat).ex e1) hq)) fun _ => et_not (et_B (ev_isi (w := w) (C := C) (u := .str De.word) (e0 H (Ex.refl H)) (.str _)))) (by simp [isT, isS, tyU, deedU, nilU])) (fun q => by cases q) (fun _ H1 e1 => ?_)
  refine q_when (b := false) (et_test (ev_is (ev_op (e0 H1 e1) ev_c (rv_eq rfl)) (by rw [word_stand]))) (fun q => by cases q) (fun _ H2 e2 => ?_)
  have e12 := e1.trans e2
  obtain ⟨p, hns, htu⟩ := Ds.at De
  obtain ⟨f1', f2'⟩ := De.fits hok
  have lenp : De.parts.length ≤ 1000 := by
    cases De <;> simp [Deed.parts]
  have fip : Fine (.tup De.parts) := by
    refine ⟨?_, ?_⟩
    · have := fi.w
      unfold deedU at this
      simp only [wt, wtL] at this ⊢
      omega
    · have := fi.c
      unfold deedU at this
      simp only [clean, cleanL] at this ⊢
      exact this.2
  refine s_ret (v := .bl (true && true)) (ev_andV (ev_op (e0 H2 e12) ev_c fun G e Q q => ⟨De.word, _, rfl, rfl, hns, q G (Ex.refl G)⟩) fun _ G eg Q q => ?_) fun H3 e3 => k H3 (e12.trans e3)
  have first : Ev (tOp (rIxD K wd) (tC (.ref a)) (tOp (rIxT K) (tVar 0) (tC (.int 0)))) [some (.ref b)] G (.ref p) := ev_op ev_c (e0 G (e12.trans eg)) fun G1 e Q q => ⟨a, De.word, .ref p, rfl, rfl, ⟨es, n, .ref p, Ds.kd.at_, Ds.kd.lit, hns, rfl⟩, q G1 (Ex.refl G1)⟩
  refine first G (Ex.refl G) _ fun G1 g1 => ?_
  refine (ed_slice (K := K) (hw.imp fun o z => ((e12.trans eg).trans g1) _ _ z) (ev_var rfl) (Tu.ex ((e12.trans eg).trans g1) hb) nb (ex_atl ((e12.trans eg).trans g1) hl) (eo_some ev_c) eo_none) G1 (Ex.refl G1) _ fun v2 G2 g2 a2 => ?_
  rw [cut_one] at a2
  exact ⟨p, De.kinds, v2, De.parts, w, rfl, htu, a2, fip, lenp, f1', f2', fun H' s => q H' ((g1.trans g2).trans s)⟩
end
end Hs
namespace Hs
open PySem PySem.Spec PyProof.Rows L2 Hu Evl
open Hk (SI ltSI)
/-- what a table must be for a deed -/
structure TabOk (T : Tb) : Prop where
  g : gTable (tabU T) = true
  fi : Fine (tabU T)
  ok : OkT (tabU T)
  e : ∃ i : Int, T.e = .int i ∧ 0 ≤ i
  st : srt T.ls
  len : T.ls.length ≤ 30000
  tx : ∀ l ∈ T.ls, PyData.strOk l.1.1 = true
structure DeedOk (D : Deed) : Prop where
  ok : D.ok
  fi : Fine (deedU D)
  tx : D.txt
/-- where the doings stand -/
structure Dgs (K : PySem.W.Frag) (w : World) (mg : Str → Option Value) (a fL fF fT fR : Addr) : Prop where
  g : mg "DOINGS" = some (.ref a)
  l : KDct K w a "lease" (.ref fL)
  f : KDct K w a "free" (.ref fF)
  t : KDct K w a "tick" (.ref fT)
  r : KDct K w a "rise" (.ref fR)
section
variable {P : Program} {wd : World} {K : PySem.W.Frag} {mg : Str → Option Value} {base : Heap} {C : Addr}
/-! ### lets -/
theorem scLets : FnScope ["table", "deed"] ["table", "deed"] (defScope sLets) := ⟨rfl, rfl, rfl, by decide +kernel, rfl, by decide +kernel, by decide +kernel⟩
def spLets (C : Addr) : Sp := fun vs H Q _ => ∃ (x y : V) (T : Tb) (w : Addr) (i : Int), vs = [x, y] ∧ At w C H x (tabU T) ∧ T.e = .int i ∧ 0 ≤ i ∧ ∀ H', Same H H' → Q (.bl true) H'
theorem ok_lets {f : Addr} {fd : FuncData} (D : Df K mg "lets" sLets ["table", "deed"] f fd) (N : Ct mg) : FnOk P wd K mg base CX0 1 f fd ["table", "deed"] (spLets C) := by
  refine D.F.ok scLets (fun vs H Q E h => ?_) (fun cdv A outer s H vs Q E hr h => ?_)
  · obtain ⟨x, y, T, w, i, rfl, _⟩ := h
    rfl
  obtain ⟨x, y, T, w, i, rfl, hx, he, hi, k⟩ := h
  refine ⟨_, pss_one (ps_ret (pe_or (pe_cmpR op_ge (pe_ix ix_tup (pv 0) (pe_gi (by rfl) N.p0) (fun _ _ => rfl)) pe_int (nomark _)) (pe_one pe_dead))), ?_⟩
  obtain ⟨y0, ev0, a0⟩ := nth_at (K := K) (σ := [some x, some y]) (te := tVar 0) hx (ev_var rfl) 0 (by show 0 < 10; decide)
  have a0' : At w C H y0 T.e := a0
  rw [he] at a0'
  cases at_int a0'
  exact s_ret (v := .bl (true || true)) (ev_orV (ev_is (ev_op ev0 ev_c rv_I0) (by rw [decide_eq_true (show i ≥ 0 from hi)])) fun q => by cases q) fun H1 e => k H1 e
/-! ### done -/
theorem scDone : FnScope ["table", "deed", "doing"] ["table", "deed"] (defScope sDone) := ⟨rfl, rfl, rfl, by decide +kernel, rfl, by decide +kernel, by decide +kernel⟩
def spDone (C : Addr) (D : Deed) : Sp := fun vs H Q _ => ∃ (x y : V) (T : Tb) (w : Addr), vs = [x, y] ∧ At w C H x (tabU T) ∧ At w C H y (deedU D) ∧ (∃ o, H w = some o) ∧ srt T.ls ∧ T.ls.length ≤ 30000 ∧ (∀ l ∈ T.ls, PyData.strOk l.1.1 = true) ∧ D.txt ∧
  ∀ v H' T', Same H H' → Nx D T T' → At w C H' v (tabU T') → Q v H'
theorem ok_done1 {f fG a : Addr} {fd dG : FuncData} {De : Deed} (D : Df K mg "done" sDone ["table", "deed"] f fd) (hg : mg "DOINGS" = some (.ref a)) (hk : KDct K wd a De.word (.ref fG)) (kp : PySem.W.keepIn K (.ref fG) = true) (bG : Binds K dG ["table", "parts"] [])
    (G : FnOk P wd K mg base CX0 2 fG dG ["table", "parts"] (spDo C De)) : FnOk P wd K mg base CX0 3 f fd ["table", "deed"] (spDone C De) := by
  refine D.F.ok scDone (fun vs H Q E h => ?_) (fun cdv A outer s H vs Q E hr h => ?_)
  · obtain ⟨x, y, T, w, rfl, _⟩ := h
    rfl
  obtain ⟨x, y, T, w, rfl, hx, hy, hw, st, hz, hsl, hsk, q⟩ := h
  refine ⟨_, pss_cons (ps_set (i := 2) scDone.nd rfl (.inl rfl) (pe_ix ix_kdict (pe_glob (v := .ref a) (by rfl) hg rfl) (pe_ix ix_tup (pv 1) pe_int (fun _ _ => rfl)) (fun _ _ => rfl)))
    (pss_one (ps_ret (pe_callL (i := 2) G hr rfl (.inl rfl) kp bG .nil pass0 (pa_cons (pv 0) (pa_cons (pe_slice sl_tupF (pv 1) (po_some pe_int) po_none) pa_nil))))), ?_⟩
  obtain ⟨b, xs, rfl, hb, nb, hl⟩ := at_tup hy
  obtain ⟨x0, xr, rfl, h0⟩ : ∃ x0 xr, xs = x0 :: xr ∧ x0 = .str De.word := by
    cases hl with
    | cons h1 h2 => exact ⟨_, _, rfl, at_str h1⟩
  subst h0
  refine q_asg (v := .ref fG) (ev_op ev_c (ev_ixT (j := 0) (ev_var rfl) hb rfl) fun G1 e Q q => ⟨a, De.word, .ref fG, rfl, rfl, hk, q G1 (Ex.refl G1)⟩) fun H1 e1 => ?_
  refine ⟨rfl, x, rfl, ?_⟩
  refine (ed_slice (K := K) (hw.imp fun o z => e1 _ _ z) (ev_var rfl) (Tu.ex e1 hb) nb (ex_atl e1 hl) (eo_some ev_c) eo_none) H1 (Ex.refl H1) _ fun v2 H2 e2 a2 => ?_
  rw [cut_one] at a2
  exact ⟨x, v2, T, w, rfl, ex_at (e1.trans e2) hx, a2, hw.imp fun o z => (e1.trans e2) _ _ z, st, hz, hsl, hsk, fun v H' T' s n a => q v H' T' ((e1.trans e2).trans s) n a⟩
/-! ### behind -/
theorem scBehind : FnScope ["table", "deed"] ["table", "deed"] (defScope sBehind) := ⟨rfl, rfl, rfl, by decide +kernel, rfl, by decide +kernel, by decide +kernel⟩
def spBehind (C : Addr) : Sp := fun vs H Q _ => ∃ (x y : V) (D : Deed) (T : Tb) (w : Addr), vs = [x, y] ∧ At w C H x (tabU T) ∧ At w C H y (deedU D) ∧ (∃ o, H w = some o) ∧ TabOk T ∧ DeedOk D ∧
  ∀ v H' T', Same H H' → Nx D T T' → At w C H' v (tabU T') → Q v H'
theorem ok_behind {f f1 f2 f3 f4 : Addr} {fd d1 d2 d3 d4 : FuncData} (D : Df K mg "behind" sBehind ["table", "deed"] f fd) (JT : Jw P wd K mg base C 8 "is_table" "thing" f1 d1 OkT gTable) (D2 : Df K mg "is_deed" sDeed ["thing"] f2 d2) (G2 : FnOk P wd K mg base CX0 5 f2 d2 ["thing"] (spDeed C))
    (D3 : Df K mg "lets" sLets ["table", "deed"] f3 d3) (G3 : FnOk P wd K mg base CX0 1 f3 d3 ["table", "deed"] (spLets C)) (D4 : Df K mg "done" sDone ["table", "deed"] f4 d4)
    (G4 : FnOk P wd K mg base CX0 3 f4 d4 ["table", "deed"] (fun vs H Q E => ∃ De, Deed.ok De ∧ spDone C De vs H Q E)) : FnOk P wd K mg base CX0 9 f fd ["table", "deed"] (spBehind C) := by
  refine D.F.ok scBehind (fun vs H Q E h => ?_) (fun cdv A outer s H vs Q E hr h => ?_)
  · obtain ⟨x, y, De, T, w, rfl, _⟩ := h
    rfl
  obtain ⟨x, y, De, T, w, rfl, hx, hy, hw, ht, hd, q⟩ := h
  refine ⟨_, pss_cons (ps_if (pt_not (pt_val (pe_Jw JT hr (by decide) (by rfl) pass0 (pv 0)))) pss_dead pss_nil)
    (pss_cons (ps_if (PW.pt (pw_or (pt_not (pt_val (pe_call G2 (hr.mono (by decide)) (by rfl) D2.g D2.F.kp D2.b .nil pass0 (pa_cons (pv 1) pa_nil)))) (pw_or1 (pt_not (pt_val (pe_call G3 (hr.mono (by decide)) (by rfl) D3.g D3.F.kp D3.b .nil pass0 (pa_cons (pv 0) (pa_cons (pv 1) pa_nil)))))))) pss_dead pss_nil)
    (pss_one (ps_ret (pe_call G4 (hr.mono (by decide)) (by rfl) D4.g D4.F.kp D4.b .nil pass0 (pa_cons (pv 0) (pa_cons (pv 1) pa_nil)))))), ?_⟩
  obtain ⟨i, he, hi⟩ := ht.e
  refine q_when (b := !gTable (tabU T)) (et_not (et_B (ev_Jw (ev_var rfl) hx ht.fi ht.ok hw))) (fun q => by rw [ht.g] at q; cases q) (fun _ H1 e1 => ?_)
  refine q_when (b := !true || !true) (et_or (et_not (et_B (ev_call (ea_cons (ev_var rfl) ea_nil) fun G e Q q E => ⟨y, De, w, rfl, ex_at (e1.trans e) hy, hw.imp fun o z => (e1.trans e) _ _ z, hd.fi, hd.ok, q⟩))) fun _ => et_not (et_B (ev_call (ea_cons (ev_var rfl) (ea_cons (ev_var rfl) ea_nil)) fun G e Q q E => ⟨x, y, T, w, i, rfl, ex_at (e1.trans e) hx, he, hi, q⟩))) (fun q => by cases q) (fun _ H2 e2 => ?_)
  have e12 := e1.trans e2
  exact ⟨x, rfl, y, rfl, De, hd.ok, x, y, T, w, rfl, ex_at e12 hx, ex_at e12 hy, hw.imp fun o z => e12 _ _ z, ht.st, ht.len, ht.tx, hd.tx, fun v H' T' s n a => q v H' T' (e12.trans s) n a⟩
end
end Hs
/-! the law's drawn values -/
namespace Hs
open PySem PySem.Spec PyProof.Rows L2 Hu Evl
/-- what is tracked in H' at places that were free in H -/
def fresh (H H' : Hp) : Hp := fun b => match H b with | none => H' b | some _ => none
theorem fr_get {H H' : Hp} {b : Addr} (h : H b = none) : fresh H H' b = H' b := by
  unfold fresh
  rw [h]
theorem fr_new {H H' : Hp} {b : Addr} {o : HO} (h : fresh H H' b = some o) : H b = none ∧ H' b = some o := by
  cases q : H b with
  | none => exact ⟨rfl, by rw [fr_get q] at h; exact h⟩
  | some o' =>
    unfold fresh at h
    rw [q] at h
    cases h
theorem at_full {w C : Addr} {H H' : Hp} {v : V} {u : U} (h : At w C (fresh H H') v u) : At w C H' v u := h.keep fun b o _ q => (fr_new q).2
theorem atl_full {w C : Addr} {H H' : Hp} {vs : List V} {us : List U} (h : AtL w C (fresh H H') vs us) : AtL w C H' vs us := h.keep fun b o _ q => (fr_new q).2
/-! its signs are a text's or line feeds, its integers below 2 ^ 64 + b -/
mutual
def tidy (b : Nat) : U → Prop
  | .int i => i.natAbs < 2 ^ 64 + b
  | .str z => ∀ c ∈ TL.tl z, okS c = true ∨ c = 10
  | .tup us | .lst us | .dct us => tidyL b us
  | _ => True
def tidyL (b : Nat) : List U → Prop
  | [] => True
  | u :: us => tidy b u ∧ tidyL b us
end
mutual
theorem tidy_clean {b : Nat} (hb : b ≤ 100) : ∀ u : U, tidy b u → clean u
  | .non, _ => trivial
  | .bl _, _ => trivial
  | .int i, h => by simp only [tidy] at h; simp only [clean]; omega
  | .str z, h => by simpa only [clean, tidy] using h
  | .tup us, h => by simp only [clean]; exact tidyL_clean hb us (by simpa only [tidy] using h)
  | .lst us, h => by simp only [clean]; exact tidyL_clean hb us (by simpa only [tidy] using h)
  | .dct us, h => by simp only [clean]; exact tidyL_clean hb us (by simpa only [tidy] using h)
  | .exc, _ => trivial
theorem tidyL_clean {b : Nat} (hb : b ≤ 100) : ∀ us : List U, tidyL b us → cleanL us
  | [], _ => trivial
  | u :: us, h => ⟨tidy_clean hb u h.1, tidyL_clean hb us h.2⟩
end
mutual
theorem tidy_mono {b b' : Nat} (hb : b ≤ b') : ∀ u : U, tidy b u → tidy b' u
  | .non, _ => trivial
  | .bl _, _ => trivial
  | .int i, h => by simp only [tidy] at *; omega
  | .str z, h => by simpa only [tidy] using h
  | .tup us, h => by simp only [tidy] at *; exact tidyL_mono hb us h
  | .lst us, h => by simp only [tidy] at *; exact tidyL_mono hb us h
  | .dct us, h => by simp only [tidy] at *; exact tidyL_mono hb us h
  | .exc, _ => trivial
theorem tidyL_mono {b b' : Nat} (hb : b ≤ b') : ∀ us : List U, tidyL b us → tidyL b' us
  | [], _ => trivial
  | u :: us, h => ⟨tidy_mono hb u h.1, tidyL_mono hb us h.2⟩
end
/-- bounds -/
structure Bd (u : U) (m d b : Nat) : Prop where
  w : wt u ≤ m
  d : dep u ≤ d
  c : tidy b u
theorem Bd.mono {u : U} {m d b m' d' b' : Nat} (h : Bd u m d b) (hm : m ≤ m') (hd : d ≤ d') (hb : b ≤ b') : Bd u m' d' b' := ⟨Nat.le_trans h.w hm, Nat.le_trans h.d hd, tidy_mono hb _ h.c⟩
theorem Bd.fine {u : U} {m d b : Nat} (h : Bd u m d b) (hm : m ≤ 1000000) (hb : b ≤ 100) : Fine u := ⟨Nat.le_trans h.w hm, tidy_clean hb _ h.c⟩
structure BdL (us : List U) (m d b : Nat) : Prop where
  w : wtL us ≤ m
  d : depL us ≤ d
  c : tidyL b us
theorem BdL.nil {d b : Nat} : BdL [] 0 d b := ⟨Nat.le_refl _, Nat.zero_le _, trivial⟩
theorem wtL_append : ∀ us us' : List U, wtL (us ++ us') = wtL us + wtL us'
  | [], us' => by simp [wtL]
  | u :: us, us' => by simp only [List.cons_append, wtL, wtL_append us us']; omega
theorem depL_append : ∀ us us' : List U, depL (us ++ us') = max (depL us) (depL us')
  | [], us' => by simp [depL]
  | u :: us, us' => by simp only [List.cons_append, depL, depL_append us us']; omega
theorem tidyL_append {b : Nat} : ∀ {us us' : List U}, tidyL b us → tidyL b us' → tidyL b (us ++ us')
  | [], _, _, h => h
  | _ :: _, _, h, h' => ⟨h.1, tidyL_append h.2 h'⟩
theorem BdL.append {us us' : List U} {m m' d b : Nat} (h : BdL us m d b) (h' : BdL us' m' d b) : BdL (us ++ us') (m + m') d b := by
  refine ⟨?_, ?_, tidyL_append h.c h'.c⟩
  · rw [wtL_append]
    have := h.w
    have := h'.w
    omega
  · rw [depL_append]
    have := h.d
    have := h'.d
    omega
theorem BdL.one {u : U} {m d b : Nat} (h : Bd u m d b) : BdL [u] (m + 2) d b := ⟨by have := h.w; simp only [wtL]; omega, by have := h.d; simp only [depL]; omega, ⟨h.c, trivial⟩⟩
theorem BdL.snoc {us : List U} {u : U} {m m' d b : Nat} (h : BdL us m d b) (q : Bd u m' d b) : BdL (us ++ [u]) (m + (m' + 2)) d b := h.append (.one q)
theorem BdL.mono {us : List U} {m d b m' d' b' : Nat} (h : BdL us m d b) (hm : m ≤ m') (hd : d ≤ d') (hb : b ≤ b') : BdL us m' d' b' := ⟨Nat.le_trans h.w hm, Nat.le_trans h.d hd, tidyL_mono hb _ h.c⟩
theorem BdL.take {us : List U} {m d b : Nat} : ∀ (n : Nat), BdL us m d b → BdL (us.take n) m d b := fun n h => by
  have e := List.take_append_drop n us
  refine ⟨?_, ?_, ?_⟩
  · have := h.w
    rw [← e, wtL_append] at this
    omega
  · have := h.d
    rw [← e, depL_append] at this
    omega
  · have := h.c
    clear e h
    induction us generalizing n with
    | nil => rw [List.take_nil]; trivial
    | cons u us ih => cases n with
      | zero => trivial
      | succ n => exact ⟨this.1, ih n this.2⟩
theorem BdL.drop {us : List U} {m d b : Nat} : ∀ (n : Nat), BdL us m d b → BdL (us.drop n) m d b := fun n h => by
  have e := List.take_append_drop n us
  refine ⟨?_, ?_, ?_⟩
  · have := h.w
    rw [← e, wtL_append] at this
    omega
  · have := h.d
    rw [← e, depL_append] at this
    omega
  · have := h.c
    clear e h
    induction us generalizing n with
    | nil => rw [List.drop_nil]; trivial
    | cons u us ih => cases n with
      | zero => exact this
      | succ n => exact ih n this.2
theorem BdL.get {us : List U} {m d b : Nat} {u : U} (h : BdL us m d b) (hu : u ∈ us) : Bd u m d b := by
  obtain ⟨w, dd, c⟩ := h
  refine ⟨Nat.le_trans (wt_mem hu) w, Nat.le_trans ?_ dd, ?_⟩
  · clear w c dd
    induction us with
    | nil => cases hu
    | cons a r ih =>
      simp only [depL]
      rcases List.mem_cons.mp hu with rfl | hu
      · omega
      · have := ih hu
        omega
  · clear w dd
    induction us with
    | nil => cases hu
    | cons a r ih =>
      rcases List.mem_cons.mp hu with rfl | hu
      · exact c.1
      · exact ih hu c.2
theorem Bd.tup {us : List U} {m d b : Nat} (h : BdL us m d b) : Bd (.tup us) (m + 3) (d + 1) b := ⟨by have := h.w; simp only [wt]; omega, by have := h.d; simp only [dep]; omega, by simpa only [tidy] using h.c⟩
theorem Bd.lst {us : List U} {m d b : Nat} (h : BdL us m d b) : Bd (.lst us) (m + 3) (d + 1) b := ⟨by have := h.w; simp only [wt]; omega, by have := h.d; simp only [dep]; omega, by simpa only [tidy] using h.c⟩
theorem AtL.snoc {w C : Addr} {H : Hp} {vs : List V} {us : List U} {v : V} {u : U} (l : AtL w C H vs us) (h : At w C H v u) : AtL w C H (vs ++ [v]) (us ++ [u]) := AtL.append l (.cons h .nil)
theorem vi_eq {i j : Int} (h : decide (V.int i = V.int j) = true) : i = j := V.int.inj (of_decide_eq_true h)
theorem vi_ne {i j : Int} (h : ¬ decide (V.int i = V.int j) = true) : i ≠ j := fun e => h (decide_eq_true (by rw [e]))
section
variable {P : Program} {wd : World} {K : PySem.W.Frag} {mg : Str → Option Value} {base : Heap} {C : Addr}
/-- the defs that draw, ready to be called -/
structure Dd (P : Program) (wd : World) (K : PySem.W.Frag) (mg : Str → Option Value) (base : Heap) (f : Addr) (d : FuncData) : Prop where
  ok : FnOk P wd K mg base CX0 3 f d ["well", "many"] spDraw
  g : mg "_law_draw" = some (.ref f)
  kp : PySem.W.keepIn K (.ref f) = true
  b : Binds K d ["well", "many"] []
end
section
variable {X : Cx} {fD : Addr} {dD : FuncData} {e1 e2 : Expr} {t1 t2 : TE} {ps pos : Pos} {k : Nat}
theorem pe_draw (D : Dd X.prog X.w X.K X.mg X.base fD dD) (hr : Room k X.A) (h : 3 ≤ k) (hg : Gl X "_law_draw") (h1 : PE X e1 t1) (h2 : PE X e2 t2) (hst : starEach [e1, e2] X.env = (false, eval e1 X.env) :: starEach [e2] X.env := by rfl) (hst2 : starEach [e2] X.env = (false, eval e2 X.env) :: starEach [] X.env := by rfl)
    (hpl : (backTo pos (starEach [e2] X.env)).any (·.1) = false := by rfl) : PE X (.Call (.Name "_law_draw" ps) [e1, e2] [] pos) (tCall spDraw [] E0 (tCons t1 (tCons t2 tNil))) :=
  pe_call (D.ok.mono h) hr hg D.g D.kp D.b .nil pass0 (pa_cons h1 (pa_cons h2 pa_nil hst2) hst) (by decide) hst hpl
end
section
variable {P : Program} {wd : World} {K : PySem.W.Frag} {mg : Str → Option Value} {base : Heap} {C : Addr} {fD : Addr} {dD : FuncData}
def spNumber : Sp := fun vs H Q _ => ∃ wl : WA, vs = [.ref wl.w] ∧ Well H wl ∧ ∀ (d : Int) (H' : Hp), 0 ≤ d → d < 10 ^ 11 → Drawn wl H H' → Q (.int d) H'
theorem scNumber : FnScope ["well", "kind"] ["well"] (defScope lNumber) := ⟨rfl, rfl, rfl, by decide +kernel, rfl, by decide +kernel, by decide +kernel⟩
theorem ev_pow {σ : L2.St} {H : Hp} {i j : Int} {ta tb : TE} (ha : Ev ta σ H (.int i)) (hb : Ev tb σ H (.int j)) (hc : CPow i j) : Ev (tOp (rI CPow fun i j => .int (i ^ j.toNat)) ta tb) σ H (.int (i ^ j.toNat)) := ev_op ha hb (rv_I hc)
theorem ev_pick {σ : L2.St} {H : Hp} {ta : TA} {tb : TE} {xs : List V} {i : Nat} {v : V} (hl : EvA ta σ H xs) (hz : xs.length ≤ 100000) (hb : Ev tb σ H (.int (i : Int))) (hv : xs[i]? = some v) : Ev (tOp (rIxL K) (tLst ta) tb) σ H v :=
  ev_opL1 (el_lst hl hz) (fun H1 e => hb.mono e) fun p H1 h e => rv_ixL (sq_of h) (atI_nat hv)
theorem ok_number {f : Addr} {fd : FuncData} (F : Fun K "_law_number" "_law_number" lNumber f fd) (D : Dd P wd K mg base fD dD) : FnOk P wd K mg base CX0 4 f fd ["well"] spNumber := by
  refine F.ok scNumber (fun vs H Q E h => ?_) (fun cdv A outer s H vs Q E hr h => ?_)
  · obtain ⟨wl, rfl, _⟩ := h
    rfl
  obtain ⟨wl, rfl, W, k⟩ := h
  refine ⟨_, pss_cons (ps_set (i := 1) scNumber.nd rfl (.inl rfl) (pe_draw D hr (by decide) (by rfl) (pv 0) pe_int))
    (pss_cons (ps_if (pt_cmpR op_eq (pv 1) pe_int (nomark _)) (pss_one (ps_ret (pe_draw D hr (by decide) (by rfl) (pv 0) (pe_op op_pow pe_int pe_int)))) pss_nil)
    (pss_one (ps_ret (pe_draw D hr (by decide) (by rfl) (pv 0) (pe_ix ix_list (pe_lst (pa_cons pe_int (pa_cons pe_int (pa_cons (pe_op op_pow pe_int pe_int) pa_nil)))) (pv 1) (fun _ _ => rfl)))))), ?_⟩
  refine ⟨_, rfl, wl, 4, rfl, W, by decide, by decide, fun d H1 d0 d1 D1 => ⟨_, rfl, rfl, _, rfl, ite2 (fun q => ?_) (fun q => ?_)⟩⟩
  · refine ⟨_, rfl, _, _, rfl, rfl, ⟨by decide, by decide, by decide⟩, wl, 10 ^ 11, rfl, D1.well, by decide, by decide, fun d2 H2 e0 e1 D2 => k d2 H2 e0 e1 (D1.trans D2)⟩
  · have q1 := vi_ne q
    have hd : d = 0 ∨ d = 1 ∨ d = 2 := by omega
    have go : ∀ (i : Nat) (m : Int), d = (i : Int) → ([V.int 3, .int 40, .int (10 ^ 9)] : List V)[i]? = some (.int m) → 0 < m → m ≤ 10 ^ 9 → tCall spDraw [] E0 (tCons (tVar 0) (tCons (tOp (rIxL K) (tLst (tCons (tC (.int 3)) (tCons (tC (.int 40)) (tCons (tOp (rI CPow fun i j => .int (i ^ j.toNat)) (tC (.int 10)) (tC (.int 9))) tNil)))) (tVar 1)) tNil)) [some (.ref wl.w), some (.int d)] H1 Q := fun i m ei hm m0 m9 => by
      refine ⟨_, rfl, ev_pick (K := K) (i := i) (ea_cons ev_c (ea_cons ev_c (ea_cons (ev_pow ev_c ev_c ⟨by decide, by decide, by decide⟩) ea_nil))) (show (3 : Nat) ≤ 100000 by decide) (ev_var (by rw [ei]; rfl)) hm H1 (Ex.refl H1) _ fun H2 e2 => ?_⟩
      exact ⟨wl, m, rfl, D1.well.same e2, m0, by omega, fun d2 H3 f0 f1 D2 => k d2 H3 f0 (by omega) ((D1.same e2).trans D2)⟩
    rcases hd with h | h | h
    · exact go 0 3 (by rw [h]; rfl) rfl (by decide) (by decide)
    · exact go 1 40 (by rw [h]; rfl) rfl (by decide) (by decide)
    · exact go 2 (10 ^ 9) (by rw [h]; rfl) rfl (by decide) (by decide)
end
end Hs
namespace Hs
open PySem PySem.Spec PyProof.Rows L2 Hu Evl
section
variable {P : Program} {wd : World} {K : PySem.W.Frag} {mg : Str → Option Value} {base : Heap} {C : Addr} {fD : Addr} {dD : FuncData}
/-! ### ids and stamps -/
theorem idOk {i j : Int} (h : 1 ≤ i ∧ i ≤ 99 ∧ 1 ≤ j) : gId (.tup [.int i, .int j]) = true := by
  show ((decide (1 ≤ i) && decide (i ≤ 99)) && decide (1 ≤ j)) = true
  rw [decide_eq_true h.1, decide_eq_true h.2.1, decide_eq_true h.2.2]
  rfl
theorem stampOk {i j : Int} (h : (i = 0 ∧ j = 0) ∨ (1 ≤ i ∧ 1 ≤ j ∧ j ≤ 99)) : gStamp (.tup [.int i, .int j]) = true := by
  show ((decide (i = 0) && decide (j = 0)) || (decide (1 ≤ i) && (decide (1 ≤ j) && decide (j ≤ 99)))) = true
  rcases h with ⟨h1, h2⟩ | ⟨h1, h2, h3⟩
  · rw [decide_eq_true h1, decide_eq_true h2]
    rfl
  · rw [decide_eq_true h1, decide_eq_true h2, decide_eq_true h3]
    simp
def spPair (R : Int → Int → Prop) : Sp := fun vs H Q _ => ∃ wl : WA, vs = [.ref wl.w] ∧ Well H wl ∧ ∀ (i j : Int) (p : Addr) (H' : Hp), i.natAbs < 2 ^ 60 → j.natAbs < 2 ^ 60 → R i j → H p = none → Drawn wl H H' → H' p = some (.tup [.int i, .int j]) → Q (.ref p) H'
theorem scIdL : FnScope ["well"] ["well"] (defScope lId) := ⟨rfl, rfl, rfl, by decide +kernel, rfl, by decide +kernel, by decide +kernel⟩
theorem ok_idL {f fN : Addr} {fd dN : FuncData} (F : Fun K "_law_id" "_law_id" lId f fd) (D : Dd P wd K mg base fD dD) (DN : Df K mg "_law_number" lNumber ["well"] fN dN) : FnOk P wd K mg base CX0 5 f fd ["well"] (spPair fun i j => 1 ≤ i ∧ i ≤ 99 ∧ 1 ≤ j) := by
  have GN : FnOk P wd K mg base CX0 4 fN dN ["well"] spNumber := ok_number DN.F D
  refine F.ok scIdL (fun vs H Q E h => ?_) (fun cdv A outer s H vs Q E hr h => ?_)
  · obtain ⟨wl, rfl, _⟩ := h
    rfl
  obtain ⟨wl, rfl, W, k⟩ := h
  refine ⟨_, pss_cons (ps_if (pt_cmpR op_eq (pe_draw D hr (by decide) (by rfl) (pv 0) pe_int) pe_int (nomark _))
      (pss_one (ps_ret (pe_tup (pa_cons (pe_op op_add pe_int (pe_draw D hr (by decide) (by rfl) (pv 0) pe_int)) (pa_cons (pe_op op_add pe_int (pe_call GN hr (by rfl) DN.g DN.F.kp DN.b .nil pass0 (pa_cons (pv 0) pa_nil))) pa_nil))))) pss_nil)
    (pss_one (ps_ret (pe_tup (pa_cons (pe_op op_add pe_int (pe_draw D hr (by decide) (by rfl) (pv 0) pe_int)) (pa_cons (pe_op op_add pe_int (pe_draw D hr (by decide) (by rfl) (pv 0) pe_int)) pa_nil))))), ?_⟩
  refine ⟨_, rfl, wl, 3, rfl, W, by decide, by decide, fun d H1 d0 d1 D1 => ⟨rfl, _, rfl, ite2 (fun q => ?_) (fun q => ?_)⟩⟩
  · refine ⟨_, rfl, wl, 99, rfl, D1.well, by decide, by decide, fun e H2 e0 e1 D2 => ⟨_, _, rfl, rfl, _, rfl, wl, rfl, D2.well, fun g H3 g0 g1 D3 => ⟨_, _, rfl, rfl, sz_of (show (2 : Nat) ≤ 100000 by decide), fun p hp => ?_⟩⟩⟩
    have DD := (D1.trans D2).trans D3
    exact k (1 + e) (1 + g) p _ (by omega) (by omega) (by omega) (DD.free W hp) (DD.new hp) upd_same
  · refine ⟨_, rfl, wl, 2, rfl, D1.well, by decide, by decide, fun e H2 e0 e1 D2 => ⟨_, _, rfl, rfl, _, rfl, wl, 3, rfl, D2.well, by decide, by decide, fun g H3 g0 g1 D3 => ⟨_, _, rfl, rfl, sz_of (show (2 : Nat) ≤ 100000 by decide), fun p hp => ?_⟩⟩⟩
    have DD := (D1.trans D2).trans D3
    exact k (1 + e) (1 + g) p _ (by omega) (by omega) (by omega) (DD.free W hp) (DD.new hp) upd_same
theorem scStampL : FnScope ["well", "kind"] ["well"] (defScope lStamp) := ⟨rfl, rfl, rfl, by decide +kernel, rfl, by decide +kernel, by decide +kernel⟩
theorem ok_stampL {f fN : Addr} {fd dN : FuncData} (F : Fun K "_law_stamp" "_law_stamp" lStamp f fd) (D : Dd P wd K mg base fD dD) (DN : Df K mg "_law_number" lNumber ["well"] fN dN) : FnOk P wd K mg base CX0 5 f fd ["well"] (spPair fun i j => (i = 0 ∧ j = 0) ∨ (1 ≤ i ∧ 1 ≤ j ∧ j ≤ 99)) := by
  have GN : FnOk P wd K mg base CX0 4 fN dN ["well"] spNumber := ok_number DN.F D
  refine F.ok scStampL (fun vs H Q E h => ?_) (fun cdv A outer s H vs Q E hr h => ?_)
  · obtain ⟨wl, rfl, _⟩ := h
    rfl
  obtain ⟨wl, rfl, W, k⟩ := h
  refine ⟨_, pss_cons (ps_set (i := 1) scStampL.nd rfl (.inl rfl) (pe_draw D hr (by decide) (by rfl) (pv 0) pe_int))
    (pss_cons (ps_if (pt_cmpR op_eq (pv 1) pe_int (nomark _)) (pss_one (ps_ret (pe_tup (pa_cons pe_int (pa_cons pe_int pa_nil))))) pss_nil)
    (pss_cons (ps_if (pt_cmpR op_eq (pv 1) pe_int (nomark _)) (pss_one (ps_ret (pe_tup (pa_cons (pe_op op_add pe_int (pe_call GN hr (by rfl) DN.g DN.F.kp DN.b .nil pass0 (pa_cons (pv 0) pa_nil))) (pa_cons (pe_op op_add pe_int (pe_draw D hr (by decide) (by rfl) (pv 0) pe_int)) pa_nil))))) pss_nil)
    (pss_one (ps_ret (pe_tup (pa_cons (pe_op op_add pe_int (pe_draw D hr (by decide) (by rfl) (pv 0) pe_int)) (pa_cons (pe_op op_add pe_int (pe_draw D hr (by decide) (by rfl) (pv 0) pe_int)) pa_nil))))))), ?_⟩
  refine ⟨_, rfl, wl, 5, rfl, W, by decide, by decide, fun d H1 d0 d1 D1 => ⟨_, rfl, rfl, _, rfl, ite2 (fun q => ?_) (fun q => ?_)⟩⟩
  · exact ⟨sz_of (show (2 : Nat) ≤ 100000 by decide), fun p hp => k 0 0 p _ (by decide) (by decide) (by omega) (D1.free W hp) (D1.new hp) upd_same⟩
  refine ⟨_, rfl, rfl, _, rfl, ite2 (fun q => ?_) (fun q => ?_)⟩
  · refine ⟨_, rfl, wl, rfl, D1.well, fun e H2 e0 e1 D2 => ⟨_, _, rfl, rfl, _, rfl, wl, 99, rfl, D2.well, by decide, by decide, fun g H3 g0 g1 D3 => ⟨_, _, rfl, rfl, sz_of (show (2 : Nat) ≤ 100000 by decide), fun p hp => ?_⟩⟩⟩
    have DD := (D1.trans D2).trans D3
    exact k (1 + e) (1 + g) p _ (by omega) (by omega) (by omega) (DD.free W hp) (DD.new hp) upd_same
  · refine ⟨_, rfl, wl, 4, rfl, D1.well, by decide, by decide, fun e H2 e0 e1 D2 => ⟨_, _, rfl, rfl, _, rfl, wl, 3, rfl, D2.well, by decide, by decide, fun g H3 g0 g1 D3 => ⟨_, _, rfl, rfl, sz_of (show (2 : Nat) ≤ 100000 by decide), fun p hp => ?_⟩⟩⟩
    have DD := (D1.trans D2).trans D3
    exact k (1 + e) (1 + g) p _ (by omega) (by omega) (by omega) (DD.free W hp) (DD.new hp) upd_same
/-! ### members -/
def spMem : Sp := fun vs H Q _ => ∃ wl : WA, vs = [.ref wl.w] ∧ Well H wl ∧ ∀ (f : Nat → Bool) (p : Addr) (H' : Hp), (∃ i, i < 9 ∧ f i = true) → H p = none → Drawn wl H H' → H' p = some (.tup (given 9 f fun i => V.int (i : Int))) → Q (.ref p) H'
theorem scMem : FnScope ["well", "bits", "k"] ["well"] (defScope lMembers) := ⟨rfl, rfl, rfl, by decide +kernel, rfl, by decide +kernel, by decide +kernel⟩
def pows : List V := [.int 1, .int 2, .int 4, .int 8, .int 16, .int 32, .int 64, .int 128, .int 256]
theorem pows_get {i : Nat} (h : i < 9) : pows[i]? = some (.int (2 ^ i : Int)) := by
  match i, h with
  | 0, _ | 1, _ | 2, _ | 3, _ | 4, _ | 5, _ | 6, _ | 7, _ | 8, _ => rfl
abbrev rTupQ (K : PySem.W.Frag) : List V → Hp → VK → Prop := fun xs H Q => ∃ p ys, xs = [.ref p] ∧ ((SqL K H p ys ∧ ∀ l, H l = none → Q (.ref l) (upd H l (.tup ys))) ∨ (SqT K H p ys ∧ Q (.ref p) H))
theorem s_retTL {σ : L2.St} {H : Hp} {te : TE} {xs : List V} {D : Ends} (h : EvL te σ H xs) (k : ∀ p H1, H p = none → Ex H H1 → H1 p = some (.tup xs) → D.rt (.ref p) H1) : tRet (tCB (rTupQ K) (tCons te tNil)) D σ H :=
  h H (Ex.refl H) _ fun D' H2 hD e2 h2 => ⟨D', _, rfl, .inl ⟨SqL.of h2, fun p hp => k p _ (fresh_back e2 hp) (e2.trans (Ex.new hp)) upd_same⟩⟩
theorem bits_some (d : Int) (d0 : 0 ≤ d) (d1 : d < 511) : ∃ i, i < 9 ∧ decide (V.int (((1 + d) / (2 ^ i : Int)).fmod 2) = V.int 1) = true := by
  have key : ∀ n : Fin 511, ∃ i : Fin 9, ((1 + (n.1 : Int)) / (2 ^ i.1 : Int)).fmod 2 = 1 := by decide +kernel
  obtain ⟨i, hi⟩ := key ⟨d.toNat, by omega⟩
  refine ⟨i.1, i.2, decide_eq_true ?_⟩
  have e : ((d.toNat : Nat) : Int) = d := by omega
  rw [← e]
  exact congrArg V.int hi
theorem ok_mem {f : Addr} {fd : FuncData} (F : Fun K "_law_members" "_law_members" lMembers f fd) (B : Bt mg) (D : Dd P wd K mg base fD dD) : FnOk P wd K mg base CX0 4 f fd ["well"] spMem := by
  refine F.ok scMem (fun vs H Q E h => ?_) (fun cdv A outer s H vs Q E hr h => ?_)
  · obtain ⟨wl, rfl, _⟩ := h
    rfl
  obtain ⟨wl, rfl, W, k⟩ := h
  refine ⟨_, pss_cons (ps_set (i := 1) scMem.nd rfl (.inr rfl) (pe_op op_add pe_int (pe_draw D hr (by decide) (by rfl) (pv 0) pe_int)))
    (pss_one (ps_ret (pe_callTy call_tuple_of (by rfl) B.tup boot_tuple' (pa_cons (pe_lc (own := [("k", 2)]) (g := gName 2) rfl scMem.nd (pi_range1 (by rfl) B.range (pa_cons pe_int pa_nil)) (blkOk_by (N := ["well", "bits", "k"]) (sc := defScope lMembers) (by decide +kernel))
      (fun _ _ _ _ _ => pg_name (i := 2) scMem.nd rfl (Or.inl rfl)) (fun _ _ _ _ _ => pts_one (pt_cmpR op_eq (pe_op op_modN (pe_callTy call_int1 (by rfl) B.int boot_int (pa_cons (pe_op op_fdivW (pv 1) (pe_ix (show IxR _ (rIxL K) from ix_list) (pe_lst (pa_cons pe_int (pa_cons pe_int (pa_cons pe_int (pa_cons pe_int (pa_cons pe_int (pa_cons pe_int (pa_cons pe_int (pa_cons pe_int (pa_cons pe_int pa_nil)))))))))) (pv 2) (fun _ _ => rfl))) pa_nil)) pe_int) pe_int (nomark _)))
      (fun _ _ _ _ _ => pv 2)) pa_nil)))), ?_⟩
  refine ⟨_, rfl, wl, 511, rfl, W, by decide, by decide, fun d H1 d0 d1 D1 => ⟨_, _, rfl, rfl, ?_⟩⟩
  have L := el_lcR1 (σ := [some (V.ref wl.w), some (.int (1 + d)), none]) (H := H1) (j := 2) (vs := [2]) (n := 9) (t := tTest (tOp rEq (tOp (rI (fun _ j => j ≠ 0) fun i j => .int (i.fmod j)) (tCB (fun xs H Q => (∃ i, xs = [V.int i] ∧ Q (.int i) H) ∨ ∃ k, xs = [.bl k] ∧ Q (.int (if k then 1 else 0)) H) (tCons (tOp (rI CDivW fun i j => .int (i / j)) (tVar 1) (tOp (rIxL K) (tLst (tCons (tC (.int 1)) (tCons (tC (.int 2)) (tCons (tC (.int 4)) (tCons (tC (.int 8)) (tCons (tC (.int 16)) (tCons (tC (.int 32)) (tCons (tC (.int 64)) (tCons (tC (.int 128)) (tCons (tC (.int 256)) tNil)))))))))) (tVar 2))) tNil)) (tC (.int 2))) (tC (.int 1)))) (te := tVar 2)
    (fun i => decide (V.int (((1 + d) / (2 ^ i : Int)).fmod 2) = V.int 1)) (fun i => .int (i : Int)) (ea_cons ev_c ea_nil) (by decide) (fun _ => rfl) (fun i H2 e2 hi => ?_) (fun i H2 e2 hi _ => ev_var rfl)
  · dsimp only [gName]
    exact s_retTL (K := K) L fun p H2 hp e2 h2 => k _ p _ (bits_some d d0 d1) (D1.free W hp) (D1.same e2) h2
  · have h2 : (0 : Int) < 2 ^ i := by
      have : (0 : Int) < 2 := by decide
      exact Int.pow_pos this
    refine et_test (ev_op (ev_op (ev_cb (ea_cons (ev_op (ev_var rfl) (ev_pick (K := K) (xs := pows) (i := i) (ea_cons ev_c (ea_cons ev_c (ea_cons ev_c (ea_cons ev_c (ea_cons ev_c (ea_cons ev_c (ea_cons ev_c (ea_cons ev_c (ea_cons ev_c ea_nil))))))))) (by decide) (ev_var rfl) (pows_get (by omega))) (rv_I ?_)) ea_nil) fun H3 e3 Q q => .inl ⟨_, rfl, q H3 (Ex.refl H3)⟩) ev_c (rv_I (show (2 : Int) ≠ 0 by decide))) ev_c (rv_eq rfl))
    refine wide_div h2 (b := 20) ?_ (by decide) (by decide)
    have hi9 : i < 9 := by omega
    rw [Int.natAbs_pow]
    exact Nat.pow_lt_pow_right (by decide) (by omega)
end
end Hs
namespace Hs
open PySem PySem.Spec PyProof.Rows L2 Hu Evl
section
variable {P : Program} {wd : World} {K : PySem.W.Frag} {mg : Str → Option Value} {base : Heap} {C : Addr} {fD : Addr} {dD : FuncData}
theorem letters_len : (TL.tl lettersZ).length = 26 := by decide +kernel
theorem letters_ok : (TL.tl lettersZ).all lowc = true := by decide +kernel
def spName : Sp := fun vs H Q _ => ∃ wl : WA, vs = [.ref wl.w] ∧ Well H wl ∧ ∀ (z : Str) (H' : Hp), gNam (.str z) = true → Drawn wl H H' → Q (.str z) H'
theorem scName : FnScope ["well", "many", "k"] ["well"] (defScope lName) := ⟨rfl, rfl, rfl, by decide +kernel, rfl, by decide +kernel, by decide +kernel⟩
theorem join_signs : ∀ l : List Str, (∀ z ∈ l, ∃ c, z = ⟨#[c]⟩ ∧ lowc c = true) → (l.map (·.length)).sum = l.length ∧ ((l.map TL.tl).flatten).length = l.length ∧ ∀ c ∈ (l.map TL.tl).flatten, lowc c = true := by
  intro l
  induction l with
  | nil => exact fun _ => ⟨rfl, rfl, fun c hc => by cases hc⟩
  | cons a r ih =>
    intro h
    obtain ⟨i1, i2, i3⟩ := ih fun z hz => h z (List.mem_cons_of_mem _ hz)
    obtain ⟨c, ec, oc⟩ := h a List.mem_cons_self
    subst ec
    refine ⟨?_, ?_, ?_⟩
    · rw [List.map_cons, List.sum_cons, i1, List.length_cons]
      show 1 + r.length = r.length + 1
      omega
    · show (TL.tl (⟨#[c]⟩ : Str) ++ (r.map TL.tl).flatten).length = _
      rw [sgn_tl, List.length_append, i2, List.length_cons]
      show 1 + r.length = r.length + 1
      omega
    · intro b hb
      have hb' : b ∈ TL.tl (⟨#[c]⟩ : Str) ++ (r.map TL.tl).flatten := hb
      rcases List.mem_append.mp hb' with hb | hb
      · rw [sgn_tl] at hb
        rw [List.mem_singleton.mp hb]
        exact oc
      · exact i3 b hb
theorem ok_name {f : Addr} {fd : FuncData} (F : Fun K "_law_name" "_law_name" lName f fd) (B : Bt mg) (D : Dd P wd K mg base fD dD) : FnOk P wd K mg base CX0 4 f fd ["well"] spName := by
  refine F.ok scName (fun vs H Q E h => ?_) (fun cdv A outer s H vs Q E hr h => ?_)
  · obtain ⟨wl, rfl, _⟩ := h
    rfl
  obtain ⟨wl, rfl, W, k⟩ := h
  have GD : FnOk P wd K mg base CX0 3 fD dD ["well", "many"] spDraw := D.ok
  refine ⟨_, pss_cons (ps_set (i := 1) scName.nd rfl (.inl rfl) (pe_op op_add pe_int (pe_draw D hr (by decide) (by rfl) (pv 0) pe_int)))
    (Evl.pss_cut (ps_if (pt_cmpR op_eq (pe_draw D hr (by decide) (by rfl) (pv 0) pe_int) pe_int (nomark _)) (pss_one (ps_set (i := 1) scName.nd rfl (.inl rfl) (pe_op op_add pe_int (pe_draw D hr (by decide) (by rfl) (pv 0) pe_int)))) pss_nil)
    (pss_one (ps_ret (pe_join pe_str (pe_lc (own := [("k", 2)]) (g := gName 2) (tt := tYes) rfl scName.nd (pi_range1 (by rfl) B.range (pa_cons (pv 1) pa_nil)) (blkOk_by (N := ["well", "many", "k"]) (sc := defScope lName) (by decide +kernel))
        (fun _ _ _ _ _ => pg_name (i := 2) scName.nd rfl (Or.inl rfl)) (fun _ _ _ _ _ => pts_nil)
        (fun _ _ _ _ _ => pe_ix ix_str pe_str (pe_call GD hr (by rfl) D.g D.kp D.b .nil pass0 (pa_cons (pv 0) (pa_cons pe_int pa_nil))) (fun _ _ => rfl))))))), ?_⟩
  refine ⟨_, rfl, wl, 2, rfl, W, by decide, by decide, fun d H1 d0 d1 D1 => ⟨_, _, rfl, rfl, ?_⟩⟩
  refine ⟨fun σ' H' => ∃ m : Int, σ' = [some (.ref wl.w), some (.int m), none] ∧ 1 ≤ m ∧ m ≤ 8 ∧ Drawn wl H H', ?_, ?_⟩
  · refine ⟨_, rfl, wl, 4, rfl, D1.well, by decide, by decide, fun d2 H2 e0 e1 D2 => ⟨rfl, _, rfl, ite2 (fun q => ?_) (fun q => ⟨1 + d, rfl, by omega, by omega, D1.trans D2⟩)⟩⟩
    exact ⟨_, rfl, wl, 8, rfl, D2.well, by decide, by decide, fun d3 H3 f0 f1 D3 => ⟨_, _, rfl, rfl, 1 + d3, rfl, by omega, by omega, (D1.trans D2).trans D3⟩⟩
  · rintro σ' H1 ⟨m, rfl, m1, m8, D1⟩
    refine ⟨⟨_, rfl⟩, _, rfl, m, rfl, by omega, by omega, fun D' hD => ?_⟩
    refine lc_range (lo := 0) (n := m.toNat) (fun i H' => Drawn wl H1 H' ∧ ∃ zs : List Str, H' D' = some (.lst (zs.map V.str)) ∧ zs.length = i ∧ ∀ z ∈ zs, ∃ c, z = ⟨#[c]⟩ ∧ lowc c = true)
      ⟨(Drawn.refl D1.well).new hD, [], upd_same, rfl, fun z hz => by cases hz⟩ ?_ ?_
    · rintro i H2 hi ⟨D2, zs, hz, hl, hc⟩
      have nD := (D1.well.ne hD).1
      refine ⟨rfl, _, rfl, wl, 26, rfl, D2.well, by decide, by decide, fun d H3 d0 d1 D3 => ?_⟩
      have hd : d.toNat < (TL.tl lettersZ).length := by
        rw [letters_len]
        omega
      have ho : lowc (TL.tl lettersZ)[d.toNat] = true := List.all_eq_true.mp letters_ok _ (List.getElem_mem hd)
      refine ⟨lettersZ, d, (TL.tl lettersZ)[d.toNat], rfl, rfl, ?_, ?_, zs.map V.str, D3.keep D' _ nD hz, ?_, ?_⟩
      · rw [TL.len_tl] at *
        exact len_fine (by decide +kernel)
      · have e : d = ((d.toNat : Nat) : Int) := by omega
        have hg : (TL.tl lettersZ)[d.toNat]? = some (TL.tl lettersZ)[d.toNat] := List.getElem?_eq_getElem hd
        have := atI_nat hg
        rw [← e] at this
        exact this
      · rw [List.length_map]
        have := bit_line
        unfold bit at this
        omega
      · refine ⟨(D2.trans D3).put D1.well hD, zs ++ [⟨#[(TL.tl lettersZ)[d.toNat]]⟩], ?_, ?_, ?_⟩
        · rw [upd_same, List.map_append]
          rfl
        · rw [List.length_append, hl]
          rfl
        · intro z hz
          rcases List.mem_append.mp hz with hz | hz
          · exact hc z hz
          · exact ⟨_, List.mem_singleton.mp hz, ho⟩
    · rintro H2 ⟨D2, zs, hz, hl, hc⟩
      obtain ⟨s1, s2, s3⟩ := join_signs zs hc
      refine ⟨_, D', zs, rfl, rfl, .inl (SqL.of hz), ?_, k _ _ ?_ (D1.trans D2)⟩
      · show (zs.map (·.length)).sum + zs.length * 0 ≤ 16777216
        omega
      · have e1 : (Txt.join ("" : Str) zs).length = m.toNat := by
          rw [TL.len_tl, join_tl, s2, hl]
        have e2 : (TL.tl (Txt.join ("" : Str) zs)).all lowc = true := by
          rw [join_tl]
          exact List.all_eq_true.mpr s3
        show ((decide (1 ≤ (Txt.join ("" : Str) zs).length) && decide ((Txt.join ("" : Str) zs).length ≤ 8)) && (TL.tl (Txt.join ("" : Str) zs)).all lowc) = true
        rw [e1, e2, decide_eq_true (by omega), decide_eq_true (by omega)]
        rfl
end
end Hs
namespace Hs
open PySem PySem.Spec PyProof.Rows L2 Hu Evl
open Hk (SI ltSI)
abbrev lUnlike : Stmt := topS 98
def ltZ (a b : Str) : Prop := a.cps.toList < b.cps.toList
theorem not_lt_of {a b : Str} (h : ltCps b.cps.toList a.cps.toList = false) : ¬ b.cps.toList < a.cps.toList := by
  rw [ltCps_eq] at h
  exact of_decide_eq_false h
theorem rising_pw : ∀ {l : List Str} {p : Str}, risingS p l = true → (p :: l).Pairwise fun a b => ¬ b.cps.toList < a.cps.toList
  | [], p, _ => List.pairwise_singleton _ _
  | x :: r, p, h => by
    have h' : (!ltCps x.cps.toList p.cps.toList && risingS x r) = true := h
    obtain ⟨h1, h2⟩ := and2 h'
    have n1 := not_lt_of (by simpa using h1)
    have ih := rising_pw h2
    rw [List.pairwise_cons]
    refine ⟨fun y hy => ?_, ih⟩
    rcases List.mem_cons.mp hy with e | hy
    · rw [e]
      exact n1
    · have n2 := (List.pairwise_cons.mp ih).1 y hy
      exact List.not_lt.mpr (List.le_trans (List.not_lt.mp n1) (List.not_lt.mp n2))
theorem sorted_lt {l : List Str} (h : sortedS l = true) (n : l.Nodup) : l.Pairwise ltZ := by
  cases l with
  | nil => exact .nil
  | cons x r =>
    refine ((rising_pw h).and n).imp fun {a b} q => ?_
    rcases Hk.lt_tri a.cps.toList b.cps.toList with z | z | z
    · exact z
    · exact absurd (Hk.str_ext z) q.2
    · exact absurd z q.1
/-- the pairs of integers of these values -/
inductive P2 (H : Hp) : List V → List (Int × Int) → Prop
  | nil : P2 H [] []
  | cons {p : Addr} {k : Int × Int} {vs : List V} {ks : List (Int × Int)} : H p = some (.tup [.int k.1, .int k.2]) → P2 H vs ks → P2 H (.ref p :: vs) (k :: ks)
theorem P2.tups {H H' : Hp} {vs : List V} {ks : List (Int × Int)} (e : ∀ b zs, H b = some (.tup zs) → H' b = some (.tup zs)) (h : P2 H vs ks) : P2 H' vs ks := by
  induction h with
  | nil => exact .nil
  | cons h _ ih => exact .cons (e _ _ h) ih
theorem P2.len {H : Hp} {vs : List V} {ks : List (Int × Int)} (h : P2 H vs ks) : vs.length = ks.length := by
  induction h with
  | nil => rfl
  | cons _ _ ih => rw [List.length_cons, List.length_cons, ih]
theorem P2.snoc {H : Hp} {vs : List V} {ks : List (Int × Int)} {p : Addr} {k : Int × Int} (h : P2 H vs ks) (hp : H p = some (.tup [.int k.1, .int k.2])) : P2 H (vs ++ [.ref p]) (ks ++ [k]) := by
  induction h with
  | nil => exact .cons hp .nil
  | cons h _ ih => exact .cons h ih
theorem P2.get {H : Hp} {vs : List V} {ks : List (Int × Int)} (h : P2 H vs ks) : ∀ {j : Nat} {v : V}, vs[j]? = some v → ∃ p k, v = .ref p ∧ ks[j]? = some k ∧ H p = some (.tup [.int k.1, .int k.2]) := by
  induction h with
  | nil => exact fun e => by simp at e
  | cons h _ ih =>
    intro j v e
    cases j with
    | zero =>
      cases e
      exact ⟨_, _, rfl, rfl, h⟩
    | succ j => exact ih e
def kf (H : Hp) (v : V) : Int × Int := match v with
  | .ref p => match H p with
    | some (.tup [.int i, .int j]) => (i, j)
    | _ => (0, 0)
  | _ => (0, 0)
theorem P2.kf {H : Hp} {vs : List V} {ks : List (Int × Int)} (h : P2 H vs ks) : ks = vs.map (kf H) := by
  induction h with
  | nil => rfl
  | cons h _ ih =>
    rw [List.map_cons, ← ih]
    congr 1
    show _ = match H _ with | some (.tup [.int i, .int j]) => (i, j) | _ => (0, 0)
    rw [h]
theorem P2.of {H : Hp} : ∀ {vs : List V}, (∀ v ∈ vs, ∃ p, v = .ref p ∧ H p = some (.tup [.int (Hs.kf H v).1, .int (Hs.kf H v).2])) → P2 H vs (vs.map (Hs.kf H))
  | [], _ => .nil
  | v :: vs, h => by
    obtain ⟨p, rfl, hp⟩ := h v (List.mem_cons_self ..)
    exact .cons hp (P2.of fun u hu => h u (List.mem_cons_of_mem _ hu))
theorem shp_list {ds : List PyData} (h : ∀ d ∈ ds, d.canLay0 = true ∧ d.depth ≤ 5) : SeqAt.shaped (.list ds) = true := by
  have h1 : PyData.canLayAll0 ds = true := by
    induction ds with
    | nil => rfl
    | cons d ds ih =>
      simp only [PyData.canLayAll0, Bool.and_eq_true]
      exact ⟨(h d (List.mem_cons_self ..)).1, ih fun x hx => h x (List.mem_cons_of_mem _ hx)⟩
  have h2 : PyData.depthAll ds ≤ 5 := by
    clear h1
    induction ds with
    | nil => simp [PyData.depthAll]
    | cons d ds ih =>
      simp only [PyData.depthAll]
      have := (h d (List.mem_cons_self ..)).2
      have := ih fun x hx => h x (List.mem_cons_of_mem _ hx)
      omega
  show ((PyData.list ds).canLay0 && decide ((PyData.list ds).depth ≤ 64)) = true
  have e1 : (PyData.list ds).canLay0 = true := by
    simp only [PyData.canLay0]
    exact h1
  have e2 : (PyData.list ds).depth ≤ 64 := by
    simp only [PyData.depth]
    omega
  rw [e1, decide_eq_true e2]
  rfl
section
variable {P : Program} {wd : World} {K : PySem.W.Frag} {mg : Str → Option Value} {base : Heap} {C : Addr}
theorem scUn : FnScope ["things", "found", "thing"] ["things"] (defScope lUnlike) := ⟨rfl, rfl, rfl, by decide +kernel, rfl, by decide +kernel, by decide +kernel⟩
/-! ### texts -/
theorem dp_strs {H : Hp} : ∀ zs : List Str, DpAll K H (zs.map V.str) (zs.map PyData.str)
  | [] => .nil
  | z :: zs => .cons (.str z) (dp_strs zs)
theorem any_strs (zs : List Str) (z : Str) : ((zs.map PyData.str).any fun d => PyData.eqv d (.str z)) = decide (z ∈ zs) := by
  induction zs with
  | nil => rfl
  | cons x zs ih =>
    rw [List.map_cons, List.any_cons, ih]
    have e : PyData.eqv (.str x) (.str z) = decide (x = z) := by
      simp only [PyData.eqv]
      by_cases q : x = z
      · rw [q]
        simp
      · rw [decide_eq_false q]
        exact beq_eq_false_iff_ne.mpr q
    rw [e]
    by_cases q : x = z
    · simp [q]
    · simp [q, Ne.symm q, fun e : z = x => q e.symm]
theorem rv_notStr {H : Hp} {l : Addr} {zs : List Str} {z : Str} (hl : H l = some (.lst (zs.map V.str))) (hz : ∀ x ∈ zs, PyData.strOk x = true) (h1 : PyData.strOk z = true) : RV (rNotInD K) (.str z) (.ref l) H (.bl (!decide (z ∈ zs))) := fun H1 e Q q =>
  ⟨_, _, .str z, .lst (sq_of (e _ _ hl)) (dp_strs zs), by
    show ((PyData.str z).canLay0 && decide ((PyData.str z).depth ≤ 64)) = true
    simp [PyData.canLay0, PyData.depth, h1], shp_list fun d hd => by
    obtain ⟨x, hx, rfl⟩ := List.mem_map.mp hd
    exact ⟨by simp [PyData.canLay0, hz x hx], by simp [PyData.depth]⟩, by
    rw [any_strs]
    exact q H1 (Ex.refl H1)⟩
def spUnS : Sp := fun vs H Q _ => ∃ (a : Addr) (zs : List Str), vs = [.ref a] ∧ H a = some (.lst (zs.map V.str)) ∧ 1 ≤ zs.length ∧ zs.length ≤ 50 ∧ (∀ z ∈ zs, PyData.strOk z = true) ∧
  ∀ (p : Addr) (ys : List Str) H', H p = none → Same H H' → H' p = some (.lst (ys.map V.str)) → 1 ≤ ys.length → ys.length ≤ zs.length → (∀ y ∈ ys, y ∈ zs) → ys.Pairwise ltZ → Q (.ref p) H'
theorem ok_unS {f : Addr} {fd : FuncData} (F : Fun K "_law_unlike" "_law_unlike" lUnlike f fd) (Z : Bz mg) : FnOk P wd K mg base CX0 2 f fd ["things"] spUnS := by
  refine F.ok scUn (fun vs H Q E h => ?_) (fun cdv A outer s H vs Q E hr h => ?_)
  · obtain ⟨a, zs, rfl, _⟩ := h
    rfl
  obtain ⟨a, zs, rfl, ha, z1, z50, hz, k⟩ := h
  have u65 : ∀ {k : Nat} {A : Around}, Room k A → A.units + 65 < cLine := fun {k A} r => by
    have := r.un
    omega
  refine ⟨_, pss_cons (ps_set (i := 1) scUn.nd rfl (.inl rfl) (pe_lst pa_nil))
    (pss_cons (ps_for PassesOwn.never rfl (pi_list (pv 0)) (pg_name (i := 2) scUn.nd rfl (Or.inl rfl))
      (pss_one (ps_if (pt_cmpR (show OpR _ _ (rNotInD K) from op_notInD (u65 hr)) (pv 2) (pv 1) (by rfl)) (pss_one (ps_expr (pe_bm PySem.F.plainAttrs_list PySem.F.slot_list_append PySem.F.type_list_append mt_append (pv 1) (pa_cons (pv 2) pa_nil)))) pss_nil)))
    (pss_one (ps_ret (pe_callB cr_sortedS (by rfl) Z.sort boot_sorted' (pa_cons (pv 1) pa_nil))))), ?_⟩
  refine q_asgL (el_lst ea_nil (by decide)) fun l H1 hl e1 h1 => ?_
  refine q_forL (ev_var rfl) (sq_of (e1 _ _ ha)) (fun i σ' H' => ∃ (x2 : Option V) (fs : List Str), σ' = [some (.ref a), some (.ref l), x2] ∧ Ex H H' ∧ H' l = some (.lst (fs.map V.str)) ∧ fs.length ≤ i ∧ (1 ≤ i → 1 ≤ fs.length) ∧ fs.Nodup ∧ ∀ y ∈ fs, y ∈ zs)
    (fun H2 e2 => ⟨_, [], rfl, e1.trans e2, e2 _ _ h1, Nat.le_refl _, fun h => absurd h (by decide), .nil, fun y hy => by cases hy⟩) (fun i σ' H' _ ⟨x2, fs, _, e, _⟩ => sq_of (e _ _ ha)) ?_ ?_
  · rintro i x σ' H2 hi ⟨x2, fs, rfl, e2, h2, l1, l2, nd, mem⟩
    rw [List.getElem?_map] at hi
    cases hzi : zs[i]? with
    | none => rw [hzi] at hi; cases hi
    | some z =>
      rw [hzi] at hi
      cases hi
      have hzm := List.mem_of_getElem? hzi
      show tIfS _ _ tNext _ [some (V.ref a), some (.ref l), some (.str z)] H2
      refine s_when (et_test (ev_op (ev_var rfl) (ev_var rfl) (rv_notStr h2 (fun y hy => hz y (mem y hy)) (hz z hzm)))) (fun q H3 e3 => ?_) (fun q H3 e3 => ?_)
      · have q' : z ∉ fs := by simpa using q
        refine s_app (K := K) (e3 _ _ h2) (ev_var rfl) (ev_var rfl) (by rw [List.length_map]; have := (List.getElem?_eq_some_iff.mp hzi).1; omega) fun H4 e4 => ⟨_, fs ++ [z], rfl, Ex.mut ((e2.trans e3).trans e4) hl, by rw [upd_same, List.map_append]; rfl, by rw [List.length_append]; show fs.length + 1 ≤ i + 1; omega, fun _ => by rw [List.length_append]; show 1 ≤ fs.length + 1; omega, ?_, ?_⟩
        · rw [List.nodup_append]
          refine ⟨nd, by simp, fun y hy c hc => ?_⟩
          rw [List.mem_singleton] at hc
          subst hc
          exact fun e => q' (e ▸ hy)
        · intro y hy
          rcases List.mem_append.mp hy with h | h
          · exact mem y h
          · rw [List.mem_singleton.mp h]
            exact hzm
      · have q' : z ∈ fs := by simpa using q
        exact ⟨_, fs, rfl, e2.trans e3, e3 _ _ h2, by omega, fun _ => List.length_pos_of_mem q', nd, mem⟩
  · rintro σ' H2 ⟨x2, fs, rfl, e2, h2, l1, l2, nd, mem⟩
    rw [List.length_map] at l1 l2
    refine ⟨.ref l, rfl, l, fs, rfl, sq_of h2, by omega, fun ys p perm hs hp => ?_⟩
    refine k p ys _ (fresh_back e2 hp) (e2.trans (Ex.new hp)) upd_same (by rw [perm.length_eq]; exact l2 z1) (by rw [perm.length_eq]; exact l1) (fun y hy => mem y (perm.mem_iff.mp hy)) (sorted_lt hs (perm.nodup_iff.mpr nd))
end
end Hs
namespace Hs
open PySem PySem.Spec PyProof.Rows L2 Hu Evl
open Hk (SI ltSI)
def ltI2 (a b : Int × Int) : Prop := a.1 < b.1 ∨ (a.1 = b.1 ∧ a.2 < b.2)
theorem P2.dp {K : PySem.W.Frag} {H : Hp} {vs : List V} {ks : List (Int × Int)} (h : P2 H vs ks) : DpAll K H vs (ks.map fun k => PyData.tuple [.int k.1, .int k.2]) := by
  induction h with
  | nil => exact .nil
  | cons h _ ih => exact .cons (dp2 h) ih
theorem any_p2 (ks : List (Int × Int)) (k : Int × Int) : ((ks.map fun k => PyData.tuple [.int k.1, .int k.2]).any fun d => PyData.eqv d (.tuple [.int k.1, .int k.2])) = decide (k ∈ ks) := by
  induction ks with
  | nil => rfl
  | cons x ks ih =>
    rw [List.map_cons, List.any_cons, ih, eqv2]
    have e : (decide (x.1 = k.1) && decide (x.2 = k.2)) = decide (x = k) := by
      by_cases q : x = k
      · rw [q]
        simp
      · rw [decide_eq_false q]
        by_cases q1 : x.1 = k.1
        · rw [decide_eq_true q1, decide_eq_false fun q2 => q (Prod.ext q1 q2)]
          rfl
        · rw [decide_eq_false q1]
          rfl
    rw [e]
    by_cases q : x = k
    · simp [q]
    · simp [q]
      exact fun e => absurd e.symm q
theorem rv_notP2 {K : PySem.W.Frag} {H : Hp} {l p : Addr} {vs : List V} {ks : List (Int × Int)} {k : Int × Int} (hl : H l = some (.lst vs)) (h : P2 H vs ks) (hp : H p = some (.tup [.int k.1, .int k.2])) : RV (rNotInD K) (.ref p) (.ref l) H (.bl (!decide (k ∈ ks))) := fun H1 e Q q =>
  ⟨_, _, dp2 (e _ _ hp), .lst (sq_of (e _ _ hl)) (P2.dp (h.tups fun b zs hb => e _ _ hb)), shp2 _ _, shp_list fun d hd => by
    obtain ⟨x, hx, rfl⟩ := List.mem_map.mp hd
    exact ⟨by simp [PyData.canLay0, PyData.canLayAll0], by simp [PyData.depth, PyData.depthAll]⟩, by
    rw [any_p2]
    exact q H1 (Ex.refl H1)⟩
section
variable {P : Program} {wd : World} {K : PySem.W.Frag} {mg : Str → Option Value} {base : Heap} {C : Addr}
def spUnP : Sp := fun vs H Q _ => ∃ (a : Addr) (xs : List V) (ks : List (Int × Int)), vs = [.ref a] ∧ H a = some (.lst xs) ∧ P2 H xs ks ∧ 1 ≤ ks.length ∧ ks.length ≤ 50 ∧
  ∀ (p : Addr) (ys : List V) (js : List (Int × Int)) H', H p = none → Same H H' → H' p = some (.lst ys) → P2 H' ys js → 1 ≤ js.length → js.length ≤ ks.length → (∀ y ∈ js, y ∈ ks) → js.Pairwise ltI2 → Q (.ref p) H'
theorem ok_unP {f : Addr} {fd : FuncData} (F : Fun K "_law_unlike" "_law_unlike" lUnlike f fd) (Z : Bz mg) : FnOk P wd K mg base CX0 2 f fd ["things"] spUnP := by
  refine F.ok scUn (fun vs H Q E h => ?_) (fun cdv A outer s H vs Q E hr h => ?_)
  · obtain ⟨a, xs, ks, rfl, _⟩ := h
    rfl
  obtain ⟨a, xs, ks, rfl, ha, hp2, z1, z50, k⟩ := h
  have u65 : ∀ {k : Nat} {A : Around}, Room k A → A.units + 65 < cLine := fun {k A} r => by
    have := r.un
    omega
  refine ⟨_, pss_cons (ps_set (i := 1) scUn.nd rfl (.inl rfl) (pe_lst pa_nil))
    (pss_cons (ps_for PassesOwn.never rfl (pi_list (pv 0)) (pg_name (i := 2) scUn.nd rfl (Or.inl rfl))
      (pss_one (ps_if (pt_cmpR (show OpR _ _ (rNotInD K) from op_notInD (u65 hr)) (pv 2) (pv 1) (by rfl)) (pss_one (ps_expr (pe_bm PySem.F.plainAttrs_list PySem.F.slot_list_append PySem.F.type_list_append mt_append (pv 1) (pa_cons (pv 2) pa_nil)))) pss_nil)))
    (pss_one (ps_ret (pe_callB cr_sortedPO (by rfl) Z.sort boot_sorted' (pa_cons (pv 1) pa_nil))))), ?_⟩
  have hlen := hp2.len
  refine q_asgL (el_lst ea_nil (by decide)) fun l H1 hl e1 h1 => ?_
  refine q_forL (ev_var rfl) (sq_of (e1 _ _ ha)) (fun i σ' H' => ∃ (x2 : Option V) (vs : List V) (js : List (Int × Int)), σ' = [some (.ref a), some (.ref l), x2] ∧ Ex H H' ∧ H' l = some (.lst vs) ∧ P2 H' vs js ∧ js.length ≤ i ∧ (1 ≤ i → 1 ≤ js.length) ∧ js.Nodup ∧ ∀ y ∈ js, y ∈ ks)
    (fun H2 e2 => ⟨_, [], [], rfl, e1.trans e2, e2 _ _ h1, .nil, Nat.le_refl _, fun h => absurd h (by decide), .nil, fun y hy => by cases hy⟩) (fun i σ' H' _ ⟨x2, vs, js, _, e, _⟩ => sq_of (e _ _ ha)) ?_ ?_
  · rintro i x σ' H2 hi ⟨x2, vs, js, rfl, e2, h2, p2, l1, l2, nd, mem⟩
    have hi' := (List.getElem?_eq_some_iff.mp hi).1
    obtain ⟨p, z, rfl, hz, hp⟩ := hp2.get hi
    have hzm := List.mem_of_getElem? hz
    have hpx := e2 _ _ hp
    show tIfS _ _ tNext _ [some (V.ref a), some (.ref l), some (.ref p)] H2
    refine s_when (et_test (ev_op (ev_var rfl) (ev_var rfl) (rv_notP2 h2 p2 hpx))) (fun q H3 e3 => ?_) (fun q H3 e3 => ?_)
    · have q' : z ∉ js := by simpa using q
      have lv := p2.len
      refine s_app (K := K) (e3 _ _ h2) (ev_var rfl) (ev_var rfl) (by omega) fun H4 e4 => ⟨_, vs ++ [.ref p], js ++ [z], rfl, Ex.mut ((e2.trans e3).trans e4) hl, upd_same, ?_, by rw [List.length_append]; show js.length + 1 ≤ i + 1; omega, fun _ => by rw [List.length_append]; show 1 ≤ js.length + 1; omega, ?_, ?_⟩
      · have nt : ∀ b zs, H4 b = some (.tup zs) → upd H4 l (.lst (vs ++ [.ref p])) b = some (.tup zs) := fun b zs hb => by
          rw [upd_ne (fun z => by rw [z, e4 _ _ (e3 _ _ h2)] at hb; cases hb)]
          exact hb
        exact ((p2.tups fun b zs hb => e4 _ _ (e3 _ _ hb)).snoc (e4 _ _ (e3 _ _ hpx))).tups nt
      · rw [List.nodup_append]
        refine ⟨nd, by simp, fun y hy c hc => ?_⟩
        rw [List.mem_singleton] at hc
        subst hc
        exact fun e => q' (e ▸ hy)
      · intro y hy
        rcases List.mem_append.mp hy with h | h
        · exact mem y h
        · rw [List.mem_singleton.mp h]
          exact hzm
    · have q' : z ∈ js := by simpa using q
      exact ⟨_, vs, js, rfl, e2.trans e3, e3 _ _ h2, p2.tups (fun b zs hb => e3 _ _ hb), by omega, fun _ => List.length_pos_of_mem q', nd, mem⟩
  · rintro σ' H2 ⟨x2, vs, js, rfl, e2, h2, p2, l1, l2, nd, mem⟩
    rw [hlen] at l1 l2
    have ek := p2.kf
    have hget : ∀ v ∈ vs, ∃ t, v = .ref t ∧ H2 t = some (.tup [.int (Hs.kf H2 v).1, .int (Hs.kf H2 v).2]) := fun v hv => by
      obtain ⟨j, hj⟩ := List.mem_iff_getElem?.mp hv
      obtain ⟨p, z, rfl, hz, hp⟩ := p2.get hj
      refine ⟨p, rfl, ?_⟩
      have : Hs.kf H2 (.ref p) = z := by
        show (match H2 p with | some (.tup [.int i, .int j]) => (i, j) | _ => (0, 0)) = z
        rw [hp]
      rw [this]
      exact hp
    refine ⟨.ref l, rfl, l, vs, Hs.kf H2, rfl, sq_of h2, hget, fun ys p hs hb hp => ?_⟩
    have perm := hb.perm
    have hget2 : ∀ v ∈ ys, ∃ t, v = .ref t ∧ H2 t = some (.tup [.int (Hs.kf H2 v).1, .int (Hs.kf H2 v).2]) := fun v hv => hget v (perm.mem_iff.mp hv)
    have pm : (ys.map (Hs.kf H2)).Perm js := by
      rw [ek]
      exact perm.map _
    have nd2 : (ys.map (Hs.kf H2)).Nodup := pm.nodup_iff.mpr nd
    refine k p ys (ys.map (Hs.kf H2)) _ (fresh_back e2 hp) (e2.trans (Ex.new hp)) upd_same ((P2.of hget2).tups fun b zs hb => Ex.new hp _ _ hb) (by rw [pm.length_eq]; exact l2 z1) (by rw [pm.length_eq]; exact l1) (fun y hy => mem y (pm.mem_iff.mp hy)) ?_
    rw [List.pairwise_map]
    have nd3 : ys.Pairwise fun a b => Hs.kf H2 a ≠ Hs.kf H2 b := List.pairwise_map.mp nd2
    refine (List.Pairwise.and hs nd3).imp fun {a b} q => ?_
    have q1 := SrtO.lexB_no.mp q.1
    by_cases h1 : (Hs.kf H2 a).1 = (Hs.kf H2 b).1
    · refine .inr ⟨h1, ?_⟩
      have : (Hs.kf H2 a).2 ≠ (Hs.kf H2 b).2 := fun h2 => q.2 (Prod.ext h1 h2)
      omega
    · refine .inl ?_
      omega
end
end Hs
namespace Hs
open PySem PySem.Spec PyProof.Rows L2 Hu Evl
section
variable {P : Program} {wd : World} {K : PySem.W.Frag} {mg : Str → Option Value} {base : Heap} {C : Addr} {fD : Addr} {dD : FuncData}
theorem At.drawn {wl : WA} {H H' : Hp} {v : V} {u : U} (D : Drawn wl H H') (h : At wl.w C H v u) : At wl.w C H' v u := h.keep fun b o nb q => D.keep b o nb q
theorem AtL.drawn {wl : WA} {H H' : Hp} {vs : List V} {us : List U} (D : Drawn wl H H') (h : AtL wl.w C H vs us) : AtL wl.w C H' vs us := h.keep fun b o nb q => D.keep b o nb q
/-! ### rows -/
def spRow (C : Addr) : Sp := fun vs H Q _ => ∃ (wl : WA) (L : Addr) (xs : List V) (us : List U), vs = [.ref wl.w, .ref L] ∧ Well H wl ∧ H L = some (.lst xs) ∧ L ≠ wl.w ∧ AtL wl.w C H xs us ∧ 1 ≤ us.length ∧ us.length ≤ 10 ∧ (∀ u ∈ us, Bd u 200 1 0 ∧ gId u = true) ∧
  ∀ (v : V) (u : U) (H' : Hp), Drawn wl H H' → At wl.w C H' v u → Bd u 3000 2 0 → gRow u = true → Q v H'
theorem scRowL : FnScope ["well", "ids", "kind", "many", "k"] ["well", "ids"] (defScope lRow) := ⟨rfl, rfl, rfl, by decide +kernel, rfl, by decide +kernel, by decide +kernel⟩
theorem ok_rowL {f : Addr} {fd : FuncData} (F : Fun K "_law_row" "_law_row" lRow f fd) (B : Bt mg) (D : Dd P wd K mg base fD dD) : FnOk P wd K mg base CX0 4 f fd ["well", "ids"] (spRow C) := by
  refine F.ok scRowL (fun vs H Q E h => ?_) (fun cdv A outer s H vs Q E hr h => ?_)
  · obtain ⟨wl, L, xs, us, rfl, _⟩ := h
    rfl
  obtain ⟨wl, L, xs, us, rfl, W, hL, nL, hl, u1, u10, hb, k⟩ := h
  have GD : FnOk P wd K mg base CX0 3 fD dD ["well", "many"] spDraw := D.ok
  refine ⟨_, pss_cons (ps_set (i := 2) scRowL.nd rfl (.inl rfl) (pe_draw D hr (by decide) (by rfl) (pv 0) pe_int))
    (pss_cons (ps_if (pt_cmpR op_eq (pv 2) pe_int (nomark _)) (pss_one (ps_ret pe_non)) pss_nil)
    (Evl.pss_cut (ps_set (i := 3) scRowL.nd rfl (.inl rfl) (pe_draw D hr (by decide) (by rfl) (pv 0) (pe_ix ix_list (pe_lst (pa_cons pe_int (pa_cons pe_int pa_nil))) (pe_callTy call_int1 (by rfl) B.int boot_int (pa_cons (pe_cmpR op_eq (pv 2) pe_int (nomark _)) pa_nil)) (fun _ _ => rfl))))
    (pss_one (ps_ret (pe_callTy call_tupF (by rfl) B.tup boot_tuple' (pa_cons (pe_lc (own := [("k", 4)]) (g := gName 4) (tt := tYes) rfl scRowL.nd (pi_range1 (by rfl) B.range (pa_cons (pv 3) pa_nil)) (blkOk_by (N := ["well", "ids", "kind", "many", "k"]) (sc := defScope lRow) (by decide +kernel))
      (fun _ _ _ _ _ => pg_name (i := 4) scRowL.nd rfl (Or.inl rfl)) (fun _ _ _ _ _ => pts_nil)
      (fun _ _ _ _ _ => pe_ix (show IxR _ (rIxL K) from ix_list) (pv 1) (pe_call GD hr (by rfl) D.g D.kp D.b .nil pass0 (pa_cons (pv 0) (pa_cons (pe_callB (show CallR _ _ (rLenQ K) from call_len_seq) (by rfl) B.len PySem.boot_len (pa_cons (pv 1) pa_nil)) pa_nil))) (fun _ _ => rfl))) pa_nil)))))), ?_⟩
  refine ⟨_, rfl, wl, 5, rfl, W, by decide, by decide, fun d H1 d0 d1 D1 => ⟨_, rfl, rfl, _, rfl, ite2 (fun q => ?_) (fun q => ?_)⟩⟩
  · exact k _ .non H1 D1 .non ⟨by simp only [wt]; omega, Nat.zero_le _, trivial⟩ rfl
  refine ⟨fun σ' H' => ∃ m : Int, σ' = [some (.ref wl.w), some (.ref L), some (.int d), some (.int m), none] ∧ 0 ≤ m ∧ m ≤ 12 ∧ Drawn wl H H', ?_, ?_⟩
  · have go : ∀ (i : Nat) (m : Int), (if decide (V.int d = V.int 1) = true then (1 : Int) else 0) = (i : Int) → ([V.int 4, .int 13] : List V)[i]? = some (.int m) → 0 < m → m ≤ 13 → Ev (tOp (rIxL K) (tLst (tCons (tC (.int 4)) (tCons (tC (.int 13)) tNil))) (tCB (fun xs H Q => (∃ i, xs = [V.int i] ∧ Q (.int i) H) ∨ ∃ k, xs = [.bl k] ∧ Q (.int (if k then 1 else 0)) H) (tCons (tOp rEq (tVar 2) (tC (.int 1))) tNil)))
        [some (V.ref wl.w), some (.ref L), some (.int d), none, none] H1 (.int m) := fun i m ei hm _ _ =>
      ev_pick (K := K) (i := i) (ea_cons ev_c (ea_cons ev_c ea_nil)) (by decide) (ev_is (ev_cb (ea_cons (ev_op (ev_var rfl) ev_c (rv_eq rfl)) ea_nil) fun H3 e3 Q q => .inr ⟨_, rfl, q H3 (Ex.refl H3)⟩) (congrArg V.int ei)) hm
    have fin : ∀ m : Int, 0 < m → m ≤ 13 → Ev (tOp (rIxL K) (tLst (tCons (tC (.int 4)) (tCons (tC (.int 13)) tNil))) (tCB (fun xs H Q => (∃ i, xs = [V.int i] ∧ Q (.int i) H) ∨ ∃ k, xs = [.bl k] ∧ Q (.int (if k then 1 else 0)) H) (tCons (tOp rEq (tVar 2) (tC (.int 1))) tNil)))
        [some (V.ref wl.w), some (.ref L), some (.int d), none, none] H1 (.int m) → ∀ Q' : V → Hp → Prop, (∀ e H2, 0 ≤ e → e < m → Drawn wl H H2 → Q' (.int e) H2) → tCall spDraw [] E0 (tCons (tVar 0) (tCons (tOp (rIxL K) (tLst (tCons (tC (.int 4)) (tCons (tC (.int 13)) tNil))) (tCB (fun xs H Q => (∃ i, xs = [V.int i] ∧ Q (.int i) H) ∨ ∃ k, xs = [.bl k] ∧ Q (.int (if k then 1 else 0)) H) (tCons (tOp rEq (tVar 2) (tC (.int 1))) tNil))) tNil)) [some (V.ref wl.w), some (.ref L), some (.int d), none, none] H1 Q' := fun m m0 m13 ev Q' q' =>
      ⟨_, rfl, ev H1 (Ex.refl H1) _ fun H2 e2 => ⟨wl, m, rfl, D1.well.same e2, m0, by omega, fun e H3 e0 e1 D3 => q' e H3 e0 e1 ((D1.same e2).trans D3)⟩⟩
    by_cases h : d = 1
    · exact fin 13 (by decide) (by decide) (go 1 13 (by rw [h]; rfl) rfl (by decide) (by decide)) _ fun e H2 e0 e1 D2 => ⟨e, rfl, e0, by omega, D2⟩
    · exact fin 4 (by decide) (by decide) (go 0 4 (by rw [decide_eq_false (fun z => h (V.int.inj z))]; rfl) rfl (by decide) (by decide)) _ fun e H2 e0 e1 D2 => ⟨e, rfl, e0, by omega, D2⟩
  · rintro σ' H2 ⟨m, rfl, m0, m12, D2⟩
    refine ⟨_, rfl, m, rfl, by omega, by omega, fun D' hD => ?_⟩
    refine lc_range (lo := 0) (n := m.toNat) (fun i H' => Drawn wl H2 H' ∧ ∃ (vs : List V) (us' : List U), H' D' = some (.lst vs) ∧ vs.length = i ∧ AtL wl.w C H vs us' ∧ BdL us' (i * 202) 1 0 ∧ ∀ u ∈ us', gId u = true)
      ⟨(Drawn.refl D2.well).new hD, [], [], upd_same, rfl, .nil, ⟨by simp [wtL], by simp [depL], trivial⟩, fun u hu => by cases hu⟩ ?_ ?_
    · rintro i H3 hi ⟨D3, vs, us', hz, hv, ha, hbl, hgi⟩
      have nD := (D2.well.ne hD).1
      have hL3 : H3 L = some (.lst xs) := (D2.trans D3).keep L _ nL hL
      have hxl := AtL.length hl
      refine ⟨rfl, _, rfl, _, rfl, _, rfl, L, xs, rfl, .inl (SqL.of hL3), wl, _, rfl, D3.well, by omega, by omega, fun d2 H4 e0 e1 D4 => ?_⟩
      obtain ⟨j, rfl⟩ : ∃ j : Nat, d2 = (j : Int) := ⟨d2.toNat, by omega⟩
      have hj : j < us.length := by omega
      obtain ⟨x, hx, hax⟩ := AtL.get hl (List.getElem?_eq_getElem hj)
      refine ⟨L, xs, _, x, rfl, rfl, SqL.of (D4.keep L _ nL hL3), atI_nat hx, vs, D4.keep D' _ nD hz, ?_, (D3.trans D4).put D2.well hD, vs ++ [x], us' ++ [us[j]], upd_same, ?_, AtL.snoc ha hax, ?_, ?_⟩
      · have := bit_line
        unfold bit at this
        omega
      · rw [List.length_append, hv]
        rfl
      · have := hbl.snoc (hb _ (List.getElem_mem hj)).1
        rw [show (i + 1) * 202 = i * 202 + (200 + 2) by omega]
        exact this
      · intro u hu
        rcases List.mem_append.mp hu with h | h
        · exact hgi u h
        · rw [List.mem_singleton.mp h]
          exact (hb _ (List.getElem_mem hj)).2
    · rintro H3 ⟨D3, vs, us', hz, hv, ha, hbl, hgi⟩
      have DD := D2.trans D3
      refine ⟨D', vs, rfl, .inl ⟨SqL.of hz, newT_data D3.well.at (AtL.drawn DD ha) fun v H5 e5 a5 => k v (.tup us') H5 (DD.same e5) a5 ((Bd.tup hbl).mono ?_ (by omega) (Nat.le_refl _)) ?_⟩⟩
      · have : m.toNat ≤ 12 := by omega
        omega
      · show (decide (us'.length ≤ 12) && us'.all gId) = true
        have hle := AtL.length ha
        rw [decide_eq_true (by omega), List.all_eq_true.mpr hgi]
        rfl
end
end Hs
namespace Hs
open PySem PySem.Spec PyProof.Rows L2 Hu Evl
open Hk (SI ltSI)
/-! ### right things are plain -/
theorem gId_pln {u : U} (h : gId u = true) : pln u := by
  obtain ⟨i, j, rfl⟩ := gId_two h
  simp [pln, plnL]
theorem gRow_pln {u : U} (h : gRow u = true) : pln u := by
  cases u with
  | tup us =>
    have h2 : (decide (us.length ≤ 12) && us.all gId) = true := h
    exact plnL_all.mpr fun x hx => gId_pln (List.all_eq_true.mp (and2 h2).2 x hx)
  | non => trivial
  | _ => cases h
theorem gStamp_two {u : U} (h : gStamp u = true) : ∃ i j, u = .tup [.int i, .int j] := by
  cases u with
  | tup us =>
    match us, h with
    | [a, b], h =>
      cases a with
      | int i => cases b with
        | int j => exact ⟨i, j, rfl⟩
        | _ => cases h
      | _ => cases h
  | _ => cases h
theorem gStamp_pln {u : U} (h : gStamp u = true) : pln u := by
  obtain ⟨i, j, rfl⟩ := gStamp_two h
  simp [pln, plnL]
theorem gMembers_pln {u : U} (h : gMembers u = true) : pln u := by
  cases u with
  | tup us =>
    have h2 : (((decide (1 ≤ us.length) && decide (us.length ≤ 9)) && us.all gHome) && ascI (us.map intU)) = true := h
    refine plnL_all.mpr fun x hx => ?_
    have := List.all_eq_true.mp (and2 (and2 h2).1).2 x hx
    cases x with
    | int i => trivial
    | _ => cases this
  | _ => cases h
/-! ### rows in order -/
theorem ascN_all {n : Nat} {lt : Nat → Bool} (h : ∀ k, k + 1 < n → lt k = true) : ascN n lt = true := by
  unfold ascN
  rw [List.all_eq_true]
  intro k hk
  rw [List.mem_range] at hk
  exact h k (by omega)
theorem pw_at {α : Type} {R : α → α → Prop} {xs : List α} {d : α} (h : xs.Pairwise R) {k : Nat} (hk : k + 1 < xs.length) : R (xs.getD k d) (xs.getD (k + 1) d) := by
  rw [getD_some (List.getElem?_eq_getElem (show k < xs.length by omega)), getD_some (List.getElem?_eq_getElem hk)]
  exact List.pairwise_iff_getElem.mp h k (k + 1) (by omega) hk (by omega)
theorem ascZ_pw {zs : List Str} (h : zs.Pairwise ltZ) : ascZ zs = true := ascN_all fun k hk => decide_eq_true (pw_at h hk)
theorem ascK_pw {kss : List (List L2.Key)} (h : kss.Pairwise fun a b => Hk.ltK a b = true) : ascK kss = true := ascN_all fun k hk => pw_at h hk
theorem ltK_i2 {a b : Int × Int} (h : ltI2 a b) : Hk.ltK [.inl a.1, .inl a.2] [.inl b.1, .inl b.2] = true := by
  show (if Hk.kEq (.inl a.1) (.inl b.1) = true then (if Hk.kEq (.inl a.2) (.inl b.2) = true then Hk.ltK [] [] else Hk.kLt (.inl a.2) (.inl b.2)) else Hk.kLt (.inl a.1) (.inl b.1)) = true
  rcases h with h | ⟨h1, h2⟩
  · rw [if_neg (fun e => by have := Sum.inl.inj (Hk.kEq_iff.mp e); omega)]
    exact decide_eq_true h
  · rw [if_pos (Hk.kEq_iff.mpr (by rw [h1])), if_neg (fun e => by have := Sum.inl.inj (Hk.kEq_iff.mp e); omega)]
    exact decide_eq_true h2
theorem ltK_si {a b : SI} (h : ltSI a b = true) : Hk.ltK [.inr a.1, .inl a.2] [.inr b.1, .inl b.2] = true := by
  show (if Hk.kEq (.inr a.1) (.inr b.1) = true then (if Hk.kEq (.inl a.2) (.inl b.2) = true then Hk.ltK [] [] else Hk.kLt (.inl a.2) (.inl b.2)) else Hk.kLt (.inr a.1) (.inr b.1)) = true
  rcases Hk.ltSI_iff.mp h with h | ⟨h1, h2⟩
  · rw [if_neg (fun e => by
      have e1 := Sum.inr.inj (Hk.kEq_iff.mp e)
      rw [e1] at h
      exact List.lt_irrefl _ h)]
    exact decide_eq_true h
  · rw [if_pos (Hk.kEq_iff.mpr (by rw [h1])), if_neg (fun e => by have := Sum.inl.inj (Hk.kEq_iff.mp e); omega)]
    exact decide_eq_true h2
/-! ### members -/
theorem mem9 : ∀ b0 b1 b2 b3 b4 b5 b6 b7 b8 : Bool, (b0 || b1 || b2 || b3 || b4 || b5 || b6 || b7 || b8) = true → gMembers (.tup (((List.range 9).filter fun i => [b0, b1, b2, b3, b4, b5, b6, b7, b8].getD i false).map fun i : Nat => U.int (i : Int))) = true := by
  decide +kernel
def memU (f : Nat → Bool) : U := .tup (((List.range 9).filter f).map fun i : Nat => U.int (i : Int))
theorem memU_ok {f : Nat → Bool} (h : ∃ i, i < 9 ∧ f i = true) : gMembers (memU f) = true := by
  have e : (List.range 9).filter f = (List.range 9).filter fun i => [f 0, f 1, f 2, f 3, f 4, f 5, f 6, f 7, f 8].getD i false := by
    refine List.filter_congr fun i hi => ?_
    rw [List.mem_range] at hi
    match i, hi with
    | 0, _ | 1, _ | 2, _ | 3, _ | 4, _ | 5, _ | 6, _ | 7, _ | 8, _ => rfl
  unfold memU
  rw [e]
  refine mem9 _ _ _ _ _ _ _ _ _ ?_
  obtain ⟨i, hi, hf⟩ := h
  match i, hi with
  | 0, _ | 1, _ | 2, _ | 3, _ | 4, _ | 5, _ | 6, _ | 7, _ | 8, _ => simp [hf]
theorem atl_ints {w C : Addr} {H : Hp} : ∀ ns : List Nat, AtL w C H (ns.map fun i : Nat => V.int (i : Int)) (ns.map fun i : Nat => U.int (i : Int))
  | [] => .nil
  | n :: ns => .cons (.int _) (atl_ints ns)
theorem isB_mem {f : Nat → Bool} (hf : ∃ i, i < 9 ∧ f i = true) : isB (((List.range 9).filter f).map fun i : Nat => U.int (i : Int)) = false := by
  cases q : (List.range 9).filter f with
  | nil =>
    obtain ⟨i, hi, hfi⟩ := hf
    have : i ∈ (List.range 9).filter f := List.mem_filter.mpr ⟨List.mem_range.mpr hi, hfi⟩
    rw [q] at this
    cases this
  | cons n r => exact isB_first rfl
theorem not_well {H : Hp} {wl : WA} {p : Addr} {xs : List V} (W : Well H wl) (h : H p = some (.tup xs)) : p ≠ wl.w := fun z => by
  obtain ⟨cells, pos, rest, mix, h1, _⟩ := W.ex
  rw [← z, h] at h1
  cases h1
theorem mem_at {C : Addr} {H : Hp} {wl : WA} {p : Addr} {f : Nat → Bool} (hf : ∃ i, i < 9 ∧ f i = true) (W : Well H wl) (h : H p = some (.tup (given 9 f fun i : Nat => V.int (i : Int)))) : At wl.w C H (.ref p) (memU f) := by
  refine .tup (Tu.of h (isB_mem hf)) (not_well W h) ?_
  unfold given
  exact atl_ints _
theorem tidy_int {i : Int} (h : i.natAbs < 2 ^ 60) : tidy 0 (.int i) := by
  simp only [tidy]
  omega
theorem memU_bd (f : Nat → Bool) : Bd (memU f) 800 1 0 := by
  have hl : ((List.range 9).filter f).length ≤ 9 := by
    have := List.length_filter_le f (List.range 9)
    rwa [List.length_range] at this
  have key : ∀ ns : List Nat, (∀ n ∈ ns, n < 9) → wtL (ns.map fun i : Nat => U.int (i : Int)) = 82 * ns.length ∧ depL (ns.map fun i : Nat => U.int (i : Int)) = 0 ∧ tidyL 0 (ns.map fun i : Nat => U.int (i : Int)) := by
    intro ns
    induction ns with
    | nil => exact fun _ => ⟨rfl, rfl, trivial⟩
    | cons n ns ih =>
      intro h
      obtain ⟨i1, i2, i3⟩ := ih fun x hx => h x (List.mem_cons_of_mem _ hx)
      have := h n (List.mem_cons_self ..)
      refine ⟨?_, ?_, ?_, i3⟩
      · simp only [List.map_cons, wtL, i1, List.length_cons, wt]
        omega
      · simp only [List.map_cons, depL, i2, dep]
        omega
      · exact tidy_int (by omega)
  obtain ⟨k1, k2, k3⟩ := key ((List.range 9).filter f) fun n hn => by
    have := (List.mem_filter.mp hn).1
    rwa [List.mem_range] at this
  unfold memU
  refine ⟨?_, ?_, ?_⟩
  · simp only [wt, k1]
    omega
  · simp only [dep, k2]
    omega
  · simpa only [tidy] using k3
theorem pair_bd {i j : Int} (h1 : i.natAbs < 2 ^ 60) (h2 : j.natAbs < 2 ^ 60) : Bd (.tup [.int i, .int j]) 200 1 0 := by
  refine ⟨?_, ?_, ?_⟩
  · simp only [wt, wtL]
    omega
  · simp only [dep, depL]
    omega
  · simp only [tidy, tidyL]
    exact ⟨by omega, by omega, trivial⟩
end Hs
namespace Hs
open PySem PySem.Spec PyProof.Rows L2 Hu Evl
open Hk (SI ltSI)
abbrev lHeads : Stmt := topS 107
abbrev lBlocks : Stmt := topS 108
theorem gNamed_pln {u : U} (h : gNamed u = true) : pln u := by
  obtain ⟨h1, h2, h3⟩ := and3 (a := gTO 3 u) (b := gNam (nth u 0)) (c := gStamp (nth u 1) && gRow (nth u 2)) h
  obtain ⟨h4, h5⟩ := and2 h3
  obtain ⟨us, rfl, hl⟩ := gTO_of h1
  match us, hl with
  | [a, b, c], _ =>
    obtain ⟨z, rfl⟩ := gNam_str (u := a) h2
    exact ⟨trivial, gStamp_pln (u := b) h4, gRow_pln (u := c) h5, trivial⟩
theorem gBlk_pln {u : U} (h : gBlk u = true) : pln u := by
  obtain ⟨h1, h2, h3⟩ := and3 h
  obtain ⟨a, b, rfl⟩ := gPair_two h1
  have h3' : gPiece b = true := h3
  have pb : pln b := by
    cases b with
    | str z => trivial
    | _ => cases h3'
  exact ⟨gId_pln (u := a) h2, pb, trivial⟩
def nameU (u : U) : Str := strU (nth u 0)
def idU (u : U) : List L2.Key := keysU (nth u 0)
theorem take_snoc' {α : Type} {xs : List α} {i : Nat} {x : α} (h : xs[i]? = some x) : xs.take (i + 1) = xs.take i ++ [x] := by
  rw [List.take_add_one, h]
  rfl
theorem nam_bd {z : Str} (h : gNam (.str z) = true) : Bd (.str z) 20 0 0 := by
  have h' : ((decide (1 ≤ z.length) && decide (z.length ≤ 8)) && (TL.tl z).all lowc) = true := h
  obtain ⟨h1, h2⟩ := and2 h'
  have h3 := of_decide_eq_true (and2 h1).2
  refine ⟨?_, Nat.zero_le _, ?_⟩
  · simp only [wt]
    omega
  · simp only [tidy]
    intro c hc
    have := List.all_eq_true.mp h2 c hc
    unfold lowc at this
    have q := and2 this
    have q1 := of_decide_eq_true q.1
    have q2 := of_decide_eq_true q.2
    refine .inl ?_
    unfold okS okc
    rw [decide_eq_true (by omega), decide_eq_true (by omega), decide_eq_true (by omega)]
    rfl
theorem nam_ok {z : Str} (h : gNam (.str z) = true) : PyData.strOk z = true := by
  have h' : ((decide (1 ≤ z.length) && decide (z.length ≤ 8)) && (TL.tl z).all lowc) = true := h
  have h2 := List.all_eq_true.mp (and2 h').2
  show z.cps.all (· < 0x110000) = true
  rw [Array.all_eq_true_iff_forall_mem]
  intro c hc
  have := h2 c (Array.mem_toList_iff.mpr hc)
  unfold lowc at this
  have q2 := of_decide_eq_true (and2 this).2
  exact decide_eq_true (by omega)
section
variable {P : Program} {wd : World} {K : PySem.W.Frag} {mg : Str → Option Value} {base : Heap} {C : Addr} {fD : Addr} {dD : FuncData}
/-- the rows that were made stand as they were while the list of them grows -/
theorem atl_put {w : Addr} {H : Hp} {l : Addr} {xs : List V} {o : HO} {vs : List V} {us : List U} (hl : H l = some (.lst xs)) (hp : ∀ u ∈ us, pln u) (h : AtL w C H vs us) : AtL w C (upd H l o) vs us :=
  atl_tups (tq_upd hl) (plnL_all.mpr hp) h
/-! ### heads -/
/-- the ids that the law draws: a list of them -/
structure Ids (C : Addr) (wl : WA) (H : Hp) (I : Addr) (xs : List V) (js : List (Int × Int)) : Prop where
  h : H I = some (.lst xs)
  ne : I ≠ wl.w
  p : P2 H xs js
  n : 1 ≤ js.length ∧ js.length ≤ 10
  b : ∀ j ∈ js, 1 ≤ j.1 ∧ j.1 ≤ 99 ∧ 1 ≤ j.2 ∧ j.2 < 2 ^ 60
  st : js.Pairwise ltI2
def idV (k : Int × Int) : U := .tup [.int k.1, .int k.2]
theorem Ids.keep {wl : WA} {H H' : Hp} {I : Addr} {xs : List V} {js : List (Int × Int)} (x : Ids C wl H I xs js) (W : Well H wl) (D : Drawn wl H H') : Ids C wl H' I xs js :=
  ⟨D.keep _ _ x.ne x.h, x.ne, x.p.tups fun b zs hb => D.keep _ _ (not_well W hb) hb, x.n, x.b, x.st⟩
theorem Ids.atl {wl : WA} {H : Hp} {I : Addr} {xs : List V} {js : List (Int × Int)} (x : Ids C wl H I xs js) (W : Well H wl) : AtL wl.w C H xs (js.map idV) := by
  have p := x.p
  clear x
  induction p with
  | nil => exact .nil
  | cons h _ ih => exact .cons (.tup h (not_well W h) (.cons (.int _) (.cons (.int _) .nil))) ih
theorem idV_ok {k : Int × Int} (h : 1 ≤ k.1 ∧ k.1 ≤ 99 ∧ 1 ≤ k.2 ∧ k.2 < 2 ^ 60) : Bd (idV k) 200 1 0 ∧ gId (idV k) = true := ⟨pair_bd (by omega) (by omega), idOk ⟨h.1, h.2.1, h.2.2.1⟩⟩
def spHeads (C : Addr) : Sp := fun vs H Q _ => ∃ (wl : WA) (N I : Addr) (zs : List Str) (xs : List V) (js : List (Int × Int)), vs = [.ref wl.w, .ref N, .ref I] ∧ Well H wl ∧ H N = some (.lst (zs.map V.str)) ∧ N ≠ wl.w ∧ zs.length ≤ 3 ∧ (∀ z ∈ zs, gNam (.str z) = true) ∧ zs.Pairwise ltZ ∧ Ids C wl H I xs js ∧
  ∀ (v : V) (u : U) (H' : Hp), Drawn wl H H' → At wl.w C H' v u → Bd u 12400 4 0 → gHeads u = true → pln u → Q v H'
theorem scHeadsL : FnScope ["well", "names", "ids", "heads", "name", "stamp"] ["well", "names", "ids"] (defScope lHeads) := ⟨rfl, rfl, rfl, by decide +kernel, rfl, by decide +kernel, by decide +kernel⟩
theorem ok_headsL {f fS fR : Addr} {fd dS dR : FuncData} (F : Fun K "_law_heads" "_law_heads" lHeads f fd) (B : Bt mg) (D : Dd P wd K mg base fD dD) (DS : Df K mg "_law_stamp" lStamp ["well"] fS dS) (GS : FnOk P wd K mg base CX0 5 fS dS ["well"] (spPair fun i j => (i = 0 ∧ j = 0) ∨ (1 ≤ i ∧ 1 ≤ j ∧ j ≤ 99)))
    (DR : Df K mg "_law_row" lRow ["well", "ids"] fR dR) (GR : FnOk P wd K mg base CX0 4 fR dR ["well", "ids"] (spRow C)) : FnOk P wd K mg base CX0 6 f fd ["well", "names", "ids"] (spHeads C) := by
  refine F.ok scHeadsL (fun vs H Q E h => ?_) (fun cdv A outer s H vs Q E hr h => ?_)
  · obtain ⟨wl, N, I, zs, xs, js, rfl, _⟩ := h
    rfl
  obtain ⟨wl, N, I, zs, xs, js, rfl, W, hN, nN, z10, hz, hzs, hI, k⟩ := h
  refine ⟨_, pss_cons (ps_set (i := 3) scHeadsL.nd rfl (.inl rfl) (pe_lst pa_nil))
    (pss_cons (ps_for PassesOwn.never rfl (pi_list (pv 1)) (pg_name (i := 4) scHeadsL.nd rfl (Or.inl rfl))
      (pss_one (ps_if (pt_cmpR op_gt (pe_draw D hr (by decide) (by rfl) (pv 0) pe_int) pe_int (nomark _))
        (pss_cons (ps_set (i := 5) scHeadsL.nd rfl (.inl rfl) (pe_call GS hr (by rfl) DS.g DS.F.kp DS.b .nil pass0 (pa_cons (pv 0) pa_nil)))
        (pss_one (ps_expr (pe_bm PySem.F.plainAttrs_list PySem.F.slot_list_append PySem.F.type_list_append mt_append (pv 3) (pa_cons (pe_tup (pa_cons (pv 4) (pa_cons (pv 5) (pa_cons (pe_call GR (hr.mono (by decide)) (by rfl) DR.g DR.F.kp DR.b .nil pass0 (pa_cons (pv 0) (pa_cons (pv 2) pa_nil))) pa_nil)))) pa_nil))))) pss_nil)))
    (pss_one (ps_ret (pe_callTy call_tupF (by rfl) B.tup boot_tuple' (pa_cons (pv 3) pa_nil))))), ?_⟩
  refine ⟨sz_of (show (0 : Nat) ≤ 100000 by decide), fun Dl hD => ?_⟩
  have nD := W.ne hD
  show tSeq _ _ _ [some (V.ref wl.w), some (.ref N), some (.ref I), some (.ref Dl), none, none] _
  refine q_forL (K := K) (xs := zs.map V.str) (ev_var rfl) (sq_of (by rw [upd_ne (ne_of_none hN hD)]; exact hN)) (fun i σ' H' => ∃ (x4 x5 : Option V) (vs : List V) (us : List U), σ' = [some (.ref wl.w), some (.ref N), some (.ref I), some (.ref Dl), x4, x5] ∧ Drawn wl H H' ∧ H' Dl = some (.lst vs) ∧ AtL wl.w C H' vs us ∧
      (∀ u ∈ us, gNamed u = true) ∧ BdL us (i * 4000) 3 0 ∧ us.length ≤ i ∧ (us.map nameU).Sublist (zs.take i))
    (fun H2 e2 => ⟨_, _, [], [], rfl, ((Drawn.refl W).new hD).same e2, e2 _ _ upd_same, .nil, fun u hu => (by cases hu), ⟨by simp [wtL], by simp [depL], trivial⟩, Nat.le_refl _, by simp⟩) (fun i σ' H' _ ⟨x4, x5, vs, us, _, D1, _⟩ => sq_of (D1.keep _ _ nN hN)) ?_ ?_
  · rintro i x σ' H1 hi ⟨x4, x5, vs, us, rfl, D1, h1, al, ng, bd, ln, sb⟩
    rw [List.getElem?_map] at hi
    cases hzi : zs[i]? with
    | none => rw [hzi] at hi; cases hi
    | some z =>
      rw [hzi] at hi
      cases hi
      have hi10 : i < zs.length := (List.getElem?_eq_some_iff.mp hzi).1
      have hzn := hz z (List.mem_of_getElem? hzi)
      have tk := take_snoc' hzi
      show tIfS _ _ tNext _ [some (V.ref wl.w), some (.ref N), some (.ref I), some (.ref Dl), some (.str z), x5] H1
      refine ⟨_, rfl, wl, 4, rfl, D1.well, by decide, by decide, fun d H2 d0 d1 D2 => ⟨_, _, rfl, rfl, _, rfl, ite2 (fun q => ?_) (fun q => ?_)⟩⟩
      · refine ⟨_, rfl, wl, rfl, D2.well, fun a b p H3 b1 b2 hR hp D3 h3 => ?_⟩
        dsimp only [gName]
        have D13 := (D1.trans D2).trans D3
        have h13 : H3 Dl = some (.lst vs) := D3.keep _ _ nD.1 (D2.keep _ _ nD.1 h1)
        refine ⟨_, rfl, .inl ⟨rfl, vs, sq_of h13⟩, _, rfl, _, rfl, _, rfl, _, rfl, wl, I, xs, js.map idV, rfl, D3.well, (hI.keep W D13).h, hI.ne, (hI.keep W D13).atl D3.well, by rw [List.length_map]; exact hI.n.1, by rw [List.length_map]; exact hI.n.2, fun u hu => ?_, fun v u H4 D4 hv bv gv => ⟨sz_of (show (3 : Nat) ≤ 100000 by decide), fun t ht => ?_⟩⟩
        · obtain ⟨j, hj, rfl⟩ := List.mem_map.mp hu
          exact idV_ok (hI.b j hj)
        · have D14 := D13.trans D4
          have h14 : H4 Dl = some (.lst vs) := D4.keep _ _ nD.1 h13
          have h15 : upd H4 t (.tup [.str z, .ref p, v]) Dl = some (.lst vs) := by
            rw [upd_ne (ne_of_none h14 ht)]
            exact h14
          have ap : At wl.w C H4 (.ref p) (.tup [.int a, .int b]) := (At.drawn D4 (.tup h3 (not_well D3.well h3) (.cons (.int a) (.cons (.int b) .nil))))
          have hS := stampOk hR
          have gn : gNamed (.tup [.str z, .tup [.int a, .int b], u]) = true := by
            show (decide (3 = 3) && (gNam (.str z) && (gStamp (.tup [.int a, .int b]) && gRow u))) = true
            rw [hzn, hS, gv]
            rfl
          have at5 : At wl.w C (upd H4 t (.tup [.str z, .ref p, v])) (.ref t) (.tup [.str z, .tup [.int a, .int b], u]) := .tup upd_same (D14.well.ne ht).1 (.cons (.str z) (.cons (ex_at (Ex.new ht) ap) (.cons (ex_at (Ex.new ht) hv) .nil)))
          have hlv := AtL.length al
          refine ⟨Dl, vs, .ref t, rfl, rfl, h15, sz_lt (by omega), _, _, vs ++ [.ref t], us ++ [.tup [.str z, .tup [.int a, .int b], u]], rfl, (D14.new ht).put W hD, upd_same, ?_, ?_, ?_, ?_, ?_⟩
          · refine AtL.append (atl_put h15 (fun y hy => gNamed_pln (ng y hy)) (ex_atl (Ex.new ht) (AtL.drawn ((D2.trans D3).trans D4) al))) (atl_put h15 (fun y hy => ?_) (.cons at5 .nil))
            rw [List.mem_singleton.mp hy]
            exact gNamed_pln gn
          · intro y hy
            rcases List.mem_append.mp hy with h | h
            · exact ng y h
            · rw [List.mem_singleton.mp h]
              exact gn
          · have b3 : Bd (.tup [.str z, .tup [.int a, .int b], u]) 3998 3 0 := by
              have n1 := nam_bd hzn
              have n2 := pair_bd b1 b2
              refine ⟨?_, ?_, ?_⟩
              · have := n1.w
                have := n2.w
                have := bv.w
                simp only [wt, wtL] at *
                omega
              · have := n1.d
                have := n2.d
                have := bv.d
                simp only [dep, depL] at *
                omega
              · simp only [tidy, tidyL]
                have c2 := n2.c
                simp only [tidy, tidyL] at c2
                exact ⟨by simpa only [tidy] using n1.c, c2, bv.c, trivial⟩
            have := bd.snoc b3
            rw [show (i + 1) * 4000 = i * 4000 + (3998 + 2) by omega]
            exact this
          · rw [List.length_append]
            show us.length + 1 ≤ i + 1
            omega
          · rw [tk, List.map_append]
            exact sb.append (List.Sublist.refl _)
      · exact ⟨_, _, vs, us, rfl, D1.trans D2, D2.keep _ _ nD.1 h1, AtL.drawn D2 al, ng, bd.mono (by omega) (Nat.le_refl _) (Nat.le_refl _), by omega, by rw [tk]; exact sb.trans (List.sublist_append_left _ _)⟩
  · rintro σ' H1 ⟨x4, x5, vs, us, rfl, D1, h1, al, ng, bd, ln, sb⟩
    rw [List.length_map] at bd ln sb
    rw [List.take_length] at sb
    refine ⟨_, rfl, Dl, vs, rfl, .inl ⟨sq_of h1, newT_data D1.well.at al fun v H5 e5 a5 => k v (.tup us) H5 (D1.same e5) a5 ((Bd.tup bd).mono (by omega) (by decide) (Nat.le_refl _)) ?_ (plnL_all.mpr fun u hu => gNamed_pln (ng u hu))⟩⟩
    show (us.all gNamed && ascZ (us.map nameU)) = true
    rw [List.all_eq_true.mpr ng, ascZ_pw (hzs.sublist sb)]
    rfl
end
end Hs
namespace Hs
open PySem PySem.Spec PyProof.Rows L2 Hu Evl
open Hk (SI ltSI)
section
variable {P : Program} {wd : World} {K : PySem.W.Frag} {mg : Str → Option Value} {base : Heap} {C : Addr} {fD : Addr} {dD : FuncData}
theorem P2.at_ {H : Hp} {xs : List V} {js : List (Int × Int)} (h : P2 H xs js) {i : Nat} {x : V} (hx : xs[i]? = some x) : ∃ p k, x = .ref p ∧ js[i]? = some k ∧ H p = some (.tup [.int k.1, .int k.2]) := h.get hx
def keysI (k : Int × Int) : List L2.Key := [.inl k.1, .inl k.2]
def spBlocks (C : Addr) : Sp := fun vs H Q _ => ∃ (wl : WA) (I : Addr) (m : Int) (xs : List V) (js : List (Int × Int)), vs = [.ref wl.w, .ref I, .int m] ∧ Well H wl ∧ 0 < m ∧ m < 1000 ∧ Ids C wl H I xs js ∧
  ∀ (v : V) (u : U) (H' : Hp), Drawn wl H H' → At wl.w C H' v u → Bd u 3000 4 0 → gBlocks u = true → pln u → Q v H'
theorem scBlocksL : FnScope ["well", "ids", "share", "blocks", "one"] ["well", "ids", "share"] (defScope lBlocks) := ⟨rfl, rfl, rfl, by decide +kernel, rfl, by decide +kernel, by decide +kernel⟩
theorem ok_blocksL {kS : Nat} {f fS : Addr} {fd dS : FuncData} (F : Fun K "_law_blocks" "_law_blocks" lBlocks f fd) (B : Bt mg) (D : Dd P wd K mg base fD dD) (DS : Df K mg "_law_string" sString ["well", "many"] fS dS) (GS : FnOk P wd K mg base CX0 5 fS dS ["well", "many"] spString) :
    FnOk P wd K mg base CX0 6 f fd ["well", "ids", "share"] (spBlocks C) := by
  refine F.ok scBlocksL (fun vs H Q E h => ?_) (fun cdv A outer s H vs Q E hr h => ?_)
  · obtain ⟨wl, I, m, xs, js, rfl, _⟩ := h
    rfl
  obtain ⟨wl, I, m, xs, js, rfl, W, m0, m1, hI, k⟩ := h
  refine ⟨_, pss_cons (ps_set (i := 3) scBlocksL.nd rfl (.inl rfl) (pe_lst pa_nil))
    (pss_cons (ps_for PassesOwn.never rfl (pi_list (pv 1)) (pg_name (i := 4) scBlocksL.nd rfl (Or.inl rfl))
      (pss_one (ps_if (pt_cmpR op_gt (pe_draw D hr (by decide) (by rfl) (pv 0) (pv 2)) pe_int (nomark _))
        (pss_one (ps_expr (pe_bm PySem.F.plainAttrs_list PySem.F.slot_list_append PySem.F.type_list_append mt_append (pv 3) (pa_cons (pe_tup (pa_cons (pv 4) (pa_cons (pe_call GS hr (by rfl) DS.g DS.F.kp DS.b .nil pass0 (pa_cons (pv 0) (pa_cons (pe_op op_add pe_int (pe_draw D hr (by decide) (by rfl) (pv 0) pe_int)) pa_nil))) pa_nil))) pa_nil)))) pss_nil)))
    (pss_one (ps_ret (pe_callTy call_tupF (by rfl) B.tup boot_tuple' (pa_cons (pv 3) pa_nil))))), ?_⟩
  refine ⟨sz_of (show (0 : Nat) ≤ 100000 by decide), fun Dl hD => ?_⟩
  have nD := W.ne hD
  have hlen := hI.p.len
  show tSeq _ _ _ [some (V.ref wl.w), some (.ref I), some (.int m), some (.ref Dl), none] _
  refine q_forL (K := K) (xs := xs) (ev_var rfl) (sq_of (by rw [upd_ne (ne_of_none hI.h hD)]; exact hI.h)) (fun i σ' H' => ∃ (x4 : Option V) (vs : List V) (us : List U) (ks : List (Int × Int)), σ' = [some (.ref wl.w), some (.ref I), some (.int m), some (.ref Dl), x4] ∧ Drawn wl H H' ∧ H' Dl = some (.lst vs) ∧ AtL wl.w C H' vs us ∧
      (∀ u ∈ us, gBlk u = true) ∧ BdL us (i * 290) 3 0 ∧ us.length ≤ i ∧ us.map idU = ks.map keysI ∧ ks.Sublist (js.take i))
    (fun H2 e2 => ⟨_, [], [], [], rfl, ((Drawn.refl W).new hD).same e2, e2 _ _ upd_same, .nil, fun u hu => (by cases hu), ⟨by simp [wtL], by simp [depL], trivial⟩, Nat.le_refl _, rfl, by simp⟩) (fun i σ' H' _ ⟨x4, vs, us, ks, _, D1, _⟩ => sq_of (D1.keep _ _ hI.ne hI.h)) ?_ ?_
  · rintro i x σ' H1 hi ⟨x4, vs, us, ks, rfl, D1, h1, al, ng, bd, ln, ek, sb⟩
    obtain ⟨p, j, rfl, hj, hp⟩ := hI.p.get hi
    have hi10 : i < js.length := (List.getElem?_eq_some_iff.mp hj).1
    have hjn := hI.b j (List.mem_of_getElem? hj)
    have tk := take_snoc' hj
    have l10 := hI.n.2
    show tIfS _ _ tNext _ [some (V.ref wl.w), some (.ref I), some (.int m), some (.ref Dl), some (.ref p)] H1
    refine ⟨_, rfl, _, rfl, wl, m, rfl, D1.well, m0, by omega, fun d H2 d0 d1 D2 => ⟨_, _, rfl, rfl, _, rfl, ite2 (fun q => ?_) (fun q => ?_)⟩⟩
    · have D12 := D1.trans D2
      have h12 : H2 Dl = some (.lst vs) := D2.keep _ _ nD.1 h1
      refine ⟨_, rfl, .inl ⟨rfl, vs, sq_of h12⟩, _, rfl, _, rfl, _, rfl, wl, 8, rfl, D2.well, by decide, by decide, fun e H3 e0 e1 D3 => ⟨_, _, rfl, rfl, wl, 1 + e, rfl, D3.well, by omega, by omega, fun z H4 lz hz D4 => ⟨sz_of (show (2 : Nat) ≤ 100000 by decide), fun t ht => ?_⟩⟩⟩
      have D14 := (D12.trans D3).trans D4
      have h14 : H4 Dl = some (.lst vs) := D4.keep _ _ nD.1 (D3.keep _ _ nD.1 h12)
      have h15 : upd H4 t (.tup [.ref p, .str z]) Dl = some (.lst vs) := by
        rw [upd_ne (ne_of_none h14 ht)]
        exact h14
      have hp4 : H4 p = some (.tup [.int j.1, .int j.2]) := D14.keep _ _ (not_well W hp) hp
      have ap : At wl.w C H4 (.ref p) (idV j) := .tup hp4 (not_well D14.well hp4) (.cons (.int _) (.cons (.int _) .nil))
      have zl : z.length ≤ 8 := by omega
      have z1 : 1 ≤ z.length := by omega
      have gp : gPiece (.str z) = true := by
        show (okz z && (decide (1 ≤ z.length) && decide (z.length ≤ 8))) = true
        rw [hz.ok, decide_eq_true z1, decide_eq_true zl]
        rfl
      have gn : gBlk (.tup [idV j, .str z]) = true := by
        show (decide (2 = 2) && (gId (idV j) && gPiece (.str z))) = true
        rw [(idV_ok hjn).2, gp]
        rfl
      have at5 : At wl.w C (upd H4 t (.tup [.ref p, .str z])) (.ref t) (.tup [idV j, .str z]) := .tup upd_same (D14.well.ne ht).1 (.cons (ex_at (Ex.new ht) ap) (.cons (.str z) .nil))
      have hlv := AtL.length al
      refine ⟨Dl, vs, .ref t, rfl, rfl, h15, sz_lt (by omega), _, vs ++ [.ref t], us ++ [.tup [idV j, .str z]], ks ++ [j], rfl, (D14.new ht).put W hD, upd_same, ?_, ?_, ?_, ?_, ?_, ?_⟩
      · refine AtL.append (atl_put h15 (fun y hy => gBlk_pln (ng y hy)) (ex_atl (Ex.new ht) (AtL.drawn ((D2.trans D3).trans D4) al))) (atl_put h15 (fun y hy => ?_) (.cons at5 .nil))
        rw [List.mem_singleton.mp hy]
        exact gBlk_pln gn
      · intro y hy
        rcases List.mem_append.mp hy with h | h
        · exact ng y h
        · rw [List.mem_singleton.mp h]
          exact gn
      · have b3 : Bd (.tup [idV j, .str z]) 288 3 0 := by
          have n2 := (idV_ok hjn).1
          refine ⟨?_, ?_, ?_⟩
          · have := n2.w
            simp only [wt, wtL] at *
            omega
          · have := n2.d
            simp only [dep, depL] at *
            omega
          · simp only [tidy, tidyL]
            exact ⟨n2.c, fun c hc => .inl (hz c hc), trivial⟩
        have := bd.snoc b3
        rw [show (i + 1) * 290 = i * 290 + (288 + 2) by omega]
        exact this
      · rw [List.length_append]
        show us.length + 1 ≤ i + 1
        omega
      · rw [List.map_append, List.map_append, ek]
        rfl
      · rw [tk]
        exact sb.append (List.Sublist.refl _)
    · exact ⟨_, vs, us, ks, rfl, D1.trans D2, D2.keep _ _ nD.1 h1, AtL.drawn D2 al, ng, bd.mono (by omega) (Nat.le_refl _) (Nat.le_refl _), by omega, ek, by rw [tk]; exact sb.trans (List.sublist_append_left _ _)⟩
  · rintro σ' H1 ⟨x4, vs, us, ks, rfl, D1, h1, al, ng, bd, ln, ek, sb⟩
    rw [hlen] at bd ln sb
    rw [List.take_length] at sb
    have l10 := hI.n.2
    refine ⟨_, rfl, Dl, vs, rfl, .inl ⟨sq_of h1, newT_data D1.well.at al fun v H5 e5 a5 => k v (.tup us) H5 (D1.same e5) a5 ((Bd.tup bd).mono (by omega) (by decide) (Nat.le_refl _)) ?_ (plnL_all.mpr fun u hu => gBlk_pln (ng u hu))⟩⟩
    show (us.all gBlk && ascK (us.map idU)) = true
    rw [List.all_eq_true.mpr ng, ek, ascK_pw ?_]
    · rfl
    · rw [List.pairwise_map]
      exact (hI.st.sublist sb).imp fun h => ltK_i2 h
end
end Hs
namespace Hs
open PySem PySem.Spec PyProof.Rows L2 Hu Evl
open Hk (SI ltSI)
abbrev lLeases : Stmt := topS 109
def sortL : List Ls → List Ls
  | [] => []
  | l :: r => insL l.1 l.2 (sortL r)
theorem srt_sortL : ∀ L : List Ls, srt (sortL L)
  | [] => List.Pairwise.nil
  | l :: r => srt_ins (srt_sortL r)
theorem getL_sortL (k : SI) : ∀ L : List Ls, getL (sortL L) k = getL L k
  | [] => rfl
  | l :: r => by
    show getL (insL l.1 l.2 (sortL r)) k = _
    rw [getL_ins, getL_sortL k r, getL_cons]
    by_cases h : k = l.1
    · rw [if_pos h, if_pos h.symm]
    · rw [if_neg h, if_neg fun e => h e.symm]
theorem len_sortL : ∀ L : List Ls, (sortL L).length ≤ L.length
  | [] => Nat.le_refl _
  | l :: r => Nat.le_trans (len_ins _ _ _) (Nat.succ_le_succ (len_sortL r))
theorem mem_of_get {A B : List Ls} (n : ndK A) (h : ∀ k, getL A k = getL B k) : ∀ l ∈ A, l ∈ B := fun l hl => by
  have e := getL_of n hl
  rw [h] at e
  exact getL_mem e
theorem len_of_get {A B : List Ls} (na : ndK A) (nb : ndK B) (hg : ∀ k, getL A k = getL B k) : A.length = B.length := by
  have p : (A.map (·.1)).Perm (B.map (·.1)) := by
    refine (List.perm_ext_iff_of_nodup na nb).mpr fun x => ?_
    have key : ∀ {A B : List Ls}, (∀ k, getL A k = getL B k) → x ∈ A.map (·.1) → x ∈ B.map (·.1) := fun {A B} h m => by
      obtain ⟨l, hl, rfl⟩ := List.mem_map.mp m
      cases g : getL A l.1 with
      | none => exact absurd rfl (getL_none.mp g l hl)
      | some v =>
        rw [h] at g
        exact List.mem_map.mpr ⟨_, getL_mem g, rfl⟩
    exact ⟨key hg, key fun k => (hg k).symm⟩
  have := p.length_eq
  rwa [List.length_map, List.length_map] at this
section
variable {P : Program} {wd : World} {K : PySem.W.Frag} {mg : Str → Option Value} {base : Heap} {C : Addr} {fD : Addr} {dD : FuncData}
/-- tuple([key + held[key] for key in sorted(held)]) -/
theorem ed_order {w : Addr} {σ : L2.St} {H : Hp} {dv j : Nat} {a : Addr} {kvs : List (List L2.Key × V)} {L L' : List Ls} (h0 : σ[dv]? = some (some (.ref a))) (h1 : ∀ x, ((wipe σ [j]).set j (some x))[dv]? = some (some (.ref a))) (h2 : ∀ x, ((wipe σ [j]).set j (some x))[j]? = some (some x))
    (h3 : ∀ x, wipe ((wipe σ [j]).set j (some x)) [j] = wipe σ [j]) (hd : H a = some (.dT kvs)) (dl : Dl H kvs L) (nd : ndK L) (st : srt L') (hg : ∀ k, getL L' k = getL L k) (hz : L.length ≤ 40000) (hw : ∃ o, H w = some o) :
    EvD w C (tCB (rTupO K) (tCons (tLc (iList K (tCB Hk.rSortDT (tCons (tVar dv) tNil))) (gName j) tYes (tOp (rCatF K) (tVar j) (tDGet (tVar dv) (tVar j))) [j]) tNil)) σ H (.tup (L'.map lsU)) := by
  have lenL := len_of_get (srt_nd st) nd hg
  refine ed_tupL hw (lc_DL (K := K) (Rx := fun xs G => ∃ zs : List (Addr × SI), xs = zs.map (fun z => V.ref z.1) ∧ byKeys L (zs.map (·.2)) = L' ∧ ∀ z ∈ zs, G z.1 = some (.tup [.str z.2.1, .int z.2.2])) (fun H0 e Q q => ?_) ?_ ?_ h3 fun xs G0 e0 hR => ?_)
  · refine ⟨_, h0, a, kvs, L.map (·.1), rfl, e _ _ hd, dl.keys, fun zs p hperm hs ht hp => ?_⟩
    refine q p _ _ (Ex.new hp) upd_same ⟨zs, rfl, ?_, fun z hz => Ex.new hp _ _ (ht z hz)⟩
    obtain ⟨b1, b2⟩ := byKeys_srt nd hperm hs
    exact srt_uniq b1 st fun k => (b2 k).trans (hg k).symm
  · rw [List.length_map, lenL]
    exact hz
  · intro u hu
    obtain ⟨l, _, rfl⟩ := List.mem_map.mp hu
    exact lsU_pln l
  · obtain ⟨zs, rfl, hb, ht⟩ := hR
    refine ⟨by rw [List.length_map, List.length_map, ← hb, byKeys_len, List.length_map], fun i x u G hx hu eg => ?_⟩
    rw [List.getElem?_map] at hx hu
    cases e1 : zs[i]? with
    | none => rw [e1] at hx; cases hx
    | some z =>
      rw [e1] at hx
      cases hx
      have hz1 := ht z (List.mem_of_getElem? e1)
      have e2 : L'[i]? = some (z.2, (getL L z.2).getD (0, 0)) := by
        rw [← hb]
        unfold byKeys
        rw [List.getElem?_map, List.getElem?_map, e1]
        rfl
      rw [e2] at hu
      have hu' : lsU (z.2, (getL L z.2).getD (0, 0)) = u := Option.some.inj hu
      subst hu'
      have hm : getL L z.2 = some ((getL L z.2).getD (0, 0)) := by
        have := getL_of (srt_nd st) (List.mem_of_getElem? e2)
        rw [hg] at this
        rw [this]
        rfl
      obtain ⟨p, hv, hp⟩ := dl.vsome hm
      refine fun G1 g1 Q q => ⟨.ref z.1, h2 _, .ref a, h1 _, .ref z.1, h2 _, a, .ref p, rfl, ?_, ?_⟩
      · have := DGet.t (k := Hk.keySI z.2) ((e0.trans (eg.trans g1)) _ _ hd) ((eg.trans g1) _ _ hz1)
        rw [hv] at this
        exact this
      · refine ⟨z.1, p, _, _, rfl, rfl, st_of ((eg.trans g1) _ _ hz1), st_of ((e0.trans (eg.trans g1)) _ _ hp), sz_of (by show (4 : Nat) ≤ 100000; decide), fun h => (by cases h), fun _ h => (by cases h), fun _ _ => newT_data (w := w) (C := C) (us := [.str z.2.1, .int z.2.2, .int ((getL L z.2).getD (0, 0)).1, .int ((getL L z.2).getD (0, 0)).2]) (hw.imp fun o z => (e0.trans (eg.trans g1)) _ _ z) (.cons (.str _) (.cons (.int _) (.cons (.int _) (.cons (.int _) .nil)))) fun v G3 e3 a3 => ?_⟩
        exact q v G3 e3 a3
section
variable {σ : L2.St} {H : Hp} {tp : TE} {tu tz : TS} {D : Ends}
theorem q_forRX {j : Nat} {R : Nat → Hp → Prop} (made : ∀ Q : VK, (∀ n H', R n H' → Q (.int (n : Int)) H') → tp σ H Q) (hn : ∀ n H', R n H' → n ≤ 100000) (Pv : Nat → Nat → L2.St → Hp → Prop) (h0 : ∀ n H', R n H' → Pv n 0 σ H')
    (hs : ∀ n (i : Nat) σ' H', i < n → Pv n i σ' H' → tu { D with nx := Pv n (i + 1), ct := Pv n (i + 1), bk := tz D } (σ'.set j (some (.int (i : Int)))) H') (hd : ∀ n σ' H', Pv n n σ' H' → tz D σ' H') : tSeq (tFor (iRng1 (tCons tp tNil)) (gName j) tu) tz D σ H :=
  made (fun x H1 => tNil σ H1 fun xs H2 => ∃ j' : Int, x :: xs = [.int j'] ∧ -(2 ^ 62) ≤ j' ∧ j' < 2 ^ 62 ∧ _) fun n H1 r => by
    have hb := hn n H1 r
    refine ⟨(n : Int), rfl, by omega, by omega, for_range (D := { D with nx := tz D }) (lo := 0) (n := n) (Pv n) (h0 n H1 r) (fun i σ' H' hi p => ?_) (fun σ' H' p => hd n σ' H' p)⟩
    have e0 : (0 : Int) + (i : Int) = (i : Int) := Int.zero_add _
    show tu { D with nx := Pv n (i + 1), ct := Pv n (i + 1), bk := tz D } (σ'.set j (some (.int ((0 : Int) + (i : Int))))) H'
    rw [e0]
    exact hs n i σ' H' (by omega) p
end
theorem drawn_tups {wl : WA} {H H' : Hp} (W : Well H wl) (D : Drawn wl H H') : ∀ b zs, H b = some (.tup zs) → H' b = some (.tup zs) := fun b zs h => D.keep _ _ (not_well W h) h
/-- what the law's leases are at first -/
structure LsOk (zs : List Str) (l : Ls) : Prop where
  n : l.1.1 ∈ zs
  h : 1 ≤ l.1.2 ∧ l.1.2 ≤ 99
  t : 0 ≤ l.2.1 ∧ l.2.1 < 6
  u : 0 ≤ l.2.2 ∧ l.2.2 < 10 ^ 12
def spLs (C : Addr) : Sp := fun vs H Q _ => ∃ (wl : WA) (N : Addr) (zs : List Str) (c : Int), vs = [.ref wl.w, .ref N, .int c] ∧ Well H wl ∧ H N = some (.lst (zs.map V.str)) ∧ N ≠ wl.w ∧ 1 ≤ zs.length ∧ zs.length ≤ 3 ∧ 0 ≤ c ∧ c < 10 ^ 11 ∧
  ∀ (v : V) (L : List Ls) (H' : Hp), Drawn wl H H' → srt L → L.length ≤ 4 → (∀ l ∈ L, LsOk zs l) → At wl.w C H' v (.tup (L.map lsU)) → Q v H'
theorem scLs : FnScope ["well", "names", "clock", "held", "k", "name", "hand", "talk", "key"] ["well", "names", "clock"] (defScope lLeases) := ⟨rfl, rfl, rfl, by decide +kernel, rfl, by decide +kernel, by decide +kernel⟩
set_option maxHeartbeats 1000000 in
theorem ok_leasesL {f : Addr} {fd : FuncData} (F : Fun K "_law_leases" "_law_leases" lLeases f fd) (B : Bt mg) (Z : Bz mg) (D : Dd P wd K mg base fD dD) : FnOk P wd K mg base CX0 4 f fd ["well", "names", "clock"] (spLs C) := by
  refine F.ok scLs (fun vs H Q E h => ?_) (fun cdv A outer s H vs Q E hr h => ?_)
  · obtain ⟨wl, N, zs, c, rfl, _⟩ := h
    rfl
  obtain ⟨wl, N, zs, c, rfl, W, hN, nN, z1, z10, c0, c1, k⟩ := h
  have GD : FnOk P wd K mg base CX0 3 fD dD ["well", "many"] spDraw := D.ok
  refine ⟨_, pss_cons (ps_set (i := 3) scLs.nd rfl (.inr rfl) pe_dnewT)
    (pss_cons (ps_for PassesOwn.never rfl (pi_range1 (by rfl) B.range (pa_cons (pe_draw D hr (by decide) (by rfl) (pv 0) pe_int) pa_nil)) (pg_name (i := 4) scLs.nd rfl (Or.inl rfl))
      (pss_cons (ps_set (i := 5) scLs.nd rfl (.inl rfl) (pe_ix ix_list (pv 1) (pe_call GD hr (by rfl) D.g D.kp D.b .nil pass0 (pa_cons (pv 0) (pa_cons (pe_callB (show CallR _ _ (rLenQ K) from call_len_seq) (by rfl) B.len PySem.boot_len (pa_cons (pv 1) pa_nil)) pa_nil))) (fun _ _ => rfl)))
      (pss_cons (ps_set (i := 6) scLs.nd rfl (.inl rfl) (pe_op op_add pe_int (pe_draw D hr (by decide) (by rfl) (pv 0) (pe_ix ix_list (pe_lst (pa_cons pe_int (pa_cons pe_int pa_nil))) (pe_draw D hr (by decide) (by rfl) (pv 0) pe_int) (fun _ _ => rfl)))))
      (pss_cons (ps_set (i := 7) scLs.nd rfl (.inl rfl) (pe_draw D hr (by decide) (by rfl) (pv 0) pe_int))
      (pss_one (ps_asg (pe_tup (pa_cons (pv 7) (pa_cons (pe_op op_add (pe_callB (call_max2 rfl) (by rfl) B.max boot_max' (pa_cons pe_int (pa_cons (pe_op op_sub (pv 2) pe_int) pa_nil))) (pe_draw D hr (by decide) (by rfl) (pv 0) pe_int)) pa_nil)))
        (pg_sub (pv 3) (pe_tup (pa_cons (pv 5) (pa_cons (pv 6) pa_nil))) (set_dict (room_h1 hr)))))))))
    (pss_one (ps_ret (pe_callTy call_tupF (by rfl) B.tup boot_tuple' (pa_cons (pe_lc (own := [("key", 8)]) (g := gName 8) (tt := tYes) rfl scLs.nd (pi_list (pe_callB (Hk.cr_sortDT rfl) (by rfl) Z.sort boot_sorted' (pa_cons (pv 3) pa_nil)))
      (blkOk_by (N := ["well", "names", "clock", "held", "k", "name", "hand", "talk", "key"]) (sc := defScope lLeases) (by decide +kernel)) (fun _ _ _ _ _ => pg_name (i := 8) scLs.nd rfl (Or.inl rfl)) (fun _ _ _ _ _ => pts_nil)
      (fun _ _ _ _ _ => pe_op (show OpR _ _ (rCatF K) from op_catF) (pv 8) (pe_dget (room_h1 hr) (pv 3) (pv 8) (fun _ _ => rfl)))) pa_nil))))), ?_⟩
  refine fun dd hD => ?_
  have nD := W.ne hD
  dsimp only [gName]
  show tSeq _ _ _ [some (V.ref wl.w), some (.ref N), some (.int c), some (.ref dd), none, none, none, none, none] _
  have two : (2 : Nat) ≤ 100000 := by decide
  refine q_forRX (R := fun n H' => n ≤ 3 ∧ Drawn wl H H' ∧ H' dd = some (.dT [])) ?md (fun n H' h => by omega) (fun n i σ' H' => n ≤ 3 ∧ ∃ (x4 x5 x6 x7 : Option V) (kvs : List (List L2.Key × V)) (L : List Ls), σ' = [some (.ref wl.w), some (.ref N), some (.int c), some (.ref dd), x4, x5, x6, x7, none] ∧ Drawn wl H H' ∧ H' dd = some (.dT kvs) ∧ Dl H' kvs L ∧ ndK L ∧ L.length ≤ i ∧ ∀ l ∈ L, LsOk zs l)
    (fun n H' h => ⟨h.1, _, _, _, _, [], [], rfl, h.2.1, h.2.2, .nil, .nil, Nat.le_refl _, fun l hl => by cases hl⟩) ?_ ?_
  case md =>
    refine fun Q q => ⟨_, rfl, wl, 4, rfl, W.same (same_upd hD), by decide, by decide, fun d H2 d0 d1 D2 => ?_⟩
    have := q d.toNat H2 ⟨by omega, ((Drawn.refl W).new hD).trans D2, D2.keep _ _ nD.1 upd_same⟩
    rw [show ((d.toNat : Nat) : Int) = d by omega] at this
    exact this
  · rintro n i σ' H1 hi ⟨hn3, x4, x5, x6, x7, kvs, L, rfl, D1, h1, dl, nd, ln, ok⟩
    show tSeq _ _ _ [some (V.ref wl.w), some (.ref N), some (.int c), some (.ref dd), some (.int (i : Int)), x5, x6, x7, none] H1
    have hN1 : H1 N = some (.lst (zs.map V.str)) := D1.keep _ _ nN hN
    refine ⟨_, rfl, _, rfl, _, rfl, N, zs.map V.str, rfl, .inl (SqL.of hN1), wl, _, rfl, D1.well, by rw [List.length_map]; omega, by rw [List.length_map]; omega, fun d2 H2 e0 e1 D2 => ?_⟩
    rw [List.length_map] at e1
    have hd2 : d2.toNat < zs.length := by omega
    have D12 := D1.trans D2
    have hN2 : H2 N = some (.lst (zs.map V.str)) := D12.keep _ _ nN hN
    refine ⟨N, zs.map V.str, d2, .str zs[d2.toNat], rfl, rfl, SqL.of hN2, ?_, ?_⟩
    · have : atI (zs.map V.str) ((d2.toNat : Nat) : Int) = some (.str zs[d2.toNat]) := atI_nat (by rw [List.getElem?_map, List.getElem?_eq_getElem hd2]; rfl)
      rwa [show ((d2.toNat : Nat) : Int) = d2 by omega] at this
    have hzm : zs[d2.toNat] ∈ zs := List.getElem_mem hd2
    generalize zs[d2.toNat] = z at hzm ⊢
    dsimp only [gName]
    -- the hand
    refine ⟨_, rfl, sz_of two, fun p hp => ⟨_, rfl, wl, 2, rfl, D12.well.same (same_upd hp), by decide, by decide, fun d3 H3 f0 f1 D3 => ?_⟩⟩
    have np := (D12.well.ne hp).1
    have hp3 : H3 p = some (.lst [.int 3, .int 99]) := D3.keep _ _ np upd_same
    have D13 : Drawn wl H H3 := (D12.new hp).trans D3
    have pick : ∃ m : Int, atI ([.int 3, .int 99] : List V) d3 = some (.int m) ∧ 0 < m ∧ m ≤ 99 := by
      have : d3 = 0 ∨ d3 = 1 := by omega
      rcases this with h | h
      · exact ⟨3, by rw [h]; rfl, by decide, by decide⟩
      · exact ⟨99, by rw [h]; rfl, by decide, by decide⟩
    obtain ⟨m, hm, m0, m99⟩ := pick
    refine ⟨p, _, d3, .int m, rfl, rfl, SqL.of hp3, hm, wl, m, rfl, D13.well, m0, by omega, fun d4 H4 g0 g1 D4 => ⟨_, _, rfl, rfl, ?_⟩⟩
    dsimp only [gName]
    have D14 := D13.trans D4
    -- the talk
    refine ⟨_, rfl, wl, 6, rfl, D14.well, by decide, by decide, fun d5 H5 i0 i1 D5 => ?_⟩
    dsimp only [gName]
    have D15 := D14.trans D5
    refine ⟨_, rfl, _, rfl, _, _, rfl, rfl, 0, c - 2, rfl, _, rfl, wl, 12, rfl, D15.well, by decide, by decide, fun d6 H6 j0 j1 D6 => ⟨_, _, rfl, rfl, sz_of two, fun nv hnv => ?_⟩⟩
    have D16 := D15.trans D6
    refine ⟨_, rfl, eu_tup (ea_cons (ev_var rfl) (ea_cons (ev_var rfl) ea_nil)) two _ (Ex.refl _) _ fun b2 H7 hb0 e7 hb2 => ?_⟩
    generalize hmx : (if c - 2 > 0 then c - 2 else 0) = mx
    have mx0 : 0 ≤ mx ∧ mx < 10 ^ 11 := by
      rw [← hmx]
      by_cases h : c - 2 > 0
      · rw [if_pos h]
        omega
      · rw [if_neg h]
        omega
    rw [hmx] at e7 hb0
    have e67 : Ex H6 H7 := (Ex.new hnv).trans e7
    have D17 : Drawn wl H H7 := (D16.new hnv).same e7
    have keepd : ∀ {G G' : Hp}, Drawn wl G G' → G dd = some (.dT kvs) → G' dd = some (.dT kvs) := fun d h => d.keep _ _ nD.1 h
    have hk6 : H6 dd = some (.dT kvs) := keepd D6 (keepd D5 (keepd D4 (keepd D3 (by rw [upd_ne (ne_of_none (keepd D2 h1) hp)]; exact keepd D2 h1))))
    have hk7 : H7 dd = some (.dT kvs) := e67 _ _ hk6
    have t16 : ∀ b ws, H1 b = some (.tup ws) → H7 b = some (.tup ws) := fun b ws hb => by
      have b2 := drawn_tups D1.well D2 _ _ hb
      have b3 := drawn_tups (D12.well.same (same_upd hp)) D3 _ _ (Ex.new hp _ _ b2)
      exact e67 _ _ (drawn_tups D15.well D6 _ _ (drawn_tups D14.well D5 _ _ (drawn_tups D13.well D4 _ _ b3)))
    have lenk : kvs.length < sizeLine := sz_lt (by rw [dl.len]; omega)
    have hnv7 : H7 nv = some (.tup [.int d5, .int (mx + d6)]) := by
      have := e7 _ _ upd_same
      exact this
    refine ⟨dd, _, rfl, DPut.t (k := Hk.keySI (z, 1 + d4)) hk7 hb2 lenk, hn3, _, _, _, _, _, putL L (z, 1 + d4) (d5, mx + d6), rfl, D17.put W hD, upd_same, ?_, ndK_put nd, Nat.le_trans (len_put _ _ _) (by omega), ?_⟩
    · have nt : ∀ b ws, H7 b = some (.tup ws) → upd H7 dd (.dT (putK kvs (Hk.keySI (z, 1 + d4)) (.ref nv))) b = some (.tup ws) := fun b ws hb => by
        rw [upd_ne (fun z => by rw [z, hk7] at hb; cases hb)]
        exact hb
      exact (Dl.put (v := (d5, mx + d6)) nd (dl.tups t16) hnv7).tups nt
    · intro l hl
      have g := getL_of (ndK_put (k := (z, 1 + d4)) (v := (d5, mx + d6)) nd) hl
      rw [getL_put] at g
      by_cases h : l.1 = (z, 1 + d4)
      · rw [if_pos h] at g
        have e2 : l.2 = (d5, mx + d6) := (Option.some.inj g).symm
        refine ⟨by rw [h]; exact hzm, by rw [h]; exact ⟨by show 1 ≤ 1 + d4; omega, by show 1 + d4 ≤ 99; omega⟩, by rw [e2]; exact ⟨i0, i1⟩, by rw [e2]; exact ⟨by show 0 ≤ mx + d6; omega, by show mx + d6 < _; omega⟩⟩
      · rw [if_neg h] at g
        exact ok l (getL_mem g)
  · rintro n σ' H1 ⟨hn3, x4, x5, x6, x7, kvs, L, rfl, D1, h1, dl, nd, ln, ok⟩
    refine (ed_order (K := K) (C := C) (w := wl.w) (dv := 3) (j := 8) rfl (fun _ => rfl) (fun _ => rfl) (fun _ => rfl) h1 dl nd (srt_sortL L) (fun k => getL_sortL k L) (by omega) D1.well.at) H1 (Ex.refl H1) _ fun v H2 e2 a2 => ?_
    exact k v (sortL L) H2 (D1.same e2) (srt_sortL L) (Nat.le_trans (len_sortL L) (by omega)) (fun l hl => ok l (mem_of_get (srt_nd (srt_sortL L)) (fun k => getL_sortL k L) l hl)) a2
end
end Hs
namespace Hs
open PySem PySem.Spec PyProof.Rows L2 Hu Evl
open Hk (SI ltSI)
abbrev lVote : Stmt := topS 110
abbrev lTable : Stmt := topS 111
structure TabPre (zs : List Str) (T : Tb) : Prop where
  c : 0 ≤ T.clock ∧ T.clock < 10 ^ 11
  st : srt T.ls
  len : T.ls.length ≤ 4
  ls : ∀ l ∈ T.ls, LsOk zs l
  p : gStamp T.p = true
  v : gVote T.v = true
  n : (isNon T.n || gMembers T.n) = true
  kp : (T.e = .int (-1) ∧ T.m = .tup [] ∧ T.a = .tup [] ∧ T.h = .tup [] ∧ T.b = .tup []) ∨ (∃ e : Int, T.e = .int e ∧ 0 ≤ e ∧ e < 10 ^ 11 ∧ gMembers T.m = true ∧ gAhead T.a = true ∧ gHeads T.h = true ∧ gBlocks T.b = true)
  bm : Bd T.m 900 4 0
  ba : Bd T.a 900 4 0
  bh : Bd T.h 12400 4 0
  bb : Bd T.b 3000 4 0
  bp : Bd T.p 200 4 0
  bv : Bd T.v 1100 4 0
  bn : Bd T.n 900 4 0
  pl : pln T.m ∧ pln T.a ∧ pln T.h ∧ pln T.b ∧ pln T.p ∧ pln T.v ∧ pln T.n
theorem nil_bd : Bd (.tup []) 900 4 0 := ⟨by simp [wt, wtL], by simp [dep, depL], by simp [tidy, tidyL]⟩
theorem non_bd : Bd .non 900 4 0 := ⟨by simp [wt], by simp [dep], trivial⟩
section
variable {P : Program} {wd : World} {K : PySem.W.Frag} {mg : Str → Option Value} {base : Heap} {C : Addr} {fD : Addr} {dD : FuncData}
abbrev spStampL : Sp := spPair fun i j => (i = 0 ∧ j = 0) ∨ (1 ≤ i ∧ 1 ≤ j ∧ j ≤ 99)
def spVote (C : Addr) : Sp := fun vs H Q _ => ∃ wl : WA, vs = [.ref wl.w] ∧ Well H wl ∧ ∀ (v : V) (u : U) (H' : Hp), Drawn wl H H' → At wl.w C H' v u → Bd u 1100 4 0 → gVote u = true → pln u → Q v H'
theorem scVoteL : FnScope ["well", "ballot"] ["well"] (defScope lVote) := ⟨rfl, rfl, rfl, by decide +kernel, rfl, by decide +kernel, by decide +kernel⟩
theorem ok_voteL {f fS fM : Addr} {fd dS dM : FuncData} (F : Fun K "_law_vote" "_law_vote" lVote f fd) (D : Dd P wd K mg base fD dD) (DS : Df K mg "_law_stamp" lStamp ["well"] fS dS) (GS : FnOk P wd K mg base CX0 5 fS dS ["well"] spStampL)
    (DM : Df K mg "_law_members" lMembers ["well"] fM dM) (GM : FnOk P wd K mg base CX0 4 fM dM ["well"] spMem) : FnOk P wd K mg base CX0 6 f fd ["well"] (spVote C) := by
  refine F.ok scVoteL (fun vs H Q E h => ?_) (fun cdv A outer s H vs Q E hr h => ?_)
  · obtain ⟨wl, rfl, _⟩ := h
    rfl
  obtain ⟨wl, rfl, W, k⟩ := h
  refine ⟨_, pss_cons (ps_if (pt_cmpR op_eq (pe_draw D hr (by decide) (by rfl) (pv 0) pe_int) pe_int (nomark _)) (pss_one (ps_ret pe_non)) pss_nil)
    (pss_cons (ps_set (i := 1) scVoteL.nd rfl (.inl rfl) (pe_call GS hr (by rfl) DS.g DS.F.kp DS.b .nil pass0 (pa_cons (pv 0) pa_nil)))
    (pss_one (ps_ret (pe_tup (pa_cons (pv 1) (pa_cons (pe_call GM (hr.mono (by decide)) (by rfl) DM.g DM.F.kp DM.b .nil pass0 (pa_cons (pv 0) pa_nil)) pa_nil)))))), ?_⟩
  refine ⟨_, rfl, wl, 2, rfl, W, by decide, by decide, fun d H1 d0 d1 D1 => ⟨rfl, _, rfl, ite2 (fun q => ?_) (fun q => ?_)⟩⟩
  · exact k _ .non H1 D1 .non (non_bd.mono (by decide) (Nat.le_refl _) (Nat.le_refl _)) rfl trivial
  refine ⟨_, rfl, wl, rfl, D1.well, fun i j p H2 b1 b2 hR hp D2 h2 => ?_⟩
  dsimp only [gName]
  refine ⟨_, rfl, _, rfl, wl, rfl, D2.well, fun g p3 H3 hg hp3 D3 h3 => ⟨sz_of (show (2 : Nat) ≤ 100000 by decide), fun t ht => ?_⟩⟩
  have D13 := (D1.trans D2).trans D3
  have hS := stampOk hR
  have hM := memU_ok hg
  have a1 : At wl.w C H3 (.ref p) (.tup [.int i, .int j]) := At.drawn D3 (.tup h2 (not_well D2.well h2) (.cons (.int i) (.cons (.int j) .nil)))
  refine k _ (.tup [.tup [.int i, .int j], memU g]) _ (D13.new ht) (.tup upd_same (D13.well.ne ht).1 (.cons (ex_at (Ex.new ht) a1) (.cons (ex_at (Ex.new ht) (mem_at hg D3.well h3)) .nil))) ?_ ?_ ?_
  · have n1 := pair_bd b1 b2
    have n2 := memU_bd g
    refine ⟨?_, ?_, ?_⟩
    · have := n1.w
      have := n2.w
      simp only [wt, wtL] at *
      omega
    · have := n1.d
      have := n2.d
      simp only [dep, depL] at *
      omega
    · simp only [tidy, tidyL]
      have c1 := n1.c
      simp only [tidy, tidyL] at c1
      exact ⟨c1, n2.c, trivial⟩
  · show (false || (gStamp (.tup [.int i, .int j]) && gMembers (memU g))) = true
    rw [hS, hM]
    rfl
  · exact ⟨gStamp_pln hS, gMembers_pln hM, trivial⟩
/-! ### the table -/
def spTab (C : Addr) : Sp := fun vs H Q _ => ∃ (wl : WA) (N I : Addr) (zs : List Str) (xs : List V) (js : List (Int × Int)), vs = [.ref wl.w, .ref N, .ref I] ∧ Well H wl ∧ H N = some (.lst (zs.map V.str)) ∧ N ≠ wl.w ∧ 1 ≤ zs.length ∧ zs.length ≤ 3 ∧ (∀ z ∈ zs, gNam (.str z) = true) ∧ zs.Pairwise ltZ ∧ Ids C wl H I xs js ∧
  ∀ (v : V) (T : Tb) (H' : Hp), Drawn wl H H' → TabPre zs T → At wl.w C H' v (tabU T) → Q v H'
theorem scTab : FnScope ["well", "names", "ids", "bare", "clock", "leases", "promise", "voted", "later", "epoch", "members", "ahead", "heads", "blocks"] ["well", "names", "ids"] (defScope lTable) := ⟨rfl, rfl, rfl, by decide +kernel, rfl, by decide +kernel, by decide +kernel⟩
/-- [x, a drawn lot of members][a draw] -/
theorem ix_lots {σ : L2.St} {H : Hp} {wl : WA} {tx : TE} {Q : VK} {u0 : U} (h0 : σ[0]? = some (some (.ref wl.w))) (W : Well H wl) (hx : EvD wl.w C tx σ H u0)
    (q : ∀ (v : V) (u : U) (H' : Hp), Drawn wl H H' → At wl.w C H' v u → (u = u0 ∨ ∃ g, u = memU g ∧ gMembers (memU g) = true) → Q v H') :
    tOp (rIxL K) (tLst (tCons tx (tCons (tCall spMem [] E0 (tCons (tVar 0) tNil)) tNil))) (tCall spDraw [] E0 (tCons (tVar 0) (tCons (tC (.int 2)) tNil))) σ H Q := by
  refine hx H (Ex.refl H) _ fun x H0 e0 ax => ⟨_, h0, wl, rfl, W.same e0, fun g p H1 hg hp D1 h1 => ⟨sz_of (show (2 : Nat) ≤ 100000 by decide), fun l hl => ⟨_, h0, wl, 2, rfl, D1.well.same (same_upd hl), by decide, by decide, fun d H2 d0 d1 D2 => ?_⟩⟩⟩
  have D12 : Drawn wl H H2 := ((((Drawn.refl W).same e0).trans D1).new hl).trans D2
  have nl := (D1.well.ne hl).1
  have hl2 : H2 l = some (.lst [x, .ref p]) := D2.keep _ _ nl upd_same
  have d01 : d = 0 ∨ d = 1 := by omega
  rcases d01 with h | h
  · exact ⟨l, _, d, x, rfl, rfl, SqL.of hl2, by rw [h]; rfl, q x u0 H2 D12 (At.drawn D2 (ex_at (Ex.new hl) (At.drawn D1 ax))) (.inl rfl)⟩
  · exact ⟨l, _, d, .ref p, rfl, rfl, SqL.of hl2, by rw [h]; rfl, q _ (memU g) H2 D12 (At.drawn D2 (ex_at (Ex.new hl) (mem_at hg D1.well h1))) (.inr ⟨g, rfl, memU_ok hg⟩)⟩
set_option maxHeartbeats 1000000 in
theorem ok_tableL {f fN fL fS fV fM fH fB : Addr} {fd dN dL dS dV dM dH dB : FuncData} (F : Fun K "_law_table" "_law_table" lTable f fd) (D : Dd P wd K mg base fD dD) (DN : Df K mg "_law_number" lNumber ["well"] fN dN) (DL : Df K mg "_law_leases" lLeases ["well", "names", "clock"] fL dL) (GL : FnOk P wd K mg base CX0 4 fL dL ["well", "names", "clock"] (spLs C))
    (DS : Df K mg "_law_stamp" lStamp ["well"] fS dS) (GS : FnOk P wd K mg base CX0 5 fS dS ["well"] spStampL) (DV : Df K mg "_law_vote" lVote ["well"] fV dV) (GV : FnOk P wd K mg base CX0 6 fV dV ["well"] (spVote C)) (DM : Df K mg "_law_members" lMembers ["well"] fM dM) (GM : FnOk P wd K mg base CX0 4 fM dM ["well"] spMem)
    (DH : Df K mg "_law_heads" lHeads ["well", "names", "ids"] fH dH) (GH : FnOk P wd K mg base CX0 6 fH dH ["well", "names", "ids"] (spHeads C)) (DB : Df K mg "_law_blocks" lBlocks ["well", "ids", "share"] fB dB) (GB : FnOk P wd K mg base CX0 6 fB dB ["well", "ids", "share"] (spBlocks C)) :
    FnOk P wd K mg base CX0 7 f fd ["well", "names", "ids"] (spTab C) := by
  have GN : FnOk P wd K mg base CX0 4 fN dN ["well"] spNumber := ok_number DN.F D
  refine F.ok scTab (fun vs H Q E h => ?_) (fun cdv A outer s H vs Q E hr h => ?_)
  · obtain ⟨wl, N, I, zs, xs, js, rfl, _⟩ := h
    rfl
  obtain ⟨wl, N, I, zs, xs, js, rfl, W, hN, nN, z1, z10, hz, hzs, hI, k⟩ := h
  refine ⟨_, pss_cons (ps_set (i := 3) scTab.nd rfl (.inl rfl) (pe_cmpR op_eq (pe_draw D hr (by decide) (by rfl) (pv 0) pe_int) pe_int (nomark _)))
    (pss_cons (ps_set (i := 4) scTab.nd rfl (.inl rfl) (pe_call GN (hr.mono (by decide)) (by rfl) DN.g DN.F.kp DN.b .nil pass0 (pa_cons (pv 0) pa_nil)))
    (pss_cons (ps_set (i := 5) scTab.nd rfl (.inl rfl) (pe_call GL (hr.mono (by decide)) (by rfl) DL.g DL.F.kp DL.b .nil pass0 (pa_cons (pv 0) (pa_cons (pv 1) (pa_cons (pv 4) pa_nil)))))
    (pss_cons (ps_set (i := 6) scTab.nd rfl (.inl rfl) (pe_call GS (hr.mono (by decide)) (by rfl) DS.g DS.F.kp DS.b .nil pass0 (pa_cons (pv 0) pa_nil)))
    (pss_cons (ps_set (i := 7) scTab.nd rfl (.inl rfl) (pe_call GV (hr.mono (by decide)) (by rfl) DV.g DV.F.kp DV.b .nil pass0 (pa_cons (pv 0) pa_nil)))
    (pss_cons (ps_set (i := 8) scTab.nd rfl (.inl rfl) (pe_ix ix_list (pe_lst (pa_cons pe_non (pa_cons (pe_call GM (hr.mono (by decide)) (by rfl) DM.g DM.F.kp DM.b .nil pass0 (pa_cons (pv 0) pa_nil)) pa_nil))) (pe_draw D hr (by decide) (by rfl) (pv 0) pe_int) (fun _ _ => rfl)))
    (pss_cons (ps_if (pt_val (pv 3)) (pss_one (ps_ret (pe_tupF (pa_cons (pe_un un_neg pe_int) (pa_cons (pe_tupF pa_nil) (pa_cons (pe_tupF pa_nil) (pa_cons (pv 4) (pa_cons (pe_tupF pa_nil) (pa_cons (pe_tupF pa_nil) (pa_cons (pv 5) (pa_cons (pv 6) (pa_cons (pv 7) (pa_cons (pv 8) pa_nil))))))))))))) pss_nil)
    (pss_cons (ps_set (i := 9) scTab.nd rfl (.inl rfl) (pe_call GN (hr.mono (by decide)) (by rfl) DN.g DN.F.kp DN.b .nil pass0 (pa_cons (pv 0) pa_nil)))
    (pss_cons (ps_set (i := 10) scTab.nd rfl (.inl rfl) (pe_call GM (hr.mono (by decide)) (by rfl) DM.g DM.F.kp DM.b .nil pass0 (pa_cons (pv 0) pa_nil)))
    (pss_cons (ps_set (i := 11) scTab.nd rfl (.inl rfl) (pe_ix ix_list (pe_lst (pa_cons (pe_tupF pa_nil) (pa_cons (pe_call GM (hr.mono (by decide)) (by rfl) DM.g DM.F.kp DM.b .nil pass0 (pa_cons (pv 0) pa_nil)) pa_nil))) (pe_draw D hr (by decide) (by rfl) (pv 0) pe_int) (fun _ _ => rfl)))
    (pss_cons (ps_set (i := 12) scTab.nd rfl (.inl rfl) (pe_call GH (hr.mono (by decide)) (by rfl) DH.g DH.F.kp DH.b .nil pass0 (pa_cons (pv 0) (pa_cons (pv 1) (pa_cons (pv 2) pa_nil)))))
    (pss_cons (ps_set (i := 13) scTab.nd rfl (.inl rfl) (pe_call GB (hr.mono (by decide)) (by rfl) DB.g DB.F.kp DB.b .nil pass0 (pa_cons (pv 0) (pa_cons (pv 2) (pa_cons pe_int pa_nil)))))
    (pss_one (ps_ret (pe_tupF (pa_cons (pv 9) (pa_cons (pv 10) (pa_cons (pv 11) (pa_cons (pv 4) (pa_cons (pv 12) (pa_cons (pv 13) (pa_cons (pv 5) (pa_cons (pv 6) (pa_cons (pv 7) (pa_cons (pv 8) pa_nil)))))))))))))))))))))))), ?_⟩
  refine ⟨_, rfl, wl, 8, rfl, W, by decide, by decide, fun d H1 d0 d1 D1 => ⟨rfl, ?_⟩⟩
  dsimp only [gName]
  refine ⟨_, rfl, wl, rfl, D1.well, fun c H2 c0 c1 D2' => ?_⟩
  have D2 := D1.trans D2'
  dsimp only [gName]
  refine ⟨_, rfl, _, rfl, _, rfl, wl, N, zs, c, rfl, D2.well, D2.keep _ _ nN hN, nN, z1, z10, c0, c1, fun v5 L H3 D3' st ln lok a5 => ?_⟩
  have D3 := D2.trans D3'
  dsimp only [gName]
  refine ⟨_, rfl, wl, rfl, D3.well, fun i j p H4 b1 b2 hR hp D4' h4 => ?_⟩
  have D4 := D3.trans D4'
  dsimp only [gName]
  refine ⟨_, rfl, wl, rfl, D4.well, fun v7 u7 H5 D5' a7 b7 g7 p7 => ?_⟩
  have D5 := D4.trans D5'
  dsimp only [gName]
  refine ix_lots (K := K) (C := C) (wl := wl) rfl D5.well (ed_ev ev_c .non) fun v8 u8 H6 D6' a8 h8 => ?_
  have D6 := D5.trans D6'
  dsimp only [gName]
  have hS := stampOk hR
  have a6 : At wl.w C H4 (.ref p) (.tup [.int i, .int j]) := .tup h4 (not_well D4.well h4) (.cons (.int i) (.cons (.int j) .nil))
  have g8 : (isNon u8 || gMembers u8) = true ∧ Bd u8 900 4 0 ∧ pln u8 := by
    rcases h8 with rfl | ⟨g, rfl, hg⟩
    · exact ⟨rfl, non_bd, trivial⟩
    · exact ⟨by rw [hg]; simp, (memU_bd g).mono (by decide) (by decide) (Nat.le_refl _), gMembers_pln hg⟩
  have ten : (10 : Nat) ≤ 100000 := by decide
  have x5 := At.drawn (((D4'.trans D5').trans D6')) a5
  have x6 := At.drawn (D5'.trans D6') a6
  have x7 := At.drawn D6' a7
  show tSeq _ _ _ [some (V.ref wl.w), some (.ref N), some (.ref I), some (.bl (decide (V.int d = V.int 0))), some (.int c), some v5, some (.ref p), some v7, some v8, none, none, none, none, none] H6
  refine q_when (b := decide (V.int d = V.int 0)) (et_B (ev_var rfl)) (fun q H7 e7 => ?_) (fun q H7 e7 => ?_)
  · have D7 := D6.same e7
    have hw7 := D7.well.at
    refine (ed_tup (w := wl.w) (C := C) (us := [.int (-1), .tup [], .tup [], .int c, .tup [], .tup [], .tup (L.map lsU), .tup [.int i, .int j], u7, u8]) hw7
      (eds_cons (ed_ev (ev_un ev_c ru_neg) (.int (-1))) (eds_cons (ed_tup hw7 eds_nil (by decide)) (eds_cons (ed_tup hw7 eds_nil (by decide)) (eds_cons (ed_ev (ev_var rfl) (.int c)) (eds_cons (ed_tup hw7 eds_nil (by decide)) (eds_cons (ed_tup hw7 eds_nil (by decide)) (eds_cons (ed_ev (ev_var rfl) (ex_at e7 x5)) (eds_cons (ed_ev (ev_var rfl) (ex_at e7 x6)) (eds_cons (ed_ev (ev_var rfl) (ex_at e7 x7)) (eds_cons (ed_ev (ev_var rfl) (ex_at e7 a8)) eds_nil)))))))))) ten) H7 (Ex.refl H7) _ fun v H8 e8 a => ?_
    exact k v { e := .int (-1), m := .tup [], a := .tup [], clock := c, h := .tup [], b := .tup [], ls := L, p := .tup [.int i, .int j], v := u7, n := u8 } H8 (D7.same e8)
      ⟨⟨c0, c1⟩, st, ln, lok, hS, g7, g8.1, .inl ⟨rfl, rfl, rfl, rfl, rfl⟩, nil_bd, nil_bd, nil_bd.mono (by decide) (Nat.le_refl _) (Nat.le_refl _), nil_bd.mono (by decide) (Nat.le_refl _) (Nat.le_refl _), (pair_bd b1 b2).mono (Nat.le_refl _) (by decide) (Nat.le_refl _), b7, g8.2.1, trivial, trivial, trivial, trivial, gStamp_pln hS, p7, g8.2.2⟩ a
  · have D7 := D6.same e7
    refine ⟨_, rfl, wl, rfl, D7.well, fun ep H8 p0 p1 D8' => ?_⟩
    have D8 := D7.trans D8'
    dsimp only [gName]
    refine ⟨_, rfl, wl, rfl, D8.well, fun fm pm H9 hfm hpm D9' h9 => ?_⟩
    have D9 := D8.trans D9'
    dsimp only [gName]
    refine ix_lots (K := K) (C := C) (wl := wl) (u0 := .tup []) rfl D9.well (ed_tup D9.well.at eds_nil (by decide)) fun v11 u11 H10 D10' a11 h11 => ?_
    have D10 := D9.trans D10'
    dsimp only [gName]
    refine ⟨_, rfl, _, rfl, _, rfl, wl, N, I, zs, xs, js, rfl, D10.well, D10.keep _ _ nN hN, nN, z10, hz, hzs, hI.keep W D10, fun v12 u12 H11 D11' a12 b12 g12 p12 => ?_⟩
    have D11 := D10.trans D11'
    dsimp only [gName]
    refine ⟨_, rfl, _, rfl, wl, I, 6, xs, js, rfl, D11.well, by decide, by decide, hI.keep W D11, fun v13 u13 H12 D12' a13 b13 g13 p13 => ?_⟩
    have D12 := D11.trans D12'
    dsimp only [gName]
    have hm := memU_ok hfm
    have g11 : gAhead u11 = true ∧ Bd u11 900 4 0 ∧ pln u11 := by
      rcases h11 with rfl | ⟨g, rfl, hg⟩
      · exact ⟨rfl, nil_bd, trivial⟩
      · exact ⟨by unfold gAhead; rw [hg]; simp, (memU_bd g).mono (by decide) (by decide) (Nat.le_refl _), gMembers_pln hg⟩
    have hw12 := D12.well.at
    have E := (((D8'.trans D9').trans D10').trans D11').trans D12'
    have y10 : At wl.w C H12 (.ref pm) (memU fm) := At.drawn ((D10'.trans D11').trans D12') (mem_at hfm D9.well h9)
    refine (ed_tup (w := wl.w) (C := C) (us := [.int ep, memU fm, u11, .int c, u12, u13, .tup (L.map lsU), .tup [.int i, .int j], u7, u8]) hw12
      (eds_cons (ed_ev (ev_var rfl) (.int ep)) (eds_cons (ed_ev (ev_var rfl) y10) (eds_cons (ed_ev (ev_var rfl) (At.drawn (D11'.trans D12') a11)) (eds_cons (ed_ev (ev_var rfl) (.int c)) (eds_cons (ed_ev (ev_var rfl) (At.drawn D12' a12)) (eds_cons (ed_ev (ev_var rfl) a13) (eds_cons (ed_ev (ev_var rfl) (At.drawn E (ex_at e7 x5))) (eds_cons (ed_ev (ev_var rfl) (At.drawn E (ex_at e7 x6))) (eds_cons (ed_ev (ev_var rfl) (At.drawn E (ex_at e7 x7))) (eds_cons (ed_ev (ev_var rfl) (At.drawn E (ex_at e7 a8))) eds_nil)))))))))) ten) H12 (Ex.refl H12) _ fun v H13 e8 a => ?_
    exact k v { e := .int ep, m := memU fm, a := u11, clock := c, h := u12, b := u13, ls := L, p := .tup [.int i, .int j], v := u7, n := u8 } H13 (D12.same e8)
      ⟨⟨c0, c1⟩, st, ln, lok, hS, g7, g8.1, .inr ⟨ep, rfl, p0, p1, hm, g11.1, g12, g13⟩, (memU_bd fm).mono (by decide) (by decide) (Nat.le_refl _), g11.2.1, b12, b13, (pair_bd b1 b2).mono (Nat.le_refl _) (by decide) (Nat.le_refl _), b7, g8.2.1, gMembers_pln hm, g11.2.2, p12, p13, gStamp_pln hS, p7, g8.2.2⟩ a
end
end Hs
namespace Hs
open PySem PySem.Spec PyProof.Rows L2 Hu Evl
open Hk (SI ltSI)
abbrev lStart : Stmt := topS 112
abbrev lKeys : Stmt := topS 999
section
variable {P : Program} {wd : World} {K : PySem.W.Frag} {mg : Str → Option Value} {base : Heap} {C : Addr} {fD : Addr} {dD : FuncData}
def spStart (C : Addr) : Sp := fun vs H Q _ => ∃ wl : WA, vs = [.ref wl.w] ∧ Well H wl ∧ ∀ (p N I : Addr) (zs : List Str) (v : V) (T : Tb) (H' : Hp), Drawn wl H H' → H' p = some (.lst [.ref N, .ref I, v]) → H' N = some (.lst (zs.map V.str)) → N ≠ wl.w → 1 ≤ zs.length → zs.length ≤ 3 →
  (∀ z ∈ zs, gNam (.str z) = true) → TabPre zs T → At wl.w C H' v (tabU T) → Q (.ref p) H'
theorem scStart : FnScope ["well", "k", "names", "ids", "table"] ["well"] (defScope lStart) := ⟨rfl, rfl, rfl, by decide +kernel, rfl, by decide +kernel, by decide +kernel⟩
set_option maxHeartbeats 1000000 in
theorem ok_startL {f fU fN fI fT : Addr} {fd dU dN dI dT : FuncData} (F : Fun K "_law_start" "_law_start" lStart f fd) (B : Bt mg) (D : Dd P wd K mg base fD dD) (DU : Df K mg "_law_unlike" lUnlike ["things"] fU dU) (GS : FnOk P wd K mg base CX0 2 fU dU ["things"] spUnS) (GP : FnOk P wd K mg base CX0 2 fU dU ["things"] spUnP)
    (DN : Df K mg "_law_name" lName ["well"] fN dN) (GN : FnOk P wd K mg base CX0 4 fN dN ["well"] spName) (DI : Df K mg "_law_id" lId ["well"] fI dI) (GI : FnOk P wd K mg base CX0 5 fI dI ["well"] (spPair fun i j => 1 ≤ i ∧ i ≤ 99 ∧ 1 ≤ j)) (DT : Df K mg "_law_table" lTable ["well", "names", "ids"] fT dT)
    (GT : FnOk P wd K mg base CX0 7 fT dT ["well", "names", "ids"] (spTab C)) : FnOk P wd K mg base CX0 8 f fd ["well"] (spStart C) := by
  refine F.ok scStart (fun vs H Q E h => ?_) (fun cdv A outer s H vs Q E hr h => ?_)
  · obtain ⟨wl, rfl, _⟩ := h
    rfl
  obtain ⟨wl, rfl, W, k⟩ := h
  have GN' : FnOk P wd K mg base CX0 7 fN dN ["well"] spName := GN.mono (by decide)
  have GI' : FnOk P wd K mg base CX0 7 fI dI ["well"] (spPair fun i j => 1 ≤ i ∧ i ≤ 99 ∧ 1 ≤ j) := GI.mono (by decide)
  refine ⟨_, pss_cons (ps_set (i := 2) scStart.nd rfl (.inl rfl) (pe_call GS (hr.mono (by decide)) (by rfl) DU.g DU.F.kp DU.b .nil pass0 (pa_cons (pe_lc (own := [("k", 1)]) (g := gName 1) (tt := tYes) rfl scStart.nd (pi_range1 (by rfl) B.range (pa_cons (pe_op op_add pe_int (pe_draw D hr (by decide) (by rfl) (pv 0) pe_int)) pa_nil)) (blkOk_by (N := ["well", "k", "names", "ids", "table"]) (sc := defScope lStart) (by decide +kernel))
      (fun _ _ _ _ _ => pg_name (i := 1) scStart.nd rfl (Or.inl rfl)) (fun _ _ _ _ _ => pts_nil) (fun _ _ _ _ _ => pe_call GN' hr (by rfl) DN.g DN.F.kp DN.b .nil pass0 (pa_cons (pv 0) pa_nil))) pa_nil)))
    (pss_cons (ps_set (i := 3) scStart.nd rfl (.inl rfl) (pe_call GP (hr.mono (by decide)) (by rfl) DU.g DU.F.kp DU.b .nil pass0 (pa_cons (pe_lc (own := [("k", 1)]) (g := gName 1) (tt := tYes) rfl scStart.nd (pi_range1 (by rfl) B.range (pa_cons (pe_op op_add pe_int (pe_draw D hr (by decide) (by rfl) (pv 0) pe_int)) pa_nil)) (blkOk_by (N := ["well", "k", "names", "ids", "table"]) (sc := defScope lStart) (by decide +kernel))
      (fun _ _ _ _ _ => pg_name (i := 1) scStart.nd rfl (Or.inl rfl)) (fun _ _ _ _ _ => pts_nil) (fun _ _ _ _ _ => pe_call GI' hr (by rfl) DI.g DI.F.kp DI.b .nil pass0 (pa_cons (pv 0) pa_nil))) pa_nil)))
    (pss_cons (ps_set (i := 4) scStart.nd rfl (.inl rfl) (pe_call GT hr (by rfl) DT.g DT.F.kp DT.b .nil pass0 (pa_cons (pv 0) (pa_cons (pv 2) (pa_cons (pv 3) pa_nil)))))
    (pss_one (ps_ret (pe_lst (pa_cons (pv 2) (pa_cons (pv 3) (pa_cons (pv 4) pa_nil)))))))), ?_⟩
  -- the names
  refine ⟨_, rfl, wl, 3, rfl, W, by decide, by decide, fun d H1 d0 d1 D1 => ⟨_, _, rfl, rfl, 1 + d, rfl, by omega, by omega, fun Dl hD => ?_⟩⟩
  have nD := (D1.well.ne hD).1
  refine lc_range (lo := 0) (n := (1 + d).toNat) (fun i H' => Drawn wl H H' ∧ Drawn wl H1 H' ∧ ∃ zs : List Str, H' Dl = some (.lst (zs.map V.str)) ∧ zs.length = i ∧ ∀ z ∈ zs, gNam (.str z) = true) ⟨D1.new hD, (Drawn.refl D1.well).new hD, [], upd_same, rfl, fun z hz => (by cases hz)⟩ ?_ ?_
  · rintro i H2 hi ⟨D2, D2', zs, hz, hl, hg⟩
    refine ⟨rfl, ?_⟩
    refine et_yes _ (Ex.refl _) _ fun H3 e3 => ?_
    rw [if_pos rfl]
    refine ⟨_, rfl, wl, rfl, D2.well.same e3, fun z H4 gz D4 => ?_⟩
    have D34 : Drawn wl H2 H4 := ((Drawn.refl D2.well).same e3).trans D4
    refine ⟨_, D34.keep _ _ nD hz, ?_, D2.trans D34 |>.put W (D1.free W hD), (D2'.trans D34).put D1.well hD, zs ++ [z], ?_, ?_, ?_⟩
    · rw [List.length_map, hl]
      exact sz_lt (by omega)
    · rw [upd_same, List.map_append]
      rfl
    · rw [List.length_append, hl]
      rfl
    · intro y hy
      rcases List.mem_append.mp hy with h | h
      · exact hg y h
      · rw [List.mem_singleton.mp h]
        exact gz
  rintro H2 ⟨D2, _, zs, hz, hl, hg⟩
  refine ⟨Dl, zs, rfl, hz, by omega, by omega, fun z h => nam_ok (hg z h), fun N ns H3 hN0 e3 hN l1 l2 mem pw => ?_⟩
  have D3 := D2.same e3
  have hng : ∀ z ∈ ns, gNam (.str z) = true := fun z h => hg z (mem z h)
  have nN : N ≠ wl.w := fun z => by
    obtain ⟨o, ho⟩ := D2.well.at
    rw [← z, hN0] at ho
    cases ho
  dsimp only [gName]
  show tSeq _ _ _ [some (V.ref wl.w), none, some (.ref N), none, none] H3
  -- the ids
  refine ⟨_, rfl, wl, 3, rfl, D3.well, by decide, by decide, fun d2 H4 f0 f1 D4 => ⟨_, _, rfl, rfl, 1 + d2, rfl, by omega, by omega, fun Dm hDm => ?_⟩⟩
  have nDm := (D4.well.ne hDm).1
  have D34 := D3.trans D4
  refine lc_range (lo := 0) (n := (1 + d2).toNat) (fun i H' => Drawn wl H H' ∧ Drawn wl H4 H' ∧ ∃ (xs : List V) (js : List (Int × Int)), H' Dm = some (.lst xs) ∧ P2 H' xs js ∧ js.length = i ∧ ∀ j ∈ js, 1 ≤ j.1 ∧ j.1 ≤ 99 ∧ 1 ≤ j.2 ∧ j.2 < 2 ^ 60) ⟨D34.new hDm, (Drawn.refl D4.well).new hDm, [], [], upd_same, .nil, rfl, fun z hz => (by cases hz)⟩ ?_ ?_
  · rintro i H5 hi ⟨D5, D5', xs, js, hx, p2, hl, hb⟩
    refine ⟨rfl, ?_⟩
    refine et_yes _ (Ex.refl _) _ fun H6 e6 => ?_
    rw [if_pos rfl]
    refine ⟨_, rfl, wl, rfl, D5.well.same e6, fun a b p H7 b1 b2 hR hp D7 h7 => ?_⟩
    have D57 : Drawn wl H5 H7 := ((Drawn.refl D5.well).same e6).trans D7
    have hx7 := D57.keep _ _ nDm hx
    have nt : ∀ c zs, H7 c = some (.tup zs) → upd H7 Dm (.lst (xs ++ [.ref p])) c = some (.tup zs) := fun c zs hc => by
      rw [upd_ne (fun z => by rw [z, hx7] at hc; cases hc)]
      exact hc
    refine ⟨_, hx7, ?_, (D5.trans D57).put W (D34.free W hDm), (D5'.trans D57).put D4.well hDm, xs ++ [.ref p], js ++ [(a, b)], upd_same, ?_, ?_, ?_⟩
    · rw [p2.len, hl]
      exact sz_lt (by omega)
    · exact ((p2.tups (drawn_tups D5.well D57)).snoc (k := (a, b)) h7).tups nt
    · rw [List.length_append, hl]
      rfl
    · intro j hj
      rcases List.mem_append.mp hj with h | h
      · exact hb j h
      · rw [List.mem_singleton.mp h]
        exact ⟨hR.1, hR.2.1, hR.2.2, by show b < 2 ^ 60; omega⟩
  rintro H5 ⟨D5, D5', xs, js, hx, p2, hl, hb⟩
  refine ⟨Dm, xs, js, rfl, hx, p2, by omega, by omega, fun I ys ks H6 hI0 e6 hI p2' k1 k2 kmem kpw => ?_⟩
  have D6 := D5.same e6
  have nI : I ≠ wl.w := fun z => by
    obtain ⟨o, ho⟩ := D5.well.at
    rw [← z, hI0] at ho
    cases ho
  have hN6 : H6 N = some (.lst (ns.map V.str)) := e6 _ _ (D5'.keep _ _ nN (D4.keep _ _ nN hN))
  dsimp only [gName]
  refine ⟨_, rfl, _, rfl, _, rfl, wl, N, I, ns, ys, ks, rfl, D6.well, hN6, nN, l1, by omega, hng, pw, ⟨hI, nI, p2', ⟨k1, by omega⟩, fun j hj => hb j (kmem j hj), kpw⟩, fun v T H7 D7 tp a7 => ?_⟩
  have D67 := D6.trans D7
  dsimp only [gName]
  refine ⟨_, rfl, _, rfl, _, rfl, sz_of (show (3 : Nat) ≤ 100000 by decide), fun p hp => k p N I ns v T _ (D67.new hp) upd_same ?_ nN l1 (by omega) hng tp (ex_at (Ex.new hp) a7)⟩
  rw [upd_ne (ne_of_none (D7.keep _ _ nN hN6) hp)]
  exact D7.keep _ _ nN hN6
end
end Hs
namespace Hs
open PySem PySem.Spec PyProof.Rows L2 Hu Evl
def Wn : Nat → Nat | 0 => 100 | n + 1 => 3 * (Wn n + 2) + 32
theorem Wn_ge : ∀ n, 100 ≤ Wn n
  | 0 => Nat.le_refl _
  | n + 1 => by have := Wn_ge n; simp only [Wn]; omega
section
variable {P : Program} {wd : World} {K : PySem.W.Frag} {mg : Str → Option Value} {base : Heap} {C : Addr} {fD : Addr} {dD : FuncData}
def spAny (C : Addr) (n : Nat) : Sp := fun vs H Q _ => ∃ wl : WA, vs = [.ref wl.w, .int (n : Int)] ∧ Well H wl ∧ ∀ (v : V) (u : U) (H' : Hp), Drawn wl H H' → At wl.w C (fresh H H') v u → Bd u (Wn n) (3 * n + 3) 0 → Q v H'
/-- the promise of the calls that it makes itself -/
def spPrev (C : Addr) : Nat → Sp
  | 0 => fun _ _ _ _ => False
  | n + 1 => spAny C n
theorem scAny : FnScope ["well", "deep", "kind", "k", "items"] ["well", "deep"] (defScope lAny) := ⟨rfl, rfl, rfl, by decide +kernel, rfl, by decide +kernel, by decide +kernel⟩
theorem bd_int {i : Int} {n : Nat} (h : i.natAbs < 2 ^ 64) : Bd (.int i) (Wn n) (3 * n + 3) 0 := ⟨by have := Wn_ge n; simp only [wt]; omega, Nat.zero_le _, by simpa only [tidy] using h⟩
theorem bd_bl {b : Bool} {n : Nat} : Bd (.bl b) (Wn n) (3 * n + 3) 0 := ⟨by have := Wn_ge n; simp only [wt]; omega, Nat.zero_le _, trivial⟩
theorem bd_non {n : Nat} : Bd .non (Wn n) (3 * n + 3) 0 := ⟨by have := Wn_ge n; simp only [wt]; omega, Nat.zero_le _, trivial⟩
theorem bd_exc {n : Nat} : Bd .exc (Wn n) (3 * n + 3) 0 := ⟨by have := Wn_ge n; simp only [wt]; omega, by simp only [dep]; omega, trivial⟩
theorem bd_str {z : Str} {n : Nat} (h : z.length ≤ 20) (hc : ∀ c ∈ TL.tl z, okS c = true ∨ c = 10) : Bd (.str z) (Wn n) (3 * n + 3) 0 := ⟨by have := Wn_ge n; simp only [wt]; omega, Nat.zero_le _, by simpa only [tidy] using hc⟩
theorem fr_step {wl : WA} {H2 H' H3 : Hp} {D' : Addr} {o0 : HO} {vs : List V} {us : List U} {y : V} {u : U} (W2 : Well H2 wl) (hD : H2 D' = none) (D2 : Drawn wl H2 H') (hL : H' D' = some (.lst vs)) (l : AtL wl.w C (fresh (upd H2 D' o0) H') vs us) (D3 : Drawn wl H' H3) (hy : At wl.w C (fresh H' H3) y u) :
    AtL wl.w C (fresh (upd H2 D' o0) (upd H3 D' (.lst (vs ++ [y])))) (vs ++ [y]) (us ++ [u]) := by
  have nw := (W2.ne hD).1
  refine AtL.snoc (l.keep fun b o _ q => ?_) (hy.keep fun b o _ q => ?_)
  · obtain ⟨q1, q2⟩ := fr_new q
    have nb : b ≠ D' := fun e => by rw [e, upd_same] at q1; cases q1
    rw [fr_get q1, upd_ne nb]
    rw [upd_ne nb] at q1
    have nbw : b ≠ wl.w := fun e => by
      obtain ⟨o', ho⟩ := W2.at
      rw [e, ho] at q1
      cases q1
    exact D3.keep b o nbw q2
  · obtain ⟨q1, q2⟩ := fr_new q
    have nb : b ≠ D' := fun e => by rw [e, hL] at q1; cases q1
    have q3 : upd H2 D' o0 b = none := by
      rw [upd_ne nb]
      exact D2.free W2 q1
    rw [fr_get q3, upd_ne nb]
    exact q2
theorem fr_lift {wl : WA} {H H2 H' : Hp} {D' : Addr} {o0 : HO} {vs : List V} {us : List U} (W : Well H wl) (D1 : Drawn wl H H2) (hD : H2 D' = none) (l : AtL wl.w C (fresh (upd H2 D' o0) H') vs us) : AtL wl.w C (fresh H H') vs us :=
  l.keep fun b o _ q => by
    obtain ⟨q1, q2⟩ := fr_new q
    have nb : b ≠ D' := fun e => by rw [e, upd_same] at q1; cases q1
    rw [upd_ne nb] at q1
    rw [fr_get (D1.free W q1)]
    exact q2
theorem tu_fresh {H H' : Hp} {a : Addr} {xs : List V} {us : List U} (n : H a = none) (h : Tu H' a xs us) : Tu (fresh H H') a xs us := Tu.mv (fun o e => by rw [fr_get n]; exact e) h
/-- more is laid at free places -/
theorem fr_same {w : Addr} {H H' H'' : Hp} {vs : List V} {us : List U} (l : AtL w C (fresh H H') vs us) (s : Same H' H'') : AtL w C (fresh H H'') vs us := l.keep fun b o _ q => by
  obtain ⟨q1, q2⟩ := fr_new q
  rw [fr_get q1]
  exact s _ _ q2
theorem nam_len {z : Str} (h : gNam (.str z) = true) : z.length ≤ 8 := by
  have h' : ((decide (1 ≤ z.length) && decide (z.length ≤ 8)) && (TL.tl z).all lowc) = true := h
  exact of_decide_eq_true (and2 (and2 h').1).2
theorem nam_law {z : Str} (h : gNam (.str z) = true) : lawz z := fun c hc => by
  have h' : ((decide (1 ≤ z.length) && decide (z.length ≤ 8)) && (TL.tl z).all lowc) = true := h
  have := List.all_eq_true.mp (and2 h').2 c hc
  unfold lowc at this
  have q := and2 this
  have q1 := of_decide_eq_true q.1
  have q2 := of_decide_eq_true q.2
  unfold okS okc
  rw [decide_eq_true (by omega), decide_eq_true (by omega), decide_eq_true (by omega)]
  rfl
/-- a name's signs, and no more than that -/
def spNameL : Sp := fun vs H Q _ => ∃ wl : WA, vs = [.ref wl.w] ∧ Well H wl ∧ ∀ (z : Str) (H' : Hp), z.length ≤ 8 → lawz z → Drawn wl H H' → Q (.str z) H'
theorem ok_nameL {f : Addr} {fd : FuncData} (F : Fun K "_law_name" "_law_name" lName f fd) (B : Bt mg) (D : Dd P wd K mg base fD dD) : FnOk P wd K mg base CX0 4 f fd ["well"] spNameL :=
  (ok_name F B D).imp fun vs H Q E ⟨wl, e, W, k⟩ => ⟨wl, e, W, fun z H' hz D => k z H' (nam_len hz) (nam_law hz) D⟩
theorem ok_any {f fN fT fM : Addr} {fd dN dT dM : FuncData} (DA : Df K mg "_law_any" lAny ["well", "deep"] f fd) (S : Bs K mg C) (D : Dd P wd K mg base fD dD) (DN : Df K mg "_law_number" lNumber ["well"] fN dN) (DM : Df K mg "_law_name" lName ["well"] fM dM)
    (DT : Df K mg "_law_string" sString ["well", "many"] fT dT) (GT : FnOk P wd K mg base CX0 4 fT dT ["well", "many"] spString) (n : Nat) (G : FnOk P wd K mg base CX0 (4 + n) f fd ["well", "deep"] (spPrev C n)) :
    FnOk P wd K mg base CX0 (4 + n + 1) f fd ["well", "deep"] (spAny C n) := by
  refine DA.F.ok scAny (fun vs H Q E h => ?_) (fun cdv A outer s H vs Q E hr h => ?_)
  · obtain ⟨wl, rfl, _⟩ := h
    rfl
  obtain ⟨wl, rfl, W, k⟩ := h
  have hr4 : Room 4 (A.deeper (envOfC "_law_any" (defScope lAny) s.heap.objs.size f cdv)) := hr.mono (by omega)
  have GN : FnOk P wd K mg base CX0 4 fN dN ["well"] spNumber := ok_number DN.F D
  have GM : FnOk P wd K mg base CX0 4 fM dM ["well"] spNameL := ok_nameL DM.F S.B D
  refine ⟨_, pss_cons (ps_set (i := 2) scAny.nd rfl (.inl rfl) (pe_draw D hr4 (by decide) (by rfl) (pv 0) pe_int))
    (Evl.pss_cut (ps_if (pt_cmpR op_eq (pv 1) pe_int (nomark _)) (pss_one (ps_set (i := 2) scAny.nd rfl (.inl rfl) (pe_op op_modN (pe_callTy call_int1 (by rfl) S.B.int boot_int (pa_cons (pv 2) pa_nil)) pe_int))) pss_nil)
    (pss_cons (ps_if (pt_cmpR op_eq (pv 2) pe_int (nomark _)) (pss_one (ps_ret (pe_op op_sub (pe_draw D hr4 (by decide) (by rfl) (pv 0) pe_int) pe_int))) pss_nil)
    (pss_cons (ps_if (pt_cmpR op_eq (pv 2) pe_int (nomark _)) (pss_one (ps_ret (pe_op op_sub (pe_un un_neg pe_int) (pe_call GN hr4 (by rfl) DN.g DN.F.kp DN.b .nil pass0 (pa_cons (pv 0) pa_nil))))) pss_nil)
    (pss_cons (ps_if (pt_cmpR op_eq (pv 2) pe_int (nomark _)) (pss_one (ps_ret (pe_cmpR op_eq (pe_draw D hr4 (by decide) (by rfl) (pv 0) pe_int) pe_int (nomark _)))) pss_nil)
    (pss_cons (ps_if (pt_cmpR op_eq (pv 2) pe_int (nomark _)) (pss_one (ps_ret pe_non)) pss_nil)
    (pss_cons (ps_if (pt_cmpR op_eq (pv 2) pe_int (nomark _)) (pss_one (ps_ret (pe_call GT hr4 (by rfl) DT.g DT.F.kp DT.b .nil pass0 (pa_cons (pv 0) (pa_cons (pe_draw D hr4 (by decide) (by rfl) (pv 0) pe_int) pa_nil))))) pss_nil)
    (pss_cons (ps_if (pt_cmpR op_eq (pv 2) pe_int (nomark _)) (pss_one (ps_ret (pe_op op_add_str (pe_call GM hr4 (by rfl) DM.g DM.F.kp DM.b .nil pass0 (pa_cons (pv 0) pa_nil)) (pe_ix ix_list (pe_lst (pa_cons pe_str (pa_cons pe_str (pa_cons pe_str (pa_cons pe_str pa_nil))))) (pe_draw D hr4 (by decide) (by rfl) (pv 0) pe_int) (fun _ _ => rfl))))) pss_nil)
    (Evl.pss_cut (ps_setLc (i := 4) (own := [("k", 3)]) (g := gName 3) (tt := tYes) rfl scAny.nd rfl rfl rfl (pi_range1 (by rfl) S.B.range (pa_cons (pe_draw D hr4 (by decide) (by rfl) (pv 0) pe_int) pa_nil)) (blkOk_by (N := ["well", "deep", "kind", "k", "items"]) (sc := defScope lAny) (by decide +kernel))
        (fun _ _ _ _ _ => pg_name (i := 3) scAny.nd rfl (Or.inl rfl)) (fun _ _ _ _ _ => pts_nil) (fun _ _ _ _ _ => pe_call G hr (by rfl) DA.g DA.F.kp DA.b .nil pass0 (pa_cons (pv 0) (pa_cons (pe_op op_sub (pv 1) pe_int) pa_nil))))
    (pss_cons (ps_if (pt_cmpR op_le (pv 2) pe_int (nomark _)) (pss_one (ps_ret (pe_callTy call_tupF (by rfl) S.B.tup boot_tuple' (pa_cons (pv 4) pa_nil)))) pss_nil)
    (pss_cons (ps_if (pt_cmpR op_eq (pv 2) pe_int (nomark _)) (pss_one (ps_ret (pv 4))) pss_nil)
    (pss_cons (ps_if (pt_cmpR op_eq (pv 2) pe_int (nomark _)) (pss_one (ps_ret (pe_disp (pps_cons pe_str (pv 4) (pps_cons pe_int pe_non pps_nil)) rfl rfl (by decide) (by decide)))) pss_nil)
    (pss_one (ps_ret (pe_exc0 S.E (by rfl))))))))))))))), ?_⟩
  refine ⟨_, rfl, wl, 12, rfl, W, by decide, by decide, fun d H1 d0 d1 D1 => ?_⟩
  refine ⟨fun σ' H' => ∃ kd : Int, σ' = [some (.ref wl.w), some (.int (n : Int)), some (.int kd), none, none] ∧ 0 ≤ kd ∧ kd < 12 ∧ (n = 0 → kd < 6) ∧ H' = H1, ?_, ?_⟩
  · refine ⟨_, rfl, rfl, _, rfl, ite2 (fun q => ?_) (fun q => ⟨d, rfl, d0, d1, fun e => (vi_ne q (by omega)).elim, rfl⟩)⟩
    have b1 := fmod_lt (a := d) (b := 6) (by decide)
    exact ⟨_, rfl, .inl ⟨_, rfl, _, _, rfl, rfl, nz rfl, _, rfl, b1.1, by omega, fun _ => b1.2, rfl⟩⟩
  rintro σ' H' ⟨kd, rfl, k0, k1, k6, rfl⟩
  refine ⟨_, rfl, rfl, _, rfl, ite2 (fun q => ?_) (fun q0 => ?_)⟩
  · exact ⟨_, rfl, wl, 120, rfl, D1.well, by decide, by decide, fun e H2 e0 e1 D2 => ⟨_, _, rfl, rfl, k _ (.int (e - 20)) H2 (D1.trans D2) (.int _) (bd_int (by omega))⟩⟩
  refine ⟨_, rfl, rfl, _, rfl, ite2 (fun q => ?_) (fun q1 => ?_)⟩
  · exact ⟨1, rfl, _, rfl, wl, rfl, D1.well, fun e H2 e0 e1 D2 => ⟨_, _, rfl, rfl, k _ (.int (-1 - e)) H2 (D1.trans D2) (.int _) (bd_int (by omega))⟩⟩
  refine ⟨_, rfl, rfl, _, rfl, ite2 (fun q => ?_) (fun q2 => ?_)⟩
  · exact ⟨_, rfl, wl, 2, rfl, D1.well, by decide, by decide, fun e H2 e0 e1 D2 => ⟨rfl, k _ (.bl _) H2 (D1.trans D2) (.bl _) bd_bl⟩⟩
  refine ⟨_, rfl, rfl, _, rfl, ite2 (fun q => ?_) (fun q3 => ?_)⟩
  · exact k _ .non H' D1 .non bd_non
  refine ⟨_, rfl, rfl, _, rfl, ite2 (fun q => ?_) (fun q4 => ?_)⟩
  · exact ⟨_, rfl, _, rfl, wl, 11, rfl, D1.well, by decide, by decide, fun e H2 e0 e1 D2 => ⟨wl, e, rfl, D2.well, by omega, by omega, fun z H3 hz lz D3 => k (.str z) (.str z) H3 ((D1.trans D2).trans D3) (.str z) (bd_str (by omega) (fun c hc => .inl (lz c hc)))⟩⟩
  refine ⟨_, rfl, rfl, _, rfl, ite2 (fun q => ?_) (fun q5 => ?_)⟩
  · refine ⟨_, rfl, wl, rfl, D1.well, fun z H2 hz lz D2 => ⟨sz_of (show (4 : Nat) ≤ 100000 by decide), fun p hp => ⟨_, rfl, wl, 4, rfl, D2.well.same (same_upd hp), by decide, by decide, fun e H3 e0 e1 D3 => ?_⟩⟩⟩
    have hp3 := D3.keep p _ (D2.well.ne hp).1 upd_same
    have go : ∀ (i : Nat) (y : Str), e = (i : Int) → ([V.str "", .str "\n", .str "A", .str "0"] : List V)[i]? = some (.str y) → y.length ≤ 1 → (∀ c ∈ TL.tl y, okS c = true ∨ c = 10) → rIxL K (.ref p) (.int e) H3 fun v H' => ∃ i j : Str, V.str z = .str i ∧ v = .str j ∧ i.length + j.length ≤ sizeLine ∧ Q (.str (i ++ j)) H' := fun i y ei hv hl hc => by
      refine ⟨p, _, e, .str y, rfl, rfl, SqL.of hp3, by rw [ei]; exact atI_nat hv, z, y, rfl, rfl, len_fine (by omega), k _ (.str (z ++ y)) H3 (((D1.trans D2).same (same_upd hp)).trans D3) (.str _) (bd_str ?_ ?_)⟩
      · rw [TL.len_tl, TL.tl_append, List.length_append, ← TL.len_tl, ← TL.len_tl]
        omega
      · intro c hc2
        rw [TL.tl_append] at hc2
        rcases List.mem_append.mp hc2 with h | h
        · exact .inl (lz c h)
        · exact hc c h
    have he : e = 0 ∨ e = 1 ∨ e = 2 ∨ e = 3 := by omega
    rcases he with h | h | h | h
    · exact go 0 "" h rfl (by decide) (by decide +kernel)
    · exact go 1 "\n" h rfl (by decide) (by decide +kernel)
    · exact go 2 "A" h rfl (by decide) (by decide +kernel)
    · exact go 3 "0" h rfl (by decide) (by decide +kernel)
  have n0 : n ≠ 0 := fun e => by
    have := k6 e
    have := vi_ne q0
    have := vi_ne q1
    have := vi_ne q2
    have := vi_ne q3
    have := vi_ne q4
    have := vi_ne q5
    omega
  obtain ⟨m, rfl⟩ : ∃ m, n = m + 1 := ⟨n - 1, by omega⟩
  refine ⟨fun σ' H2 => ∃ (D' : Addr) (vs : List V) (us : List U) (x3 : Option V), σ' = [some (.ref wl.w), some (.int ((m + 1 : Nat) : Int)), some (.int kd), x3, some (.ref D')] ∧ H D' = none ∧ D' ≠ wl.w ∧ H2 D' = some (.lst vs) ∧ AtL wl.w C (fresh H H2) vs us ∧ BdL us (3 * (Wn m + 2)) (3 * m + 3) 0 ∧ Drawn wl H H2, ?_, ?_⟩
  · refine ⟨_, rfl, wl, 4, rfl, D1.well, by decide, by decide, fun c H2 c0 c1 D2 => ⟨c, rfl, by omega, by omega, fun D' hD => ?_⟩⟩
    have nD := (D2.well.ne hD).1
    refine lc_range (lo := 0) (n := c.toNat) (fun i H3 => Drawn wl H2 H3 ∧ ∃ (vs : List V) (us : List U), H3 D' = some (.lst vs) ∧ vs.length = i ∧ AtL wl.w C (fresh (upd H2 D' (.lst [])) H3) vs us ∧ BdL us (i * (Wn m + 2)) (3 * m + 3) 0)
      ⟨(Drawn.refl D2.well).new hD, [], [], upd_same, rfl, .nil, ⟨by simp [wtL], by simp [depL], trivial⟩⟩ ?_ ?_
    · rintro i H3 hi ⟨D3, vs, us, hL, hl, ha, hb⟩
      refine ⟨rfl, _, rfl, _, rfl, _, _, rfl, rfl, wl, ?_, D3.well, fun v u H4 D4 hv bv => ⟨vs, D4.keep D' _ nD hL, ?_, (D3.trans D4).put D2.well hD, vs ++ [v], us ++ [u], upd_same, ?_, fr_step D2.well hD D3 hL ha D4 hv, ?_⟩⟩
      · show [V.ref wl.w, .int (((m + 1 : Nat) : Int) - 1)] = [.ref wl.w, .int (m : Int)]
        rw [show ((m + 1 : Nat) : Int) - 1 = (m : Int) by omega]
      · have := bit_line
        unfold bit at this
        omega
      · rw [List.length_append, hl]
        rfl
      · have := hb.snoc bv
        rw [show (i + 1) * (Wn m + 2) = i * (Wn m + 2) + (Wn m + 2) by rw [Nat.add_mul, Nat.one_mul]]
        exact this
    · rintro H3 ⟨D3, vs, us, hL, hl, ha, hb⟩
      refine ⟨D', vs, us, _, rfl, (D1.trans D2).free W hD, nD, hL, fr_lift W (D1.trans D2) hD ha, ⟨Nat.le_trans hb.w (Nat.mul_le_mul_right _ (by omega)), hb.d, hb.c⟩, (D1.trans D2).trans D3⟩
  rintro σ' H2 ⟨D', vs, us, x3, rfl, hD, nD, hL, ha, hb, D2⟩
  refine ⟨_, rfl, _, _, rfl, rfl, _, rfl, ite2 (fun q => ?_) (fun q8 => ?_)⟩
  · refine ⟨_, rfl, D', vs, rfl, .inl ⟨SqL.of hL, newT (us := us) fun p H5 hp e5 tu => k _ (.tup us) _ (D2.same e5) (.tup (xs := vs) ?_ (D2.well.ne hp).1 (fr_same ha e5)) ?_⟩⟩
    · exact tu_fresh (D2.free W hp) tu
    · exact ⟨by have := hb.w; simp only [wt, Wn]; omega, by have := hb.d; simp only [dep]; omega, by simpa only [tidy] using hb.c⟩
  refine ⟨_, rfl, rfl, _, rfl, ite2 (fun q => ?_) (fun q9 => ?_)⟩
  · refine ⟨_, rfl, k _ (.lst us) _ D2 (.lst (xs := vs) ?_ nD ha) ?_⟩
    · rw [fr_get hD, hL]
    · exact ⟨by have := hb.w; simp only [wt, Wn]; omega, by have := hb.d; simp only [dep]; omega, by simpa only [tidy] using hb.c⟩
  refine ⟨_, rfl, rfl, _, rfl, ite2 (fun q => ?_) (fun q10 => ?_)⟩
  · refine fun p hp => ⟨_, rfl, upd_same, [(.inr "a", .ref D'), (.inl 1, .non)], rfl, (show (2 : Nat) ≤ 15 by decide), ?_⟩
    rw [upd_upd]
    have np : D' ≠ p := fun e => by rw [← e, hL] at hp; cases hp
    refine k _ (.dct us) _ (D2.new hp) (.dct (b := D') (xs := vs) ?_ (D2.well.ne hp).1 ?_ nD (fr_same ha (same_upd hp))) ?_
    · rw [fr_get (D2.free W hp), upd_same]
      rfl
    · rw [fr_get hD, upd_ne np, hL]
    · exact ⟨by have := hb.w; simp only [wt, Wn]; omega, by have := hb.d; simp only [dep]; omega, by simpa only [tidy] using hb.c⟩
  · refine fun a t hna hnt nat => ?_
    have na2 : upd H2 t (.tup []) a = none := by
      rw [upd_ne nat]
      exact hna
    refine k _ .exc _ ((D2.new hnt).new na2) (.exc (t := t) ?_ (D2.well.ne hna).1 ?_ (D2.well.ne hnt).1) bd_exc
    · rw [fr_get (D2.free W hna), upd_same]
    · rw [fr_get (D2.free W hnt), upd_ne nat.symm, upd_same]
/-- the same, at every depth -/
theorem ok_anys {f fN fT fM : Addr} {fd dN dT dM : FuncData} (DA : Df K mg "_law_any" lAny ["well", "deep"] f fd) (S : Bs K mg C) (D : Dd P wd K mg base fD dD) (DN : Df K mg "_law_number" lNumber ["well"] fN dN) (DM : Df K mg "_law_name" lName ["well"] fM dM)
    (DT : Df K mg "_law_string" sString ["well", "many"] fT dT) (GT : FnOk P wd K mg base CX0 4 fT dT ["well", "many"] spString) : ∀ n : Nat, FnOk P wd K mg base CX0 (4 + n + 1) f fd ["well", "deep"] (spAny C n)
  | 0 => ok_any DA S D DN DM DT GT 0 ⟨fun _ _ _ _ h => h.elim, fun _ _ _ _ _ _ _ _ _ _ _ _ _ h => h.elim⟩
  | n + 1 => ok_any DA S D DN DM DT GT (n + 1) (ok_anys DA S D DN DM DT GT n)
end
end Hs
namespace Hu
open PySem
mutual
def nod : U → Nat
  | .tup us => 1 + nodL us
  | _ => 1
def nodL : List U → Nat
  | [] => 0
  | u :: us => nod u + nodL us
end
theorem nodL_sum : ∀ us : List U, (us.map fun u => (nod u : Int)).sum = (nodL us : Int)
  | [] => rfl
  | u :: us => by rw [List.map_cons, List.sum_cons, nodL_sum us, nodL]; omega
theorem nod_pos : ∀ u : U, 1 ≤ nod u := fun u => by cases u <;> simp only [nod] <;> omega
end Hu
namespace Hs
open PySem PySem.Spec PyProof.Rows L2 Hu Evl
theorem dep_mem' : ∀ {us : List U} {u : U}, u ∈ us → dep u ≤ depL us
  | _ :: us, _, .head _ => by simp only [depL]; omega
  | _ :: us, _, .tail _ h => by have := dep_mem' h; simp only [depL]; omega
mutual
theorem nod_wt : ∀ u : U, nod u ≤ wt u
  | .non => by simp [nod, wt]
  | .bl b => by simp [nod, wt]
  | .int i => by simp [nod, wt]
  | .str z => by simp only [nod, wt]; omega
  | .tup us => by have := nodL_wt us; simp only [nod, wt]; omega
  | .lst us => by simp only [nod, wt]; omega
  | .dct us => by simp only [nod, wt]; omega
  | .exc => by simp [nod, wt]
theorem nodL_wt : ∀ us : List U, nodL us ≤ wtL us
  | [] => Nat.le_refl _
  | u :: us => by have := nod_wt u; have := nodL_wt us; simp only [nodL, wtL]; omega
end
section
variable {P : Program} {wd : World} {K : PySem.W.Frag} {mg : Str → Option Value} {base : Heap} {C : Addr}
theorem boot_sum' : bootBuiltins "sum" = some (.builtin "sum") := by decide +kernel
/-- sum([f(x) for x in a tuple]) -/
theorem ev_sumT {w : Addr} {σ : L2.St} {H : Hp} {tl te : TE} {a : Addr} {xs : List V} {us : List U} {j : Nat} {vs : List Nat} {g : U → Int} (h : Ev tl σ H (.ref a)) (hx : Tu H a xs us) (hz : us.length ≤ 500000) (hl : AtL w C H xs us) (hw : ∀ x, wipe ((wipe σ vs).set j (some x)) vs = wipe σ vs)
    (he : ∀ (x : V) (u : U), u ∈ us → At w C H x u → Ev te ((wipe σ vs).set j (some x)) H (.int (g u))) :
    Ev (tCB (rSum K) (tCons (tLc (iTup K tl) (gName j) tYes te vs) tNil)) σ H (.int (us.map g).sum) := fun H0 e Q q => h H0 e _ fun H1 e1 => ⟨a, rfl, ⟨xs, Tu.st (Tu.ex (e.trans e1) hx)⟩, fun Dl hD =>
  lc_tup (xs := xs) (fun i H' => Ex H1 H' ∧ H' Dl = some (.lst ((us.take i).map fun u => V.int (g u)))) ⟨Ex.new hD, upd_same⟩ (fun i H' _ p => Tu.st (Tu.ex ((e.trans e1).trans p.1) hx)) (fun i x H2 hi p => by
    obtain ⟨p1, p2⟩ := p
    have hlen := AtL.length hl
    have hu : i < us.length := by
      have := (List.getElem?_eq_some_iff.mp hi).1
      omega
    obtain ⟨x', hx', hax⟩ := AtL.get hl (List.getElem?_eq_getElem hu)
    rw [hi] at hx'
    cases hx'
    refine ⟨hw x, he x us[i] (List.getElem_mem hu) hax H2 ((e.trans e1).trans p1) _ fun H3 e3 => ⟨_, e3 _ _ p2, ?_, fun q o hq => ?_, ?_⟩⟩
    · rw [List.length_map, List.length_take]
      have := bit_line
      unfold bit at this
      omega
    · rw [upd_ne (ne_of_none hq hD)]
      exact e3 _ _ (p1 _ _ hq)
    · rw [upd_same, List.take_add_one, List.getElem?_eq_getElem hu, List.map_append]
      rfl) (fun H' p => ⟨Dl, us.map g, rfl, sq_of (by
        rw [p.2, AtL.length hl, List.take_length, List.map_map]
        rfl), q _ (e1.trans p.1)⟩)⟩
def spNodes (C : Addr) (n : Nat) : Sp := fun vs H Q _ => ∃ (v : V) (u : U) (w : Addr), vs = [v] ∧ At w C H v u ∧ Fine u ∧ dep u < n ∧ ∀ H', Same H H' → Q (.int (nod u : Int)) H'
theorem scNodes : FnScope ["thing", "item"] ["thing"] (defScope lNodes) := ⟨rfl, rfl, rfl, by decide +kernel, rfl, by decide +kernel, by decide +kernel⟩
theorem ok_nodes {f : Addr} {fd : FuncData} (DN : Df K mg "_law_nodes" lNodes ["thing"] f fd) (S : Bs K mg C) : ∀ n : Nat, FnOk P wd K mg base CX0 n f fd ["thing"] (spNodes C n)
  | 0 => ⟨fun _ _ _ _ ⟨_, _, _, e, _⟩ => by rw [e]; rfl, fun _ _ _ _ _ _ _ _ _ _ _ _ _ ⟨_, _, _, _, _, _, h, _⟩ => absurd h (Nat.not_lt_zero _)⟩
  | n + 1 => by
    have G := ok_nodes DN S n
    refine DN.F.ok scNodes (fun vs H Q E h => ?_) (fun cdv A outer s H vs Q E hr h => ?_)
    · obtain ⟨v, u, w, rfl, _⟩ := h
      rfl
    obtain ⟨v, u, w, rfl, hat, fi, hd, k⟩ := h
    refine ⟨_, pss_cons (ps_if (pt_val (pe_isiX S (by rfl) (by rfl) S.B.tup boot_tuple' (by decide) (pv 0) (by decide) (by decide)))
        (pss_one (ps_ret (pe_op op_add pe_int (pe_callB (cr_sum rfl) (by rfl) S.B.sum boot_sum' (pa_cons (pe_lc (own := [("item", 1)]) (g := gName 1) (tt := tYes) rfl scNodes.nd (pi_tup (pv 0)) (blkOk_by (N := ["thing", "item"]) (sc := defScope lNodes) (by decide +kernel))
          (fun _ _ _ _ _ => pg_name (i := 1) scNodes.nd rfl (Or.inl rfl)) (fun _ _ _ _ _ => pts_nil) (fun _ _ _ _ _ => pe_call G hr (by rfl) DN.g DN.F.kp DN.b .nil pass0 (pa_cons (pv 1) pa_nil))) pa_nil))))) pss_nil)
      (pss_one (ps_ret pe_int)), ?_⟩
    refine s_if (et_B (ev_isi (ev_var rfl) hat)) (fun q H1 e => ?_) (fun q H1 e => ?_)
    · obtain ⟨us, rfl⟩ := isT_tup q
      obtain ⟨a, xs, rfl, ha, _, hl⟩ := at_tup (ex_at e hat)
      simp only [dep] at hd
      refine s_ret (ev_op ev_c (ev_sumT (g := fun u => (nod u : Int)) (ev_var rfl) ha fi.len hl (fun _ => rfl) fun x u hu hx => ev_call (ea_cons (ev_var rfl) ea_nil) fun H2 e2 Q q E => ⟨x, u, w, rfl, ex_at e2 hx, fi.tup u hu, by have := dep_mem' hu; omega, q⟩) rv_I0) fun H2 e2 => ?_
      have := k H2 (e.trans e2)
      rw [nodL_sum]
      simp only [nod] at this
      rw [show (((1 + nodL us : Nat)) : Int) = 1 + (nodL us : Int) by omega] at this
      exact this
    · have := k H1 e
      cases u with
      | tup us => cases q
      | _ => exact this
end
end Hs
/-! one step of change -/
namespace Hs
open PySem PySem.Spec PyProof.Rows L2 Hu Evl
section
variable {K : PySem.W.Frag} {w C : Addr} {σ : L2.St} {H H' : Hp} {ta : TA} {te tb tc : TE} {R R' : U → Prop} {v : V} {u : U} {n i : Nat} {us : List U} {xs : List V}
def EvB (w C : Addr) (te : TE) (σ : L2.St) (H : Hp) (R : U → Prop) : Prop := ∀ H1, Ex H H1 → ∀ Q : VK, (∀ v u H2, Ex H1 H2 → At w C H2 v u → R u → Q v H2) → te σ H1 Q
def EvBs (w C : Addr) (ta : TA) (σ : L2.St) (H : Hp) (n : Nat) (R : U → Prop) : Prop := ∀ H1, Ex H H1 → ∀ Q : List V → Hp → Prop, (∀ vs us H2, Ex H1 H2 → AtL w C H2 vs us → us.length = n → (∀ u ∈ us, R u) → Q vs H2) → ta σ H1 Q
theorem eb_ev (h : Ev te σ H v) (hat : At w C H v u) (r : R u) : EvB w C te σ H R := fun H1 e Q q => h H1 e Q fun H2 e2 => q v u H2 e2 (ex_at (e.trans e2) hat) r
theorem eb_mono (h : EvB w C te σ H R) (r : ∀ u, R u → R' u) : EvB w C te σ H R' := fun H1 e Q q => h H1 e Q fun v u H2 e2 a ru => q v u H2 e2 a (r u ru)
theorem eb_lift (e : Ex H H') (h : EvB w C te σ H R) : EvB w C te σ H' R := fun H1 e1 Q q => h H1 (e.trans e1) Q q
theorem ebs_lift (e : Ex H H') (h : EvBs w C ta σ H n R) : EvBs w C ta σ H' n R := fun H1 e1 Q q => h H1 (e.trans e1) Q q
theorem ebs_nil : EvBs w C tNil σ H 0 R := fun H1 e Q q => q [] [] H1 (Ex.refl H1) .nil rfl fun u hu => by cases hu
theorem ebs_cons (h : EvB w C te σ H R) (hr : EvBs w C ta σ H n R) : EvBs w C (tCons te ta) σ H (n + 1) R := fun H1 e Q q =>
  h H1 e _ fun v u H2 e2 a ru => hr H2 (e.trans e2) _ fun vs us H3 e3 l hl rs => q _ (u :: us) H3 (e2.trans e3) (.cons (ex_at e3 a) l) (by rw [List.length_cons, hl]) fun y hy => by
    rcases List.mem_cons.mp hy with rfl | hy
    · exact ru
    · exact rs y hy
theorem eb_tup (hw : ∃ o, H w = some o) (h : EvBs w C ta σ H n R) (hn : n ≤ 100000) (r : ∀ us, us.length = n → (∀ u ∈ us, R u) → R' (.tup us)) : EvB w C (tTupF ta) σ H R' := fun H1 e Q q =>
  h H1 e _ fun vs us H2 e2 l hl rs => ⟨sz_of (by rw [AtL.length l, hl]; exact hn), newT_data (hw.imp fun o z => (e.trans e2) _ _ z) l fun v H3 e3 a => q v (.tup us) H3 (e2.trans e3) a (r us hl rs)⟩
theorem eb_lst (hw : ∃ o, H w = some o) (h : EvBs w C ta σ H n R) (hn : n ≤ 100000) (r : ∀ us, us.length = n → (∀ u ∈ us, R u) → R' (.lst us)) : EvB w C (tLst ta) σ H R' := fun H1 e Q q =>
  h H1 e _ fun vs us H2 e2 l hl rs => ⟨sz_of (by rw [AtL.length l, hl]; exact hn), fun p hp => q _ (.lst us) _ (e2.trans (Ex.new hp)) (.lst upd_same (fun ep => by
    obtain ⟨o, ho⟩ := hw
    rw [ep, (e.trans e2) _ _ ho] at hp
    cases hp) (ex_atl (Ex.new hp) l)) (r us hl rs)⟩
theorem atl_pick (l : AtL w C H xs us) (hi : i < us.length) : ∃ v, xs[i]? = some v ∧ At w C H v us[i] := AtL.get l (List.getElem?_eq_getElem hi)
theorem eb_pick (h : EvBs w C ta σ H n R) (hn : n ≤ 100000) (hb : Ev tb σ H (.int (i : Int))) (hi : i < n) : EvB w C (tOp (rIxL K) (tLst ta) tb) σ H R := fun H1 e Q q =>
  h H1 e _ fun vs us H2 e2 l hl rs => ⟨sz_of (by rw [AtL.length l, hl]; exact hn), fun p hp => hb _ ((e.trans e2).trans (Ex.new hp)) _ fun H3 e3 => by
    have l2 : us.length = n := hl
    have hi2 : i < us.length := by omega
    obtain ⟨x, hx, hat⟩ := atl_pick l hi2
    exact ⟨p, vs, _, x, rfl, rfl, sq_of (e3 _ _ upd_same), atI_nat hx, q x us[i] H3 ((e2.trans (Ex.new hp)).trans e3) (ex_at ((Ex.new hp).trans e3) hat) (rs _ (List.getElem_mem hi2))⟩⟩
/-- a tuple of bounded items -/
def Part (m d b l : Nat) (u : U) : Prop := ∃ us, u = .tup us ∧ BdL us m d b ∧ us.length ≤ l
theorem cutV_at {lo hi : Option Int} (l : AtL w C H xs us) : ∃ us', AtL w C H (cutV xs lo hi) us' ∧ ∃ i j, us' = (us.drop i).take j := ⟨_, AtL.take _ (AtL.drop _ l), _, _, rfl⟩
theorem eb_slice {a : Addr} {tl th : TO} {lo hi : Option Int} {m d b : Nat} (hw : ∃ o, H w = some o) (h : Ev te σ H (.ref a)) (hx : Tu H a xs us) (na : a ≠ w) (l : AtL w C H xs us) (h1 : EvO tl σ H lo) (h2 : EvO th σ H hi) (bd : BdL us m d b) : EvB w C (tSl (rSlF K) te tl th) σ H (Part m d b us.length) := fun H1 e Q q =>
  h H1 e _ fun H2 e2 => h1 H2 (e.trans e2) _ fun H3 e3 => h2 H3 ((e.trans e2).trans e3) _ fun H4 e4 => by
    have e5 := ((e.trans e2).trans e3).trans e4
    obtain ⟨us', l', i, j, rfl⟩ := cutV_at (lo := lo) (hi := hi) l
    refine ⟨a, xs, rfl, Tu.st (Tu.ex e5 hx), fun _ => q _ (.tup us) H4 ((e2.trans e3).trans e4) (.tup (Tu.ex e5 hx) na (ex_atl e5 l)) ⟨us, rfl, bd, Nat.le_refl _⟩, fun _ => newT_data (hw.imp fun o z => e5 _ _ z) (ex_atl e5 l') fun v H5 e6 a6 => q v _ H5 (((e2.trans e3).trans e4).trans e6) a6 ⟨_, rfl, (bd.drop i).take j, ?_⟩⟩
    rw [List.length_take, List.length_drop]
    omega
theorem eb_cat {m1 m2 d b l1 l2 : Nat} (hw : ∃ o, H w = some o) (h1 : EvB w C tb σ H (Part m1 d b l1)) (h2 : EvB w C tc σ H (Part m2 d b l2)) (hl : l1 + l2 ≤ 1000000) : EvB w C (tOp (rCatF K) tb tc) σ H (Part (m1 + m2) d b (l1 + l2)) := fun H1 e Q q =>
  h1 H1 e _ fun v1 u1 H2 e2 a1 ⟨us1, eu1, b1, c1⟩ => h2 H2 (e.trans e2) _ fun v2 u2 H3 e3 a2 ⟨us2, eu2, b2, c2⟩ => by
    subst eu1 eu2
    obtain ⟨p1, x1, rfl, g1, n1, t1⟩ := at_tup (ex_at e3 a1)
    obtain ⟨p2, x2, rfl, g2, n2, t2⟩ := at_tup a2
    have k1 := AtL.length t1
    have k2 := AtL.length t2
    refine ⟨p1, p2, x1, x2, rfl, rfl, Tu.st g1, Tu.st g2, len_fine (by omega), fun z => ?_, fun _ z => ?_, fun _ _ => newT_data (hw.imp fun o z => ((e.trans e2).trans e3) _ _ z) (AtL.append t1 t2) fun v H5 e6 a6 => ?_⟩
    · exact q _ (.tup us2) H3 (e2.trans e3) a2 ⟨us2, rfl, b2.mono (by omega) (Nat.le_refl _) (Nat.le_refl _), by omega⟩
    · exact q _ (.tup us1) H3 (e2.trans e3) (ex_at e3 a1) ⟨us1, rfl, b1.mono (by omega) (Nat.le_refl _) (Nat.le_refl _), by omega⟩
    · exact q v (.tup (us1 ++ us2)) H5 ((e2.trans e3).trans e6) a6 ⟨_, rfl, b1.append b2, by rw [List.length_append]; omega⟩
/-! texts -/
abbrev rAddZ : R2 := fun x y H Q => ∃ i j : Str, x = .str i ∧ y = .str j ∧ i.length + j.length ≤ sizeLine ∧ Q (.str (i ++ j)) H
theorem rv_addZ {a b : Str} (h : a.length + b.length ≤ 1000000) : RV rAddZ (.str a) (.str b) H (.str (a ++ b)) := fun H1 _ Q q => ⟨a, b, rfl, rfl, len_fine h, q H1 (Ex.refl H1)⟩
def lined (z : Str) : Prop := ∀ c ∈ TL.tl z, okS c = true ∨ c = 10
theorem lined_add {a b : Str} (h : lined a) (q : lined b) : lined (a ++ b) := fun c hc => by
  rw [TL.tl_append] at hc
  rcases List.mem_append.mp hc with z | z
  · exact h c z
  · exact q c z
theorem len_add {a b : Str} : (a ++ b).length = a.length + b.length := by rw [TL.len_tl, TL.tl_append, List.length_append, ← TL.len_tl, ← TL.len_tl]
theorem lined_cut {z : Str} {lo hi : Option Int} (h : lined z) : lined (cutS z lo hi) := fun c hc => h c (List.mem_of_mem_drop (List.mem_of_mem_take hc))
theorem len_cut {z : Str} {lo hi : Option Int} : (cutS z lo hi).length ≤ z.length := by
  have h1 : (TL.tl (cutS z lo hi)).length ≤ (TL.tl z).length := by
    show ((z.cps.toList.drop _).take _).length ≤ z.cps.toList.length
    rw [List.length_take, List.length_drop]
    omega
  rw [TL.len_tl, TL.len_tl]
  exact h1
def upc (c : Nat) : Nat := if 97 ≤ c ∧ c ≤ 122 then c - 32 else c
theorem upc_ok {c : Nat} (h : okS c = true ∨ c = 10) : okS (upc c) = true ∨ upc c = 10 := by
  have key : ∀ c < 128, okS c = true → okS (upc c) = true := by decide +kernel
  rcases h with h | rfl
  · refine .inl (key c ?_ h)
    unfold okS okc at h
    simp only [Bool.and_eq_true, decide_eq_true_eq] at h
    omega
  · exact .inr rfl
theorem upper_tl (l : List Nat) (h : ∀ c ∈ l, c < 128) : TL.tl (Txt.upper ⟨l.toArray⟩) = l.map upc := by
  induction l with
  | nil =>
    have : TL.tl (Txt.upper (⟨#[]⟩ : Str)) = [] := by decide +kernel
    exact this
  | cons c l ih =>
    have e : (⟨(c :: l).toArray⟩ : Str) = (⟨#[c]⟩ : Str) ++ ⟨l.toArray⟩ := by
      apply TL.ext_tl
      rw [TL.tl_append]
      rfl
    rw [e, PySem.W.KOpn.upper_app, TL.tl_append, PySem.W.KOpn.upper_one (h c List.mem_cons_self), ih fun b hb => h b (List.mem_cons_of_mem _ hb)]
    rfl
theorem lined_lt {z : Str} (h : lined z) : ∀ c ∈ z.cps.toList, c < 128 := fun c hc => by
  rcases h c hc with q | q
  · unfold okS okc at q
    simp only [Bool.and_eq_true, decide_eq_true_eq] at q
    omega
  · omega
theorem upper_is {z : Str} (h : lined z) : TL.tl (Txt.upper z) = (TL.tl z).map upc := upper_tl z.cps.toList (lined_lt h)
theorem lined_upper {z : Str} (h : lined z) : lined (Txt.upper z) := fun c hc => by
  rw [upper_is h] at hc
  obtain ⟨b, hb, rfl⟩ := List.mem_map.mp hc
  exact upc_ok (h b hb)
theorem len_upper' {z : Str} (h : lined z) : (Txt.upper z).length = z.length := by
  rw [TL.len_tl, upper_is h, List.length_map, ← TL.len_tl]
end
end Hs
namespace Hs
open PySem PySem.Spec PyProof.Rows L2 Hu Evl
section
variable {P : Program} {wd : World} {K : PySem.W.Frag} {mg : Str → Option Value} {base : Heap} {C : Addr} {fD : Addr} {dD : FuncData}
def spChanged (C : Addr) : Sp := fun vs H Q _ => ∃ (wl : WA) (v : V) (u : U) (m d b : Nat), vs = [v, .ref wl.w] ∧ Well H wl ∧ At wl.w C H v u ∧ Bd u m d b ∧ m ≤ 100000 ∧ b ≤ 20 ∧
  ∀ (v' : V) (u' : U) (H' : Hp), Drawn wl H H' → At wl.w C H' v' u' → Bd u' (2 * m + 400) (d + 6) (b + 1) → Q v' H'
theorem scLChanged : FnScope ["thing", "well", "kind", "turned"] ["thing", "well"] (defScope lChanged) := ⟨rfl, rfl, rfl, by decide +kernel, rfl, by decide +kernel, by decide +kernel⟩
theorem bu_int {i : Int} {m d b : Nat} (h : i.natAbs < 2 ^ 64 + b) : Bd (.int i) (2 * m + 400) d b := ⟨by simp only [wt]; omega, Nat.zero_le _, by simpa only [tidy] using h⟩
theorem bu_bl {x : Bool} {m d b : Nat} : Bd (.bl x) (2 * m + 400) d b := ⟨by simp only [wt]; omega, Nat.zero_le _, trivial⟩
theorem bu_non {m d b : Nat} : Bd .non (2 * m + 400) d b := ⟨by simp only [wt]; omega, Nat.zero_le _, trivial⟩
theorem bu_str {z : Str} {m d b : Nat} (h : 2 * z.length ≤ 2 * m + 398) (hc : lined z) : Bd (.str z) (2 * m + 400) d b := ⟨by simp only [wt]; omega, Nat.zero_le _, by simp only [tidy]; exact hc⟩
theorem bd_str_of {z : Str} {m d b : Nat} (h : Bd (.str z) m d b) : 2 * z.length + 2 ≤ m ∧ lined z := ⟨by simpa only [wt] using h.w, by have := h.c; simp only [tidy] at this; exact this⟩
theorem bd_tup_of {us : List U} {m d b : Nat} (h : Bd (.tup us) m d b) : BdL us (m - 3) (d - 1) b ∧ 3 ≤ m ∧ 1 ≤ d := by
  have h1 := h.w
  have h2 := h.d
  simp only [wt] at h1
  simp only [dep] at h2
  exact ⟨⟨by omega, by omega, by simpa only [tidy] using h.c⟩, by omega, by omega⟩
theorem part_bd {m d b l m' d' b' : Nat} {u : U} (h : Part m d b l u) (hm : m + 3 ≤ m') (hd : d + 1 ≤ d') (hb : b ≤ b') : Bd u m' d' b' := by
  obtain ⟨us, rfl, q, _⟩ := h
  exact (Bd.tup q).mono hm hd hb
theorem bdl_all {m d b : Nat} : ∀ {us : List U}, (∀ u ∈ us, Bd u m d b) → BdL us (us.length * (m + 2)) d b
  | [], _ => ⟨by simp [wtL], by simp [depL], trivial⟩
  | u :: us, h => by
    have q := (BdL.one (h u List.mem_cons_self)).append (bdl_all fun y hy => h y (List.mem_cons_of_mem _ hy))
    rw [List.length_cons, Nat.add_mul, Nat.one_mul, Nat.add_comm (us.length * _)]
    exact q
theorem r_tup {n m0 d0 b0 M D B : Nat} {us : List U} (hl : us.length = n) (h : ∀ u ∈ us, Bd u m0 d0 b0) (hm : n * (m0 + 2) + 3 ≤ M) (hd : d0 + 1 ≤ D) (hb : b0 ≤ B) : Bd (.tup us) M D B := (Bd.tup (bdl_all h)).mono (by rw [hl]; exact hm) hd hb
theorem r_lst {n m0 d0 b0 M D B : Nat} {us : List U} (hl : us.length = n) (h : ∀ u ∈ us, Bd u m0 d0 b0) (hm : n * (m0 + 2) + 3 ≤ M) (hd : d0 + 1 ≤ D) (hb : b0 ≤ B) : Bd (.lst us) M D B := (Bd.lst (bdl_all h)).mono (by rw [hl]; exact hm) hd hb
theorem ev_slS {σ : L2.St} {H : Hp} {te : TE} {tl th : TO} {z : Str} {lo hi : Option Int} (h : Ev te σ H (.str z)) (h1 : EvO tl σ H lo) (h2 : EvO th σ H hi) (hz : z.length ≤ 1000000) : Ev (tSl rSlS te tl th) σ H (.str (cutS z lo hi)) := fun H1 e Q q =>
  h H1 e _ fun H2 e2 => h1 H2 (e.trans e2) _ fun H3 e3 => h2 H3 ((e.trans e2).trans e3) _ fun H4 e4 => ⟨z, rfl, len_fine hz, q H4 ((e2.trans e3).trans e4)⟩
theorem ev_upper {σ : L2.St} {H : Hp} {te : TE} {z : Str} (h : Ev te σ H (.str z)) (hz : z.length ≤ 1000000) : Ev (tM0 (fun x xs H Q => ∃ a : Str, x = .str a ∧ xs = [] ∧ a.length ≤ 5592405 ∧ Q (.str (Txt.upper a)) H) te) σ H (.str (Txt.upper z)) := fun H1 e Q q =>
  h H1 e _ fun H2 e2 => ⟨⟨z, rfl⟩, z, rfl, rfl, by omega, q H2 e2⟩
theorem eb_listT {w : Addr} {σ : L2.St} {H : Hp} {te : TE} {a : Addr} {xs : List V} {us : List U} {R : U → Prop} (hw : ∃ o, H w = some o) (h : Ev te σ H (.ref a)) (hx : Tu H a xs us) (l : AtL w C H xs us) (r : R (.lst us)) :
    EvB w C (tCB (fun xs H Q => ∃ p ys, xs = [.ref p] ∧ (SqL K H p ys ∨ SqT K H p ys) ∧ ∀ l, H l = none → Q (.ref l) (upd H l (.lst ys))) (tCons te tNil)) σ H R := fun H1 e Q q =>
  h H1 e _ fun H2 e2 => ⟨a, xs, rfl, .inr (Tu.st (Tu.ex (e.trans e2) hx)), fun p hp => q _ (.lst us) _ (e2.trans (Ex.new hp)) (.lst upd_same (fun ep => by
    obtain ⟨o, ho⟩ := hw
    rw [ep, (e.trans e2) _ _ ho] at hp
    cases hp) (ex_atl ((e.trans e2).trans (Ex.new hp)) l)) r⟩
theorem nonT {u : U} (h : (isT u "bool" || isNon u) = false) (q : isT u "int" = true) : ∃ i, u = .int i := by
  cases u with
  | int i => exact ⟨i, rfl⟩
  | bl b => simp [isT, isS, tyU] at h
  | _ => simp [isT, isS, tyU] at q
theorem q_asgBs {w : Addr} {σ : L2.St} {H : Hp} {ta : TA} {n i : Nat} {R : U → Prop} {tz : TS} {D : Ends} (h : EvBs w C ta σ H n R) (hn : n ≤ 100000)
    (k : ∀ vs us p H1, H1 p = none → Ex H H1 → AtL w C H1 vs us → us.length = n → (∀ u ∈ us, R u) → tz D (σ.set i (some (.ref p))) (upd H1 p (.lst vs))) : tSeq (tAsg (tLst ta) (gName i)) tz D σ H :=
  h H (Ex.refl H) _ fun vs us H1 e l hl rs => ⟨sz_of (by rw [AtL.length l, hl]; exact hn), fun p hp => k vs us p H1 hp e l hl rs⟩
set_option maxHeartbeats 1000000 in
theorem ok_lchanged {f fA : Addr} {fd dA : FuncData} (F : Fun K "_law_changed" "_law_changed" lChanged f fd) (S : Bs K mg C) (D : Dd P wd K mg base fD dD) (DA : Df K mg "_law_any" lAny ["well", "deep"] fA dA) (GA : FnOk P wd K mg base CX0 6 fA dA ["well", "deep"] (spAny C 1)) :
    FnOk P wd K mg base CX0 7 f fd ["thing", "well"] (spChanged C) := by
  refine F.ok scLChanged (fun vs H Q E h => ?_) (fun cdv A outer s H vs Q E hr h => ?_)
  · obtain ⟨wl, v, u, m, d, b, rfl, _⟩ := h
    rfl
  obtain ⟨wl, v, u, m, d, b, rfl, W, hat, bd, hm, hb, k⟩ := h
  refine ⟨_, pss_cons (ps_set (i := 2) scLChanged.nd rfl (.inl rfl) (pe_draw D hr (by decide) (by rfl) (pv 1) pe_int))
    (pss_cons (ps_if (pt_cmpR op_eq (pv 2) pe_int (nomark _)) (pss_one (ps_ret (pe_call GA hr (by rfl) DA.g DA.F.kp DA.b .nil pass0 (pa_cons (pv 1) (pa_cons pe_int pa_nil))))) pss_nil)
    (pss_cons (ps_if (PW.pt (pw_or (pt_val (pe_isiX S (by rfl) (by rfl) S.B.boo boot_bool' (by decide) (pv 0) (by decide) (by decide))) (pw_or1 (pt_cmpR op_isN1 (pv 0) pe_non (nomark _)))))
      (pss_one (ps_ret (pe_ix ix_list (pe_lst (pa_cons pe_int (pa_cons pe_int (pa_cons (pe_tupF pa_nil) (pa_cons pe_str (pa_cons (pe_tupF (pa_cons pe_int (pa_cons pe_int pa_nil))) (pa_cons (pe_lst pa_nil) (pa_cons (pe_tupF (pa_cons pe_non pa_nil)) pa_nil)))))))) (pe_op op_sub (pv 2) pe_int) (fun _ _ => rfl)))) pss_nil)
    (pss_cons (ps_if (pt_val (pe_isiX S (by rfl) (by rfl) S.B.int boot_int' (by decide) (pv 0) (by decide) (by decide)))
      (pss_one (ps_ret (pe_ix ix_list (pe_lst (pa_cons (pe_op op_add (pv 0) pe_int) (pa_cons (pe_op op_sub (pv 0) pe_int) (pa_cons (pe_un un_neg (pv 0)) (pa_cons (pe_cmpR op_ge (pv 0) pe_int (nomark _)) (pa_cons pe_int (pa_cons pe_non (pa_cons (pe_tupF (pa_cons (pv 0) pa_nil)) pa_nil)))))))) (pe_op op_sub (pv 2) pe_int) (fun _ _ => rfl)))) pss_nil)
    (pss_cons (ps_if (pt_val (pe_isiX S (by rfl) (by rfl) S.B.str boot_str (by decide) (pv 0) (by decide) (by decide)))
      (pss_one (ps_ret (pe_ix ix_list (pe_lst (pa_cons (pe_op op_add_str (pv 0) pe_str) (pa_cons (pe_slice sl_str (pv 0) (po_some pe_int) po_none) (pa_cons (pe_upper (pv 0)) (pa_cons (pe_op op_add_str pe_str (pv 0)) (pa_cons pe_str (pa_cons (pe_op op_add_str (pv 0) pe_str) (pa_cons (pe_lst (pa_cons (pv 0) pa_nil)) pa_nil)))))))) (pe_op op_sub (pv 2) pe_int) (fun _ _ => rfl)))) pss_nil)
    (pss_cons (ps_if (pt_val (pe_isiX S (by rfl) (by rfl) S.B.tup boot_tuple' (by decide) (pv 0) (by decide) (by decide)))
      (pss_cons (ps_set (i := 3) scLChanged.nd rfl (.inl rfl) (pe_lst (pa_cons (pe_slice sl_tupF (pv 0) (po_some pe_int) po_none) (pa_cons (pe_slice sl_tupF (pv 0) po_none (po_some (pe_un un_neg pe_int)))
          (pa_cons (pe_op op_catF (pe_slice sl_tupF (pv 0) (po_some pe_int) po_none) (pe_slice sl_tupF (pv 0) po_none (po_some pe_int)))
          (pa_cons (pe_op op_catF (pe_slice sl_tupF (pv 0) po_none (po_some pe_int)) (pv 0)) (pa_cons (pe_op op_catF (pv 0) (pe_tupF (pa_cons pe_non pa_nil)))
          (pa_cons (pe_callTy call_list_of (by rfl) S.B.lst boot_list (pa_cons (pv 0) pa_nil)) (pa_cons pe_non pa_nil)))))))))
        (pss_one (ps_ret (pe_ix ix_list (pv 3) (pe_op op_sub (pv 2) pe_int) (fun _ _ => rfl))))) pss_nil)
    (pss_one (ps_ret (pv 0)))))))), ?_⟩
  refine ⟨_, rfl, wl, 8, rfl, W, by decide, by decide, fun kd H1 d0 d1 D1 => ⟨_, rfl, rfl, _, rfl, ite2 (fun q => ?_) (fun q => ?_)⟩⟩
  · refine ⟨_, rfl, wl, rfl, D1.well, fun v' u' H2 D2 hv bv => k v' u' H2 (D1.trans D2) (at_full hv) (bv.mono ?_ ?_ (Nat.zero_le _))⟩
    · simp only [Wn]
      omega
    · omega
  have q0 := vi_ne q
  obtain ⟨i, rfl⟩ : ∃ i : Nat, kd = (i : Int) + 1 := ⟨(kd - 1).toNat, by omega⟩
  have hi : i < 7 := by omega
  have ix : ∀ {σ : L2.St} {H : Hp}, σ[2]? = some (some (.int ((i : Int) + 1))) → Ev (tOp (rI0 fun i j => .int (i - j)) (tVar 2) (tC (.int 1))) σ H (.int (i : Int)) := fun hs => ev_is (ev_op (ev_var hs) ev_c rv_I0) (by rw [show (i : Int) + 1 - 1 = i by omega])
  have hat1 : At wl.w C H1 v u := hat.keep fun b o nb e => D1.keep b o nb e
  have hw1 := D1.well.at
  have fin : ∀ {H2 : Hp}, Ex H1 H2 → ∀ (v' : V) (u' : U) (H3 : Hp), Ex H2 H3 → At wl.w C H3 v' u' → Bd u' (2 * m + 400) (d + 6) (b + 1) → Q v' H3 := fun e2 v' u' H3 e3 a r => k v' u' H3 (D1.same (e2.trans e3)) a r
  refine s_if (b := isT u "bool" || isNon u) (et_or (et_B (ev_isi (ev_var rfl) hat1)) fun _ => et_test (ev_is (ev_isN (ev_var rfl)) (by rw [at_non hat1]))) (fun q H2 e2 => ?_) (fun qb H2 e2 => ?_)
  · obtain ⟨o, ho⟩ := hw1
    have hw : ∃ o, H2 wl.w = some o := ⟨o, e2 _ _ ho⟩
    have z0 : ∀ {i : Int} {σ : L2.St}, i.natAbs < 100 → EvB wl.w C (tC (.int i)) σ H2 (fun u' => Bd u' 80 0 0) := fun {i σ} h => eb_ev ev_c (.int i) ⟨by simp only [wt]; omega, Nat.zero_le _, by simp only [tidy]; omega⟩
    exact eb_pick (K := K) (n := 7) (R := fun u' => Bd u' (2 * m + 400) (d + 6) (b + 1))
      (ebs_cons (eb_ev ev_c (.int 0) (bu_int (by omega))) (ebs_cons (eb_ev ev_c (.int 1) (bu_int (by omega))) (ebs_cons (eb_tup hw (ebs_nil (R := fun u' => Bd u' 80 0 0)) (by decide) fun us hl h => r_tup hl h (by omega) (by omega) (by omega))
      (ebs_cons (eb_ev ev_c (.str "") (bu_str (by simp only [show (("" : Str)).length = 0 from rfl]; omega) (fun c hc => by cases hc))) (ebs_cons (eb_tup hw (ebs_cons (z0 (by decide)) (ebs_cons (z0 (by decide)) ebs_nil)) (by decide) fun us hl h => r_tup hl h (by omega) (by omega) (by omega))
      (ebs_cons (eb_lst hw (ebs_nil (R := fun u' => Bd u' 80 0 0)) (by decide) fun us hl h => r_lst hl h (by omega) (by omega) (by omega)) (ebs_cons (eb_tup hw (ebs_cons (eb_ev (R := fun u' => Bd u' 80 0 0) ev_c .non ⟨by simp only [wt]; omega, Nat.zero_le _, trivial⟩) ebs_nil) (by decide) fun us hl h => r_tup hl h (by omega) (by omega) (by omega)) ebs_nil)))))))
      (by decide) (ix rfl) hi H2 (Ex.refl H2) _ (fin e2)
  have hat2 := ex_at e2 hat1
  refine s_if (b := isT u "int") (et_B (ev_isi (ev_var rfl) hat2)) (fun q H3 e3 => ?_) (fun qi H3 e3 => ?_)
  · obtain ⟨n, rfl⟩ := nonT qb q
    cases at_int hat2
    have hn : n.natAbs < 2 ^ 64 + b := by
      have := bd.c
      simpa only [tidy] using this
    obtain ⟨o, ho⟩ := hw1
    have hw : ∃ o, H3 wl.w = some o := ⟨o, e3 _ _ (e2 _ _ ho)⟩
    exact eb_pick (K := K) (n := 7) (R := fun u' => Bd u' (2 * m + 400) (d + 6) (b + 1))
      (ebs_cons (eb_ev (ev_op (ev_var rfl) ev_c rv_I0) (.int (n + 1)) (bu_int (by omega))) (ebs_cons (eb_ev (ev_op (ev_var rfl) ev_c rv_I0) (.int (n - 1)) (bu_int (by omega))) (ebs_cons (eb_ev (ev_un (ev_var rfl) ru_neg) (.int (-n)) (bu_int (by omega)))
      (ebs_cons (eb_ev (ev_op (ev_var rfl) ev_c rv_I0) (.bl _) bu_bl) (ebs_cons (eb_ev ev_c (.int 0) (bu_int (by omega))) (ebs_cons (eb_ev ev_c .non bu_non)
      (ebs_cons (eb_tup hw (ebs_cons (eb_ev (R := fun u' => Bd u' m d b) (ev_var rfl) (.int n) bd) ebs_nil) (by decide) fun us hl h => r_tup hl h (by omega) (by omega) (by omega)) ebs_nil)))))))
      (by decide) (ix rfl) hi H3 (Ex.refl H3) _ (fin (e2.trans e3))
  have hat3 := ex_at e3 hat2
  refine s_if (b := isT u "str") (et_B (ev_isi (ev_var rfl) hat3)) (fun q H4 e4 => ?_) (fun qs H4 e4 => ?_)
  · obtain ⟨z, rfl⟩ := isT_str q
    cases at_str hat3
    obtain ⟨hz, lz⟩ := bd_str_of bd
    have hzl : z.length ≤ 1000000 := by omega
    obtain ⟨o, ho⟩ := hw1
    have hw : ∃ o, H4 wl.w = some o := ⟨o, e4 _ _ (e3 _ _ (e2 _ _ ho))⟩
    have la : lined ("a" : Str) := by unfold lined; decide +kernel
    have lb : lined (" " : Str) := by unfold lined; decide +kernel
    have ln : lined ("\n" : Str) := by unfold lined; decide +kernel
    have l1 : (("a" : Str)).length = 1 := by decide +kernel
    have l2 : ((" " : Str)).length = 1 := by decide +kernel
    have l3 : (("\n" : Str)).length = 1 := by decide +kernel
    exact eb_pick (K := K) (n := 7) (R := fun u' => Bd u' (2 * m + 400) (d + 6) (b + 1))
      (ebs_cons (eb_ev (ev_op (ev_var rfl) ev_c (rv_addZ (by omega))) (.str _) (bu_str (by rw [len_add]; omega) (lined_add lz la))) (ebs_cons (eb_ev (ev_slS (ev_var rfl) (eo_some ev_c) eo_none hzl) (.str _) (bu_str (by have := len_cut (z := z) (lo := some 1) (hi := none); omega) (lined_cut lz)))
      (ebs_cons (eb_ev (ev_upper (ev_var rfl) hzl) (.str _) (bu_str (by rw [len_upper' lz]; omega) (lined_upper lz))) (ebs_cons (eb_ev (ev_op ev_c (ev_var rfl) (rv_addZ (by omega))) (.str _) (bu_str (by rw [len_add]; omega) (lined_add lb lz)))
      (ebs_cons (eb_ev ev_c (.str "") (bu_str (by simp only [show (("" : Str)).length = 0 from rfl]; omega) (fun c hc => by cases hc))) (ebs_cons (eb_ev (ev_op (ev_var rfl) ev_c (rv_addZ (by omega))) (.str _) (bu_str (by rw [len_add]; omega) (lined_add lz ln)))
      (ebs_cons (eb_lst hw (ebs_cons (eb_ev (R := fun u' => Bd u' m d b) (ev_var rfl) (.str z) bd) ebs_nil) (by decide) fun us hl h => r_lst hl h (by omega) (by omega) (by omega)) ebs_nil)))))))
      (by decide) (ix rfl) hi H4 (Ex.refl H4) _ (fin ((e2.trans e3).trans e4))
  have hat4 := ex_at e4 hat3
  refine s_if (b := isT u "tuple") (et_B (ev_isi (ev_var rfl) hat4)) (fun q H5 e5 => ?_) (fun qt H5 e5 => ?_)
  · obtain ⟨us, rfl⟩ := isT_tup q
    have hat5 := ex_at e5 hat4
    obtain ⟨a, xs, rfl, ha, na, hl⟩ := at_tup hat5
    obtain ⟨bl, m3, dd1⟩ := bd_tup_of bd
    have hlen : 2 * us.length ≤ m := Nat.le_trans (wt_len us) (Nat.le_trans bl.w (Nat.sub_le _ _))
    have e1 := ((e2.trans e3).trans e4).trans e5
    obtain ⟨o, ho⟩ := hw1
    have hw : ∃ o, H5 wl.w = some o := ⟨o, e1 _ _ ho⟩
    have P1 : EvB wl.w C (tVar 0) [some (V.ref a), some (.ref wl.w), some (.int ((i : Int) + 1)), none] H5 (Part (m - 3) (d - 1) b us.length) := eb_ev (ev_var rfl) hat5 ⟨us, rfl, bl, Nat.le_refl _⟩
    have P2 : EvB wl.w C (tTupF (tCons (tC .non) tNil)) [some (V.ref a), some (.ref wl.w), some (.int ((i : Int) + 1)), none] H5 (Part 6 (d - 1) b 1) := eb_tup hw (ebs_cons (eb_ev (R := fun u' => Bd u' 4 0 0) ev_c .non ⟨by simp only [wt]; omega, Nat.zero_le _, trivial⟩) ebs_nil) (by decide) fun us hl h => ⟨us, rfl, (bdl_all h).mono (by rw [hl]; omega) (Nat.zero_le _) (Nat.zero_le _), by omega⟩
    have E1 : EvB wl.w C (tSl (rSlF K) (tVar 0) (tPart (tC (.int 1))) tNoPart) [some (V.ref a), some (.ref wl.w), some (.int ((i : Int) + 1)), none] H5 (Part (m - 3) (d - 1) b us.length) := eb_slice hw (ev_var rfl) ha na hl (eo_some ev_c) eo_none bl
    have E2 : EvB wl.w C (tSl (rSlF K) (tVar 0) tNoPart (tPart (tUn (rU fun i => .int (-i)) (tC (.int 1))))) [some (V.ref a), some (.ref wl.w), some (.int ((i : Int) + 1)), none] H5 (Part (m - 3) (d - 1) b us.length) := eb_slice hw (ev_var rfl) ha na hl eo_none (eo_some (ev_un ev_c ru_neg)) bl
    have E3 : EvB wl.w C (tSl (rSlF K) (tVar 0) tNoPart (tPart (tC (.int 1)))) [some (V.ref a), some (.ref wl.w), some (.int ((i : Int) + 1)), none] H5 (Part (m - 3) (d - 1) b us.length) := eb_slice hw (ev_var rfl) ha na hl eo_none (eo_some ev_c) bl
    have pb : ∀ {m0 l0 : Nat}, m0 + 3 ≤ 2 * m + 400 → ∀ u, Part m0 (d - 1) b l0 u → Bd u (2 * m + 400) (d + 6) (b + 1) := fun h0 u h => part_bd h h0 (by omega) (by omega)
    refine q_asgBs (n := 7) (R := fun u' => Bd u' (2 * m + 400) (d + 6) (b + 1)) (ebs_cons (eb_mono E1 (pb (by omega))) (ebs_cons (eb_mono E2 (pb (by omega))) (ebs_cons (eb_mono (eb_cat hw E1 E3 (by omega)) (pb (by omega))) (ebs_cons (eb_mono (eb_cat hw E3 P1 (by omega)) (pb (by omega)))
      (ebs_cons (eb_mono (eb_cat hw P1 P2 (by omega)) (pb (by omega))) (ebs_cons (eb_listT (K := K) hw (ev_var rfl) ha hl ((Bd.lst bl).mono (by omega) (by omega) (by omega)))
      (ebs_cons (eb_ev (R := fun u' => Bd u' (2 * m + 400) (d + 6) (b + 1)) ev_c .non bu_non) ebs_nil))))))) (by decide) fun vs us2 p H6 hp e6 l hl2 rs => ?_
    have l2 : us2.length = 7 := hl2
    have hi2 : i < us2.length := by omega
    obtain ⟨x, hx, hatx⟩ := atl_pick l hi2
    refine ⟨_, rfl, _, rfl, _, _, rfl, rfl, p, vs, _, x, rfl, rfl, SqL.of upd_same, ?_, fin e1 x us2[i] _ (e6.trans (Ex.new hp)) (ex_at (Ex.new hp) hatx) (rs _ (List.getElem_mem hi2))⟩
    rw [show (i : Int) + 1 - 1 = i by omega]
    exact atI_nat hx
  · exact ⟨_, rfl, fin ((((e2.trans e3).trans e4).trans e5)) _ _ _ (Ex.refl _) (ex_at e5 hat4) (bd.mono (by omega) (by omega) (by omega))⟩
end
end Hs
namespace Hs
open PySem PySem.Spec PyProof.Rows L2 Hu Evl
section
variable {K : PySem.W.Frag} {w C : Addr} {H : Hp} {v v1 v2 : V} {us us1 us2 : List U} {Q : VK}
def cutUQ (us : List U) (lo hi : Option Int) : List U := (us.drop (HT.sIx us.length 0 lo)).take (HT.sIx us.length us.length hi - HT.sIx us.length 0 lo)
theorem slice_at {lo hi : Option Int} (hw : ∃ o, H w = some o) (a : At w C H v (.tup us)) (q : ∀ v' H', Ex H H' → At w C H' v' (.tup (cutUQ us lo hi)) → Q v' H') : rSlF K v lo hi H Q := by
  obtain ⟨p, xs, rfl, hp, np, l⟩ := at_tup a
  have hl := AtL.length l
  refine ⟨p, xs, rfl, Tu.st hp, fun z => ?_, fun z => newT_data hw (us := cutUQ us lo hi) ?_ q⟩
  · have e : cutUQ us lo hi = us := by
      unfold cutUQ
      rw [← hl, z.1, z.2, Nat.sub_zero, List.drop_zero, hl, List.take_length]
    have := q (.ref p) H (Ex.refl H)
    rw [e] at this
    exact this a
  · unfold cutUQ
    rw [← hl]
    exact AtL.take _ (AtL.drop _ l)
theorem cat_at (hw : ∃ o, H w = some o) (a1 : At w C H v1 (.tup us1)) (a2 : At w C H v2 (.tup us2)) (hl : us1.length + us2.length ≤ 1000000) (q : ∀ v H', Ex H H' → At w C H' v (.tup (us1 ++ us2)) → Q v H') : rCatF K v1 v2 H Q := by
  obtain ⟨p1, x1, rfl, g1, n1, t1⟩ := at_tup a1
  obtain ⟨p2, x2, rfl, g2, n2, t2⟩ := at_tup a2
  have k1 := AtL.length t1
  have k2 := AtL.length t2
  refine ⟨p1, p2, x1, x2, rfl, rfl, Tu.st g1, Tu.st g2, len_fine (by omega), fun z => ?_, fun _ z => ?_, fun _ _ => newT_data hw (AtL.append t1 t2) q⟩
  · have e : us1 = [] := List.length_eq_zero_iff.mp (by rw [← k1, z]; rfl)
    subst e
    exact q _ H (Ex.refl H) a2
  · have e : us2 = [] := List.length_eq_zero_iff.mp (by rw [← k2, z]; rfl)
    subst e
    have := q (.ref p1) H (Ex.refl H)
    rw [List.append_nil] at this
    exact this a1
theorem cut_to {k : Nat} : cutUQ us none (some (k : Int)) = us.take k := by
  unfold cutUQ
  rw [HT.sIx_none, HT.sIx_nat, Nat.sub_zero, List.drop_zero]
  by_cases h : k ≤ us.length
  · rw [Nat.min_eq_left h]
  · rw [Nat.min_eq_right (by omega), List.take_length, List.take_of_length_le (by omega)]
theorem cut_from {k : Nat} : cutUQ us (some (k : Int)) none = us.drop k := by
  unfold cutUQ
  rw [HT.sIx_none, HT.sIx_nat]
  by_cases h : k ≤ us.length
  · rw [Nat.min_eq_left h, List.take_of_length_le (by rw [List.length_drop]; omega)]
  · rw [Nat.min_eq_right (by omega), List.drop_length, List.drop_eq_nil_of_le (by omega), List.take_nil]
end
theorem nodL_drop {us : List U} {i : Nat} (h : i < us.length) : nodL (us.drop i) = nod us[i] + nodL (us.drop (i + 1)) := by
  rw [List.drop_eq_getElem_cons h]
  rfl
theorem split_at {us : List U} {i : Nat} (h : i < us.length) : us = us.take i ++ ([us[i]] ++ us.drop (i + 1)) := by
  rw [List.singleton_append, ← List.drop_eq_getElem_cons h, List.take_append_drop]
theorem swap_bd {us : List U} {i : Nat} {c : U} {m d b : Nat} (h : i < us.length) (bd : Bd (.tup us) m d b) (hc : Bd c (2 * wt us[i] + 400) (d - 1 + 6) (b + 1)) : Bd (.tup (us.take i ++ [c] ++ us.drop (i + 1))) (2 * m + 400) (d + 6) (b + 1) := by
  obtain ⟨bl, m3, d1⟩ := bd_tup_of bd
  have e : wtL us = wtL (us.take i) + (wt us[i] + 2 + wtL (us.drop (i + 1))) := by
    have q := congrArg wtL (split_at h)
    rw [wtL_append, wtL_append] at q
    simpa only [wtL, Nat.add_zero] using q
  have t1 : BdL (us.take i) (wtL (us.take i)) (d - 1 + 6) (b + 1) := ⟨Nat.le_refl _, by have := (bl.take i).d; omega, tidyL_mono (by omega) _ (bl.take i).c⟩
  have t2 : BdL (us.drop (i + 1)) (wtL (us.drop (i + 1))) (d - 1 + 6) (b + 1) := ⟨Nat.le_refl _, by have := (bl.drop (i + 1)).d; omega, tidyL_mono (by omega) _ (bl.drop (i + 1)).c⟩
  have hw := bl.w
  have hi := wt_mem (List.getElem_mem h)
  exact (Bd.tup ((t1.append (BdL.one hc)).append t2)).mono (by omega) (by omega) (Nat.le_refl _)
section
variable {P : Program} {wd : World} {K : PySem.W.Frag} {mg : Str → Option Value} {base : Heap} {C : Addr} {fD : Addr} {dD : FuncData}
def spSpoilt (C : Addr) (n : Nat) : Sp := fun vs H Q _ => ∃ (wl : WA) (v : V) (u : U) (at0 : Int) (m d b : Nat), vs = [v, .int at0, .ref wl.w] ∧ Well H wl ∧ At wl.w C H v u ∧ Bd u m d b ∧ m ≤ 100000 ∧ b ≤ 20 ∧ dep u < n ∧ 0 ≤ at0 ∧ at0 < (nod u : Int) ∧
  ∀ (v' : V) (u' : U) (H' : Hp), Drawn wl H H' → At wl.w C H' v' u' → Bd u' (2 * m + 400) (d + 6) (b + 1) → Q v' H'
theorem scSpoilt : FnScope ["thing", "at", "well", "k", "size"] ["thing", "at", "well"] (defScope lSpoilt) := ⟨rfl, rfl, rfl, by decide +kernel, rfl, by decide +kernel, by decide +kernel⟩
theorem ok_spoilt {f fC fN : Addr} {fd dC dN : FuncData} (DS : Df K mg "_law_spoilt" lSpoilt ["thing", "at", "well"] f fd) (S : Bs K mg C) (DC : Df K mg "_law_changed" lChanged ["thing", "well"] fC dC) (GC : FnOk P wd K mg base CX0 7 fC dC ["thing", "well"] (spChanged C))
    (DN : Df K mg "_law_nodes" lNodes ["thing"] fN dN) : ∀ n : Nat, FnOk P wd K mg base CX0 (n + 7) f fd ["thing", "at", "well"] (spSpoilt C n)
  | 0 => ⟨fun _ _ _ _ ⟨_, _, _, _, _, _, _, e, _⟩ => by rw [e]; rfl, fun _ _ _ _ _ _ _ _ _ _ _ _ _ ⟨_, _, _, _, _, _, _, _, _, _, _, _, _, h, _⟩ => absurd h (Nat.not_lt_zero _)⟩
  | n + 1 => by
    have G := ok_spoilt DS S DC GC DN n
    have GN : FnOk P wd K mg base CX0 n fN dN ["thing"] (spNodes C n) := ok_nodes DN S n
    refine DS.F.ok (k := n + 7) scSpoilt (fun vs H Q E h => ?_) (fun cdv A outer s H vs Q E hr h => ?_)
    · obtain ⟨wl, v, u, at0, m, d, b, rfl, _⟩ := h
      rfl
    obtain ⟨wl, v, u, at0, m, d, b, rfl, W, hat, bd, hm, hb, hd, a0, a1, k⟩ := h
    refine ⟨_, pss_cons (ps_if (pt_cmpR op_eq (pv 1) pe_int (nomark _)) (pss_one (ps_ret (pe_call GC (hr.mono (by omega)) (by rfl) DC.g DC.F.kp DC.b .nil pass0 (pa_cons (pv 0) (pa_cons (pv 2) pa_nil))))) pss_nil)
      (pss_cons (ps_set (i := 1) scSpoilt.nd rfl (.inl rfl) (pe_op op_sub (pv 1) pe_int))
      (pss_cons (ps_for PassesOwn.never rfl (pi_range1 (by rfl) S.B.range (pa_cons (pe_callB call_len_seq (by rfl) S.B.len PySem.boot_len (pa_cons (pv 0) pa_nil)) pa_nil)) (pg_name (i := 3) scSpoilt.nd rfl (Or.inl rfl))
        (pss_cons (ps_set (i := 4) scSpoilt.nd rfl (.inl rfl) (pe_call GN (hr.mono (by omega)) (by rfl) DN.g DN.F.kp DN.b .nil pass0 (pa_cons (pe_ix ix_tup (pv 0) (pv 3) (fun _ _ => rfl)) pa_nil)))
        (pss_cons (ps_if (pt_cmpR op_lt (pv 1) (pv 4) (nomark _))
          (pss_one (ps_ret (pe_op op_catF (pe_op op_catF (pe_slice sl_tupF (pv 0) po_none (po_some (pv 3))) (pe_tupF (pa_cons (pe_call G hr (by rfl) DS.g DS.F.kp DS.b .nil pass0 (pa_cons (pe_ix ix_tup (pv 0) (pv 3) (fun _ _ => rfl)) (pa_cons (pv 1) (pa_cons (pv 2) pa_nil)))) pa_nil)))
            (pe_slice sl_tupF (pv 0) (po_some (pe_op op_add (pv 3) pe_int)) po_none)))) pss_nil)
        (pss_one (ps_set (i := 1) scSpoilt.nd rfl (.inl rfl) (pe_op op_sub (pv 1) (pv 4)))))))
      (pss_one (ps_ret (pv 0))))), ?_⟩
    refine ⟨_, rfl, rfl, _, rfl, ite2 (fun q => ?_) (fun q => ?_)⟩
    · exact ⟨_, rfl, _, rfl, wl, v, u, m, d, b, rfl, W, hat, bd, hm, hb, k⟩
    have q0 := vi_ne q
    cases u with
    | tup us =>
      obtain ⟨a, xs, rfl, ha, na, hl⟩ := at_tup hat
      have hxl := AtL.length hl
      simp only [dep] at hd
      have hlen : us.length ≤ 100000 := by
        have := wt_len us
        have := (bd_tup_of bd).1.w
        omega
      simp only [nod] at a1
      refine ⟨_, rfl, _, _, rfl, rfl, _, rfl, a, xs, rfl, .inr (Tu.st ha), _, rfl, by omega, by omega, ?_⟩
      refine for_range (lo := 0) (n := ((xs.length : Nat) : Int).toNat) (fun i σ H' => ∃ (at' : Int) (x3 x4 : Option V), σ = [some (.ref a), some (.int at'), some (.ref wl.w), x3, x4] ∧ 0 ≤ at' ∧ at' < (nodL (us.drop i) : Int) ∧ Ex H H') ⟨at0 - 1, none, none, rfl, by omega, by rw [List.drop_zero]; omega, Ex.refl H⟩ ?_ ?_
      · rintro i σ H1 hi ⟨at', x3, x4, rfl, b0, b1, e1⟩
        have hi' : i < us.length := by omega
        obtain ⟨x, hx, hax⟩ := atl_pick hl hi'
        have hg1 : atI xs (0 + (i : Int)) = some x := at_of (by omega) hx
        have W1 := W.same e1
        have bc : Bd us[i] (wt us[i]) (d - 1) b := by
          have q := (bd_tup_of bd).1.get (List.getElem_mem hi')
          exact ⟨Nat.le_refl _, q.d, q.c⟩
        have hwi : wt us[i] ≤ 100000 := by
          have := wt_mem (List.getElem_mem hi')
          have := (bd_tup_of bd).1.w
          omega
        have hdi : dep us[i] < n := by
          have := dep_mem' (List.getElem_mem hi')
          omega
        have nd := nodL_drop hi'
        refine ⟨_, rfl, _, rfl, a, xs, _, x, rfl, rfl, Tu.st (Tu.ex e1 ha), hg1, x, us[i], wl.w, rfl, ex_at e1 hax, bc.fine (by omega) (by omega), hdi, fun H2 e2 => ?_⟩
        refine ⟨_, rfl, _, rfl, _, _, rfl, rfl, _, rfl, ite2 (fun q => ?_) (fun q => ?_)⟩
        · have q1 : at' < (nod us[i] : Int) := of_decide_eq_true q
          have e12 := e1.trans e2
          obtain ⟨ow, how⟩ := W.at
          refine ⟨_, rfl, _, rfl, 0 + (i : Int), rfl, ?_⟩
          refine slice_at (C := C) ⟨ow, e12 _ _ how⟩ (ex_at e12 hat) fun y1 H3 e3 ay1 => ?_
          have e13 := e12.trans e3
          refine ⟨_, rfl, _, rfl, a, xs, _, x, rfl, rfl, Tu.st (Tu.ex e13 ha), hg1, _, rfl, _, rfl, wl, x, us[i], at', wt us[i], d - 1, b, rfl, W.same e13, ex_at e13 hax, bc, hwi, hb, hdi, b0, q1, fun v' u' H4 D4 hv bv => ?_⟩
          obtain ⟨o4, ho4⟩ := D4.well.at
          refine ⟨sz_of (show (1 : Nat) ≤ 100000 by decide), newT_data (C := C) (us := [u']) ⟨o4, ho4⟩ (.cons hv .nil) fun y0 H4' e4' ay0 => ?_⟩
          have y1' : At wl.w C H4' y1 (.tup (cutUQ us none (some (0 + (i : Int))))) := ex_at e4' (ay1.keep fun b o nb q => D4.keep b o nb q)
          refine cat_at (C := C) ⟨o4, e4' _ _ ho4⟩ y1' (us2 := [u']) ay0 ?_ fun y2 H5 e5 ay2 => ?_
          · have : (cutUQ us none (some (0 + (i : Int)))).length ≤ us.length := by
              unfold cutUQ
              rw [List.length_take, List.length_drop]
              omega
            rw [List.length_singleton]
            omega
          have D5 : Drawn wl H H5 := ((((Drawn.refl W).same e13).trans D4).same (e4'.trans e5))
          obtain ⟨o5, ho5⟩ := D5.well.at
          have hat5 : At wl.w C H5 (.ref a) (.tup us) := hat.keep fun b o nb q => D5.keep b o nb q
          refine ⟨_, rfl, _, rfl, _, _, rfl, rfl, _, rfl, ?_⟩
          dsimp only [tNoPart]
          refine slice_at (C := C) ⟨o5, ho5⟩ hat5 fun y3 H6 e6 ay3 => ?_
          rw [Int.zero_add, cut_to] at ay2
          rw [Int.zero_add, show (i : Int) + 1 = ((i + 1 : Nat) : Int) by omega, cut_from] at ay3
          refine cat_at (C := C) ⟨o5, e6 _ _ ho5⟩ (ex_at e6 ay2) ay3 ?_ fun y4 H7 e7 ay4 => ?_
          · simp only [List.length_append, List.length_take, List.length_drop, List.length_singleton]
            omega
          exact k y4 _ H7 (D5.same (e6.trans e7)) ay4 (swap_bd hi' bd bv)
        · have q1 : ¬ at' < (nod us[i] : Int) := fun z => q (decide_eq_true z)
          refine ⟨_, rfl, _, rfl, _, _, rfl, rfl, at' - (nod us[i] : Int), _, _, rfl, by omega, ?_, e1.trans e2⟩
          rw [nd] at b1
          omega
      · rintro σ H1 ⟨at', x3, x4, rfl, b0, b1, e1⟩
        exfalso
        rw [List.drop_eq_nil_of_le (by omega)] at b1
        simp only [nodL] at b1
        omega
    | _ =>
      exfalso
      simp only [nod] at a1
      omega
end
end Hs
/-! a table, or a spoilt one, or anything -/
namespace Hs
open PySem PySem.Spec PyProof.Rows L2 Hu Evl
abbrev lThingT : Stmt := topS 136
section
variable {P : Program} {wd : World} {K : PySem.W.Frag} {mg : Str → Option Value} {base : Heap} {C : Addr} {fD : Addr} {dD : FuncData}
def Mt : Nat → Nat | 0 => 24000 | n + 1 => 2 * Mt n + 400
def spThT (C : Addr) : Sp := fun vs H Q _ => ∃ (wl : WA) (x : V) (u : U), vs = [.ref wl.w, x] ∧ Well H wl ∧ At wl.w C H x u ∧ Bd u 24000 5 0 ∧ ∀ (v : V) (u' : U) (H' : Hp), Drawn wl H H' → At wl.w C H' v u' → Bd u' 100000 20 2 → Q v H'
theorem scThT : FnScope ["well", "table", "kind", "thing", "k"] ["well", "table"] (defScope lThingT) := ⟨rfl, rfl, rfl, by decide +kernel, rfl, by decide +kernel, by decide +kernel⟩
theorem ok_thingT {f fA fS fN : Addr} {fd dA dS dN : FuncData} (F : Fun K "_law_thing" "_law_thing" lThingT f fd) (B : Bt mg) (D : Dd P wd K mg base fD dD) (DA : Df K mg "_law_any" lAny ["well", "deep"] fA dA) (GA : FnOk P wd K mg base CX0 39 fA dA ["well", "deep"] (spAny C 3))
    (DS : Df K mg "_law_spoilt" lSpoilt ["thing", "at", "well"] fS dS) (GS : FnOk P wd K mg base CX0 39 fS dS ["thing", "at", "well"] (spSpoilt C 30)) (DN : Df K mg "_law_nodes" lNodes ["thing"] fN dN) (GN : FnOk P wd K mg base CX0 39 fN dN ["thing"] (spNodes C 30)) : FnOk P wd K mg base CX0 40 f fd ["well", "table"] (spThT C) := by
  refine F.ok scThT (fun vs H Q E h => ?_) (fun cdv A outer s H vs Q E hr h => ?_)
  · obtain ⟨wl, x, u, rfl, _⟩ := h
    rfl
  obtain ⟨wl, x, u, rfl, W, hx, bx, k⟩ := h
  refine ⟨_, pss_cons (ps_set (i := 2) scThT.nd rfl (.inl rfl) (pe_draw D hr (by decide) (by rfl) (pv 0) pe_int))
    (pss_cons (ps_set (i := 3) scThT.nd rfl (.inl rfl) (pv 1))
    (pss_cons (ps_if (pt_cmpR op_eq (pv 2) pe_int (nomark _)) (pss_one (ps_ret (pe_call GA hr (by rfl) DA.g DA.F.kp DA.b .nil pass0 (pa_cons (pv 0) (pa_cons pe_int pa_nil))))) pss_nil)
    (pss_cons (ps_for PassesOwn.never rfl (pi_range1 (by rfl) B.range (pa_cons (pe_ix ix_list (pe_lst (pa_cons pe_int (pa_cons pe_int (pa_cons pe_int (pa_cons pe_int (pa_cons pe_int (pa_cons pe_int (pa_cons pe_int (pa_cons pe_int pa_nil))))))))) (pe_op op_sub (pv 2) pe_int) (fun _ _ => rfl)) pa_nil)) (pg_name (i := 4) scThT.nd rfl (Or.inl rfl))
      (pss_one (ps_set (i := 3) scThT.nd rfl (.inl rfl) (pe_call GS hr (by rfl) DS.g DS.F.kp DS.b .nil pass0 (pa_cons (pv 3) (pa_cons (pe_draw D hr (by decide) (by rfl) (pv 0) (pe_call GN hr (by rfl) DN.g DN.F.kp DN.b .nil pass0 (pa_cons (pv 3) pa_nil))) (pa_cons (pv 0) pa_nil)))))))
    (pss_one (ps_ret (pv 3)))))), ?_⟩
  refine ⟨_, rfl, wl, 9, rfl, W, by decide, by decide, fun kd H1 d0 d1 D1 => ⟨_, rfl, ?_⟩⟩
  show tSeq _ _ _ [some (V.ref wl.w), some x, some (.int kd), some x, none] H1
  refine q_when (b := decide (V.int kd = V.int 0)) (et_test (ev_op (ev_var rfl) ev_c (rv_eq rfl))) (fun q H2 e2 => ?_) (fun q H2 e2 => ?_)
  · exact ⟨_, rfl, wl, rfl, D1.well.same e2, fun v u' H3 D3 hv bv => k v u' H3 ((D1.same e2).trans D3) (at_full hv) (bv.mono (by decide) (by decide) (by decide))⟩
  have hk : kd ≠ 0 := fun z => by
    have := of_decide_eq_false q
    exact this (by rw [z])
  have D2 := D1.same e2
  refine q_forRX (R := fun n H' => n ≤ 2 ∧ Drawn wl H H') ?md (fun n H' h => by omega) (fun n i σ' H' => n ≤ 2 ∧ ∃ (v : V) (u' : U) (x4 : Option V), σ' = [some (V.ref wl.w), some x, some (.int kd), some v, x4] ∧ Drawn wl H H' ∧ At wl.w C H' v u' ∧ Bd u' (Mt i) (5 + 6 * i) i)
    (fun n H' h => ⟨h.1, x, u, none, rfl, h.2, hx.keep fun b o n q => h.2.keep b o n q, bx⟩) ?_ ?_
  case md =>
    refine fun Q q => ⟨sz_of (show (8 : Nat) ≤ 100000 by decide), fun l hl => ?_⟩
    have pick : ∃ t : Nat, t ≤ 2 ∧ atI ([.int 0, .int 0, .int 0, .int 0, .int 0, .int 1, .int 1, .int 2] : List V) (kd - 1) = some (.int (t : Int)) := by
      have : kd = 1 ∨ kd = 2 ∨ kd = 3 ∨ kd = 4 ∨ kd = 5 ∨ kd = 6 ∨ kd = 7 ∨ kd = 8 := by omega
      rcases this with rfl | rfl | rfl | rfl | rfl | rfl | rfl | rfl
      · exact ⟨0, by decide, rfl⟩
      · exact ⟨0, by decide, rfl⟩
      · exact ⟨0, by decide, rfl⟩
      · exact ⟨0, by decide, rfl⟩
      · exact ⟨0, by decide, rfl⟩
      · exact ⟨1, by decide, rfl⟩
      · exact ⟨1, by decide, rfl⟩
      · exact ⟨2, by decide, rfl⟩
    obtain ⟨t, ht, hat⟩ := pick
    exact ⟨_, rfl, _, _, rfl, rfl, l, _, kd - 1, .int (t : Int), rfl, rfl, SqL.of upd_same, hat, q t _ ⟨ht, D2.new hl⟩⟩
  · rintro n i σ' H3 hi ⟨hn, v, u', x4, rfl, D3, hv, bv⟩
    have hms : Mt i ≤ 50000 := by
      rcases (show i = 0 ∨ i = 1 by omega) with rfl | rfl <;> decide
    have hdep : dep u' < 30 := by
      have := bv.d
      omega
    have hnod : nod u' ≤ 50000 := Nat.le_trans (nod_wt u') (Nat.le_trans bv.w hms)
    have hnp := nod_pos u'
    exact ⟨_, rfl, _, rfl, _, rfl, v, u', wl.w, rfl, hv, bv.fine (by omega) (by omega), hdep, fun H4 s4 => ⟨wl, (nod u' : Int), rfl, D3.well.same s4, by omega, by omega, fun e H5 e0 e1 D5 => ⟨_, rfl, wl, v, u', e, Mt i, 5 + 6 * i, i, rfl, D5.well, At.drawn D5 (ex_at s4 hv), bv, by omega, by omega, hdep, e0, e1, fun v' u2 H6 D6 hv' bv' => ⟨hn, v', u2, _, rfl, ((D3.same s4).trans D5).trans D6, hv', bv'⟩⟩⟩⟩
  · rintro n σ' H3 ⟨hn, v, u', x4, rfl, D3, hv, bv⟩
    have hms : Mt n ≤ 100000 := by
      rcases (show n = 0 ∨ n = 1 ∨ n = 2 by omega) with rfl | rfl | rfl <;> decide
    exact ⟨_, rfl, k v u' H3 D3 hv (bv.mono hms (by omega) hn)⟩
end
end Hs
/-! a table's weight; what is led to, what a head tells, by the law itself -/
namespace Hs
open PySem PySem.Spec PyProof.Rows L2 Hu Evl
open Hk (SI ltSI)
theorem bdl_rows {m d b : Nat} : ∀ {us : List U}, (∀ u ∈ us, Bd u m d b) → BdL us (us.length * (m + 2)) d b
  | [], _ => ⟨by simp [wtL], by simp [depL], trivial⟩
  | u :: us, h => by
    have h1 := h u (by simp)
    have h2 := bdl_rows fun x hx => h x (List.mem_cons_of_mem _ hx)
    have := BdL.append (.one h1) h2
    exact this.mono (by rw [List.length_cons, Nat.succ_mul]; omega) (Nat.le_refl _) (Nat.le_refl _)
theorem int_bd {i : Int} (h : i.natAbs < 2 ^ 60) : Bd (.int i) 80 0 0 := ⟨by simp [wt], by simp [dep], by simp only [tidy]; omega⟩
theorem ls_bd {zs : List Str} {l : Ls} (hz : ∀ z ∈ zs, gNam (.str z) = true) (h : LsOk zs l) : Bd (lsU l) 300 1 0 := by
  have h1 := nam_bd (hz _ h.n)
  have h2 := h.h.1
  have h3 := h.h.2
  have h4 := h.t.1
  have h5 := h.t.2
  have h6 := h.u.1
  have h7 := h.u.2
  have q := BdL.append (.one h1) (BdL.append (.one (int_bd (i := l.1.2) (by omega))) (BdL.append (.one (int_bd (i := l.2.1) (by omega))) (.one (int_bd (i := l.2.2) (by omega)))))
  exact (Bd.tup q).mono (by omega) (Nat.le_refl _) (Nat.le_refl _)
theorem TabPre.bd {zs : List Str} {T : Tb} (g : TabPre zs T) (hz : ∀ z ∈ zs, gNam (.str z) = true) : Bd (tabU T) 24000 5 0 := by
  have bl : Bd (.tup (T.ls.map lsU)) 1300 4 0 := (Bd.tup (bdl_rows (us := T.ls.map lsU) (m := 300) (d := 1) (b := 0) fun u hu => by
    obtain ⟨l, hl, rfl⟩ := List.mem_map.mp hu
    exact ls_bd hz (g.ls l hl))).mono (by rw [List.length_map]; have := g.len; omega) (by omega) (Nat.le_refl _)
  have be : Bd T.e 80 4 0 := by
    rcases g.kp with ⟨h, _⟩ | ⟨e, h, h0, h1, _⟩
    · rw [h]; exact (int_bd (by decide)).mono (Nat.le_refl _) (by omega) (Nat.le_refl _)
    · rw [h]; exact (int_bd (by omega)).mono (Nat.le_refl _) (by omega) (Nat.le_refl _)
  have bc : Bd (.int T.clock) 80 4 0 := (int_bd (by have := g.c.1; have := g.c.2; omega)).mono (Nat.le_refl _) (by omega) (Nat.le_refl _)
  have q := BdL.append (.one be) (BdL.append (.one g.bm) (BdL.append (.one g.ba) (BdL.append (.one bc) (BdL.append (.one g.bh) (BdL.append (.one g.bb) (BdL.append (.one bl) (BdL.append (.one g.bp) (BdL.append (.one g.bv) (.one g.bn)))))))))
  exact (Bd.tup q).mono (by omega) (Nat.le_refl _) (Nat.le_refl _)
abbrev lHeadDue : Stmt := topS 134
abbrev lIdsLed : Stmt := topS 133
section
variable {P : Program} {wd : World} {K : PySem.W.Frag} {mg : Str → Option Value} {base : Heap} {C : Addr}
/-- a right head, its name open -/
theorem gNamed_is {u : U} (h : gNamed u = true) : ∃ z a b, u = .tup [.str z, a, b] ∧ gStamp a = true ∧ gRow b = true := by
  obtain ⟨h1, h2, h3⟩ := and3 (a := gTO 3 u) (b := gNam (nth u 0)) (c := gStamp (nth u 1) && gRow (nth u 2)) h
  obtain ⟨us, rfl, hl⟩ := gTO_of h1
  match us, hl with
  | [x, a, b], _ =>
    obtain ⟨z, rfl⟩ := gNam_str (u := x) h2
    obtain ⟨h4, h5⟩ := and2 (a := gStamp a) (b := gRow b) h3
    exact ⟨z, a, b, rfl, h4, h5⟩
def named (z : Str) (u : U) : Bool := match nth u 0 with | .str y => decide (y = z) | _ => false
def firstU : U := .tup [.tup [.int 0, .int 0], .non]
def dueH (us : List U) (z : Str) : U := match us.find? (named z) with | some u => .tup [nth u 1, nth u 2] | none => firstU
def spHD (C : Addr) : Sp := fun vs H Q _ => ∃ (x : V) (u : U) (us : List U) (w : Addr) (z : Str), vs = [x, .str z] ∧ At w C H x u ∧ gTO 10 u = true ∧ nth u 4 = .tup us ∧ us.all gNamed = true ∧ us.length ≤ 40000 ∧ (∃ o, H w = some o) ∧ ∀ v H', Same H H' → At w C H' v (dueH us z) → Q v H'
theorem scHD : FnScope ["table", "name", "head"] ["table", "name"] (defScope lHeadDue) := ⟨rfl, rfl, rfl, by decide +kernel, rfl, by decide +kernel, by decide +kernel⟩
theorem ok_headDue {f : Addr} {fd : FuncData} (F : Fun K "_law_head_due" "_law_head_due" lHeadDue f fd) : FnOk P wd K mg base CX0 1 f fd ["table", "name"] (spHD C) := by
  refine F.ok scHD (fun vs H Q E h => ?_) (fun cdv A outer s H vs Q E hr h => ?_)
  · obtain ⟨x, u, us, w, z, rfl, _⟩ := h
    rfl
  obtain ⟨x, u, us, w, z, rfl, hx, hT, h4, hall, hz, hw, k⟩ := h
  refine ⟨_, pss_cons (ps_for PassesOwn.never rfl (pi_tup (pe_ix ix_tup (pv 0) pe_int (fun _ _ => rfl))) (pg_name (i := 2) scHD.nd rfl (Or.inl rfl))
      (pss_one (ps_if (pt_cmpR op_eq (pe_ix ix_tup (pv 2) pe_int (fun _ _ => rfl)) (pv 1) (nomark _)) (pss_one (ps_ret (pe_slice sl_tupF (pv 2) (po_some pe_int) po_none))) pss_nil)))
    (pss_one (ps_ret (pe_tupF (pa_cons (pe_tupF (pa_cons pe_int (pa_cons pe_int pa_nil))) (pa_cons pe_non pa_nil))))), ?_⟩
  obtain ⟨y, ey, ay⟩ := ev_nth (K := K) (σ := [some x, some (.str z), none]) (te := tVar 0) (k := 4) (ev_var rfl) hx hT (by decide)
  rw [h4] at ay
  obtain ⟨a, xs, rfl, ha, na, hl⟩ := at_tup ay
  have hlen := AtL.length hl
  refine ey H (Ex.refl H) _ fun H1 e1 => ⟨a, rfl, ⟨xs, Tu.st (Tu.ex e1 ha)⟩, ?_⟩
  refine for_it (walk_tup (K := K) (a := a) (xs := xs)) (fun i σ' H' => ∃ x2 : Option V, σ' = [some x, some (.str z), x2] ∧ Ex H H' ∧ (us.take i).find? (named z) = none) ⟨none, rfl, e1, rfl⟩ (fun i σ' H' _ ⟨_, _, e, _⟩ => Tu.st (Tu.ex e ha)) ?_ ?_
  · rintro i v σ' H0' H2 hi ⟨x2, rfl, e2, hno⟩ ⟨rfl, hv⟩
    have hi' : i < us.length := by omega
    obtain ⟨v', hv', av⟩ := AtL.get (ex_atl e2 hl) (List.getElem?_eq_getElem hi')
    rw [hv] at hv'
    cases hv'
    have hg : us[i]? = some us[i] := List.getElem?_eq_getElem hi'
    have tk : us.take (i + 1) = us.take i ++ [us[i]] := by rw [List.take_add_one, hg]; rfl
    have hmem := List.getElem_mem hi'
    have gn := List.all_eq_true.mp hall _ hmem
    have split : us = us.take i ++ us[i] :: us.drop (i + 1) := by
      rw [← List.drop_eq_getElem_cons hi', List.take_append_drop]
    generalize us[i] = un at av tk gn split
    obtain ⟨y, s1, r1, rfl, _, _⟩ := gNamed_is gn
    obtain ⟨b, ys, rfl, hb, nb, hys⟩ := at_tup av
    obtain ⟨y0, yr, rfl, hy0⟩ : ∃ y0 yr, ys = y0 :: yr ∧ y0 = .str y := by
      cases hys with
      | cons h1 h2 => exact ⟨_, _, rfl, at_str h1⟩
    subst hy0
    have hw2 : ∃ o, H2 w = some o := hw.imp fun o q => e2 _ _ q
    have hnm : named z (.tup [.str y, s1, r1]) = decide (y = z) := rfl
    refine (et_test (ev_op (ev_ixT (K := K) (te := tVar 2) (σ := [some x, some (.str z), some (.ref b)]) (j := 0) (ev_var rfl) hb rfl) (ev_var (i := 1) rfl) (rv_eq rfl))) H2 (Ex.refl H2) _ fun H3 e3 => ?_
    by_cases q : y = z
    · rw [if_pos (decide_eq_true (by rw [q]))]
      refine (ed_slice (K := K) (C := C) (te := tVar 2) (hw2.imp fun o q => e3 _ _ q) (ev_var rfl) (Tu.ex e3 hb) nb (ex_atl e3 hys) (eo_some (i := 1) (te := tC (.int 1)) ev_c) eo_none) H3 (Ex.refl H3) _ fun v H4 e4 a4 => ?_
      have hd : dueH us z = .tup [s1, r1] := by
        unfold dueH
        rw [split, List.find?_append, hno, Option.none_or, List.find?_cons_of_pos (by rw [hnm]; exact decide_eq_true q)]
        rfl
      refine k v H4 ((e2.trans e3).trans e4) ?_
      rw [hd]
      exact a4
    · rw [if_neg (by simpa using fun e => q (V.str.inj e))]
      refine ⟨_, rfl, e2.trans e3, ?_⟩
      rw [tk, List.find?_append, hno, Option.none_or, List.find?_cons_of_neg (by rw [hnm]; simpa using q)]
      rfl
  · rintro σ' H2 ⟨x2, rfl, e2, hno⟩
    rw [hlen, List.take_length] at hno
    have hw2 : ∃ o, H2 w = some o := hw.imp fun o q => e2 _ _ q
    refine (ed_tup (C := C) hw2 (eds_cons (ed_tup hw2 (eds_cons (ed_ev (te := tC (.int 0)) ev_c (.int 0)) (eds_cons (ed_ev (te := tC (.int 0)) ev_c (.int 0)) eds_nil)) (by decide)) (eds_cons (ed_ev (te := tC .non) ev_c .non) eds_nil)) (by decide)) H2 (Ex.refl H2) _ fun v H3 e3 a3 => ?_
    have hd : dueH us z = firstU := by
      unfold dueH
      rw [hno]
    refine k v H3 (e2.trans e3) ?_
    rw [hd]
    exact a3
end
end Hs
/-! a pair of integers in a list of such -/
namespace Hs
open PySem PySem.Spec PyProof.Rows L2 Hu Evl
section
variable {X : Cx} {pins : List (Addr × Obj)} {σ : L2.St} {H : Hp} {s : Shared}
theorem valsII {i j : Int} {its : List Value} (h : Vals [.int i, .int j] its) : ∃ t t', its = [.int i t, .int j t'] := by
  cases h with
  | cons h1 h2 => cases h2 with
    | cons h3 h4 =>
      cases h4
      obtain ⟨t, rfl⟩ := h1
      obtain ⟨t', rfl⟩ := h3
      exact ⟨t, t', rfl⟩
theorem eqAt_pair {A : Around} {a b : Addr} {p q : Int × Int} (I : Inv X pins σ H s) (ha : H a = some (.tup [.int p.1, .int p.2])) (hb : H b = some (.tup [.int q.1, .int q.2])) (hu : A.units < cLine) : SeqAt.EqAt A s (.ref a) (.ref b) (decide (p = q)) := by
  by_cases e : a = b
  · subst e
    have : p = q := by
      rw [ha] at hb
      injection hb with hb
      injection hb with hb
      injection hb with h1 hb
      injection hb with h2 _
      exact Prod.ext (V.int.inj h1) (V.int.inj h2)
    rw [decide_eq_true this]
    exact SeqAt.EqAt.same _
  · obtain ⟨i1, r1, p1, _⟩ := I.tuple (st_of ha)
    obtain ⟨i2, r2, p2, _⟩ := I.tuple (st_of hb)
    obtain ⟨t1, t2, rfl⟩ := valsII r1
    obtain ⟨t3, t4, rfl⟩ := valsII r2
    have m := SeqAt.RcAt.tuples (A := A) (s := s) (e := fun n => if n = 0 then p.1 == q.1 else p.2 == q.2) p1 p2 hu (fun j h1 h2 => by
      have hj : j = 0 ∨ j = 1 := by
        have h1' : j < 2 := h1
        omega
      rcases hj with rfl | rfl
      · exact SeqAt.EqAt.int_int p.1 t1 q.1 t3
      · exact SeqAt.EqAt.int_int p.2 t2 q.2 t4)
    have e1 : ((List.range (min ([Value.int p.1 t1, .int p.2 t2].toArray.size) ([Value.int q.1 t3, .int q.2 t4].toArray.size))).all (fun n => if n = 0 then p.1 == q.1 else p.2 == q.2) && ([Value.int p.1 t1, .int p.2 t2].toArray.size == [Value.int q.1 t3, .int q.2 t4].toArray.size)) = decide (p = q) := by
      show ((List.range 2).all (fun n => if n = 0 then p.1 == q.1 else p.2 == q.2) && true) = _
      rw [Bool.and_true]
      show ((p.1 == q.1) && ((p.2 == q.2) && true)) = _
      rw [Bool.and_true, Bool.eq_iff_iff, Bool.and_eq_true, beq_iff_eq, beq_iff_eq, decide_eq_true_eq]
      exact ⟨fun h => Prod.ext h.1 h.2, fun h => by rw [h]; exact ⟨rfl, rfl⟩⟩
    rw [e1] at m
    exact .of_refs e m
theorem P2.mem {vs : List V} {ks : List (Int × Int)} (h : P2 H vs ks) : ∀ {us : List Value}, Vals vs us → us.length = ks.length ∧ ∀ (n : Nat) (u : Value), us[n]? = some u → ∃ (a : Addr) (k : Int × Int), u = .ref a ∧ ks[n]? = some k ∧ H a = some (.tup [.int k.1, .int k.2]) := by
  induction h with
  | nil => intro us r; cases r; exact ⟨rfl, fun n u e => by simp at e⟩
  | @cons p k vs ks hp _ ih =>
    intro us r
    cases r with
    | cons h1 h2 =>
      cases h1
      obtain ⟨l, m⟩ := ih h2
      refine ⟨by rw [List.length_cons, List.length_cons, l], fun n u e => ?_⟩
      cases n with
      | zero => cases e; exact ⟨p, k, rfl, rfl, hp⟩
      | succ n => exact m n u e
open Classical in
/-- what stands at a value is this pair -/
noncomputable def isP (H : Hp) (q : Int × Int) (u : Value) : Bool := decide (∃ a, u = .ref a ∧ H a = some (.tup [.int q.1, .int q.2]))
theorem isP_at {a : Addr} {k q : Int × Int} (h : H a = some (.tup [.int k.1, .int k.2])) : isP H q (.ref a) = decide (k = q) := by
  classical
  unfold isP
  rw [Bool.eq_iff_iff]
  refine Iff.trans (Iff.intro of_decide_eq_true decide_eq_true) (Iff.trans ?_ (Iff.intro decide_eq_true of_decide_eq_true))
  constructor
  · rintro ⟨b, e, hb⟩
    cases e
    rw [h] at hb
    injection hb with hb
    injection hb with hb
    injection hb with h1 hb
    injection hb with h2 _
    exact Prod.ext (V.int.inj h1) (V.int.inj h2)
  · rintro rfl
    exact ⟨a, rfl, h⟩
theorem any_isP {vs : List V} {ks : List (Int × Int)} {us : List Value} (h : P2 H vs ks) (r : Vals vs us) (q : Int × Int) : us.any (isP H q) = decide (q ∈ ks) := by
  obtain ⟨l, m⟩ := h.mem r
  rw [Bool.eq_iff_iff, List.any_eq_true, decide_eq_true_eq]
  constructor
  · rintro ⟨u, hu, e⟩
    obtain ⟨n, hn⟩ := List.getElem?_of_mem hu
    obtain ⟨a, k, rfl, hk, ha⟩ := m n u hn
    rw [isP_at ha, decide_eq_true_eq] at e
    rw [← e]
    exact List.mem_of_getElem? hk
  · intro hq
    obtain ⟨n, hn⟩ := List.getElem?_of_mem hq
    have hlt : n < us.length := by
      have := (List.getElem?_eq_some_iff.mp hn).1
      omega
    obtain ⟨a, k, e, hk, ha⟩ := m n us[n] (List.getElem?_eq_getElem hlt)
    rw [hn] at hk
    cases hk
    refine ⟨us[n], List.getElem_mem hlt, ?_⟩
    rw [e, isP_at ha]
    exact decide_eq_true rfl
def rInP (K : PySem.W.Frag) (neg : Bool) : R2 := fun x y H Q => ∃ (p a : Addr) (xs : List V) (ks : List (Int × Int)) (q : Int × Int), y = .ref p ∧ SqL K H p xs ∧ P2 H xs ks ∧ x = .ref a ∧ H a = some (.tup [.int q.1, .int q.2]) ∧ Q (.bl (if neg then !decide (q ∈ ks) else decide (q ∈ ks))) H
theorem op_inP (hu : X.A.units + 64 < cLine) : OpR X (compareOp .In) (rInP X.K false) := by
  intro pins s σ H x y v u Q I rx ry h
  obtain ⟨p, a, xs, ks, q, rfl, hq, hp, rfl, ha, k⟩ := h
  cases ry
  cases rx
  obtain ⟨its, r, pl, hz⟩ := I.list hq
  refine SeqAt.in_listAt (isP H q) pl.isList (fun w hw => ?_) ⟨.bl _, H, I, rfl, ?_⟩
  · obtain ⟨n, hn⟩ := List.getElem?_of_mem (show w ∈ its by simpa using hw)
    obtain ⟨b, kk, rfl, hk, hb⟩ := (hp.mem r).2 n w hn
    rw [isP_at hb]
    exact eqAt_pair I hb ha (by show X.A.units + 1 < cLine; omega)
  · rw [show its.toArray.any (isP H q) = its.any (isP H q) by simp, any_isP hp r]
    exact k
theorem op_notInP (hu : X.A.units + 64 < cLine) : OpR X (compareOp .NotIn) (rInP X.K true) := by
  intro pins s σ H x y v u Q I rx ry h
  obtain ⟨p, a, xs, ks, q, rfl, hq, hp, rfl, ha, k⟩ := h
  cases ry
  cases rx
  obtain ⟨its, r, pl, hz⟩ := I.list hq
  refine SeqAt.notIn_listAt (isP H q) pl.isList (fun w hw => ?_) ⟨.bl _, H, I, rfl, ?_⟩
  · obtain ⟨n, hn⟩ := List.getElem?_of_mem (show w ∈ its by simpa using hw)
    obtain ⟨b, kk, rfl, hk, hb⟩ := (hp.mem r).2 n w hn
    rw [isP_at hb]
    exact eqAt_pair I hb ha (by show X.A.units + 1 < cLine; omega)
  · rw [show its.toArray.any (isP H q) = its.any (isP H q) by simp, any_isP hp r]
    exact k
end
end Hs
/-! the ids to which heads lead, by the law itself -/
namespace Hs
open PySem PySem.Spec PyProof.Rows L2 Hu Evl
section
variable {K : PySem.W.Frag} {σ : L2.St} {H : Hp} {tl te : TE} {t : TT}
theorem take_filter2 {α : Type} {us : List α} {i : Nat} {u : α} (g : α → Bool) (h : us[i]? = some u) : (us.take (i + 1)).filter g = (us.take i).filter g ++ if g u = true then [u] else [] := by
  rw [List.take_add_one, h, List.filter_append]
  congr 1
  by_cases q : g u = true
  · rw [if_pos q]
    show List.filter g [u] = _
    rw [List.filter_cons_of_pos q]
    rfl
  · rw [if_neg q]
    show List.filter g [u] = _
    rw [List.filter_cons_of_neg q]
    rfl
theorem P2.append {H : Hp} {vs ws : List V} {ks ls : List (Int × Int)} (h : P2 H vs ks) (h2 : P2 H ws ls) : P2 H (vs ++ ws) (ks ++ ls) := by
  induction h with
  | nil => exact h2
  | cons h _ ih => exact .cons h ih
theorem P2.ex {H H' : Hp} {vs : List V} {ks : List (Int × Int)} (e : Ex H H') (h : P2 H vs ks) : P2 H' vs ks := h.tups fun b zs hb => e _ _ hb
/-- [k for k in pairs if ..] -/
theorem lc_P {us0 : List U} {a : Addr} {j : Nat} {vs : List Nat} {xs : List V} {ks : List (Int × Int)} {g : Int × Int → Bool} (h : Ev tl σ H (.ref a)) (hx : Tu H a xs us0) (hp : P2 H xs ks) (hw : ∀ x, wipe ((wipe σ vs).set j (some x)) vs = wipe σ vs) (hz : ks.length ≤ 40000)
    (ht : ∀ (p : Addr) (k : Int × Int) (G : Hp), Ex H G → G p = some (.tup [.int k.1, .int k.2]) → EvT t ((wipe σ vs).set j (some (.ref p))) G (g k)) (he : ∀ (p : Addr) (G : Hp), Ev te ((wipe σ vs).set j (some (.ref p))) G (.ref p)) :
    ∀ H0, Ex H H0 → ∀ Q : VK, (∀ p zs H', H0 p = none → Ex H0 H' → H' p = some (.lst zs) → P2 H' zs (ks.filter g) → Q (.ref p) H') → tLc (iTup K tl) (gName j) t te vs σ H0 Q := fun H0 e Q q => h H0 e _ fun H1 e1 => ⟨a, rfl, ⟨xs, Tu.st (Tu.ex (e.trans e1) hx)⟩, fun Dl hD =>
  lc_tup (xs := xs) (fun i H' => Ex H1 H' ∧ ∃ ys, H' Dl = some (.lst ys) ∧ ys.length ≤ i ∧ P2 H' ys ((ks.take i).filter g)) ⟨Ex.new hD, [], upd_same, Nat.le_refl _, .nil⟩ (fun i H' _ p => Tu.st (Tu.ex ((e.trans e1).trans p.1) hx)) (fun i x H2 hi p => by
    obtain ⟨p1, ys, p2, p3, p4⟩ := p
    obtain ⟨b, k, rfl, hk, hb⟩ := hp.get hi
    have hi' : i < ks.length := (List.getElem?_eq_some_iff.mp hk).1
    have e2 := (e.trans e1).trans p1
    refine ⟨hw _, ht b k H2 e2 (e2 _ _ hb) H2 (Ex.refl H2) _ fun H3 e3 => ?_⟩
    have eg : (ks.take (i + 1)).filter g = (ks.take i).filter g ++ if g k = true then [k] else [] := take_filter2 g hk
    cases hg : g k with
    | false =>
      rw [hg] at eg
      rw [if_neg Bool.false_ne_true, List.append_nil] at eg
      rw [if_neg Bool.false_ne_true]
      exact ⟨p1.trans e3, ys, e3 _ _ p2, by omega, by rw [eg]; exact p4.ex e3⟩
    | true =>
      rw [hg, if_pos rfl] at eg
      rw [if_pos rfl]
      refine he b H3 H3 (Ex.refl H3) _ fun H4 e4 => ⟨ys, e4 _ _ (e3 _ _ p2), ?_, fun q o hq => ?_, ys ++ [.ref b], upd_same, ?_, ?_⟩
      · have := bit_line
        unfold bit at this
        omega
      · rw [upd_ne (ne_of_none hq hD)]
        exact e4 _ _ (e3 _ _ (p1 _ _ hq))
      · rw [List.length_append]
        show ys.length + 1 ≤ i + 1
        omega
      · have nt : ∀ b zs, H4 b = some (.tup zs) → upd H4 Dl (.lst (ys ++ [.ref b])) b = some (.tup zs) := fun b' zs hb' => by
          rw [upd_ne (fun z => by rw [z, e4 _ _ (e3 _ _ p2)] at hb'; cases hb')]
          exact hb'
        have nt2 : ∀ c zs, H4 c = some (.tup zs) → upd H4 Dl (.lst (ys ++ [V.ref b])) c = some (.tup zs) := fun c zs hc => by
          rw [upd_ne (fun z => by rw [z, e4 _ _ (e3 _ _ p2)] at hc; cases hc)]
          exact hc
        rw [eg]
        exact ((p4.ex (e3.trans e4)).tups nt2).append (.cons (nt2 _ _ ((e2.trans (e3.trans e4)) _ _ hb)) .nil)) (fun H' p => by
    obtain ⟨p1, ys, p2, p3, p4⟩ := p
    rw [hp.len, List.take_length] at p4
    exact q Dl ys H' (fresh_back e1 hD) (e1.trans p1) p2 p4)⟩
end
section
variable {P : Program} {wd : World} {K : PySem.W.Frag} {mg : Str → Option Value} {base : Heap} {C : Addr}
def idP (u : U) : Int × Int := match u with | .tup [.int i, .int j] => (i, j) | _ => (0, 0)
def rowP (u : U) : List (Int × Int) := match u with | .tup us => us.map idP | _ => []
def ledStep (f : List (Int × Int)) (h : U) : List (Int × Int) := f ++ (rowP (nth h 2)).filter fun k => !decide (k ∈ f)
def ledL (us : List U) : List (Int × Int) := us.foldl ledStep []
theorem row_p2 {w : Addr} {H : Hp} : ∀ {us : List U} {xs : List V}, AtL w C H xs us → us.all gId = true → P2 H xs (us.map idP)
  | [], _, .nil, _ => .nil
  | u :: us, _, .cons h t, hall => by
    rw [List.all_cons, Bool.and_eq_true] at hall
    obtain ⟨i, j, rfl⟩ := gId_two hall.1
    obtain ⟨p, rfl, hp⟩ := two_ints h
    exact .cons (k := (i, j)) hp (row_p2 t hall.2)
def spIL (C : Addr) : Sp := fun vs H Q _ => ∃ (x : V) (u : U) (us : List U) (w : Addr), vs = [x] ∧ At w C H x u ∧ gTO 10 u = true ∧ nth u 4 = .tup us ∧ us.all gNamed = true ∧ us.length ≤ 3000 ∧ ∀ p ys H', H p = none → Same H H' → H' p = some (.lst ys) → P2 H' ys (ledL us) → Q (.ref p) H'
theorem scIL : FnScope ["table", "found", "head", "one"] ["table"] (defScope lIdsLed) := ⟨rfl, rfl, rfl, by decide +kernel, rfl, by decide +kernel, by decide +kernel⟩
theorem ok_idsLed {f : Addr} {fd : FuncData} (F : Fun K "_law_ids_led" "_law_ids_led" lIdsLed f fd) : FnOk P wd K mg base CX0 1 f fd ["table"] (spIL C) := by
  refine F.ok scIL (fun vs H Q E h => ?_) (fun cdv A outer s H vs Q E hr h => ?_)
  · obtain ⟨x, u, us, w, rfl, _⟩ := h
    rfl
  obtain ⟨x, u, us, w, rfl, hx, hT, h4, hall, hz, k⟩ := h
  refine ⟨_, pss_cons (ps_set (i := 1) scIL.nd rfl (.inr rfl) (pe_lst pa_nil))
    (pss_cons (ps_for PassesOwn.never rfl (pi_tup (pe_ix ix_tup (pv 0) pe_int (fun _ _ => rfl))) (pg_name (i := 2) scIL.nd rfl (Or.inl rfl))
      (pss_one (ps_if (pt_cmpR op_notN1 (pe_ix ix_tup (pv 2) pe_int (fun _ _ => rfl)) pe_non (nomark _))
        (pss_one (ps_set (i := 1) scIL.nd rfl (.inr rfl) (pe_op op_cat (pv 1) (pe_lc (own := [("one", 3)]) (g := gName 3) (tt := tTest (tOp (rInP K true) (tVar 3) (tVar 1))) rfl scIL.nd (pi_tup (pe_ix ix_tup (pv 2) pe_int (fun _ _ => rfl))) (blkOk_by (N := ["table", "found", "head", "one"]) (sc := defScope lIdsLed) (by decide +kernel))
          (fun _ _ _ _ _ => pg_name (i := 3) scIL.nd rfl (Or.inl rfl)) (fun _ _ _ _ _ => pts_one (pt_cmpR (show OpR _ _ (rInP K true) from op_notInP (room_hu hr)) (pv 3) (pv 1) (by rfl))) (fun _ _ _ _ _ => pv 3))))) pss_nil)))
    (pss_one (ps_ret (pv 1)))), ?_⟩
  refine ⟨sz_of (show (0 : Nat) ≤ 100000 by decide), fun p0 hp0 => ?_⟩
  dsimp only [gName]
  have e0 : Ex H (upd H p0 (.lst [])) := Ex.new hp0
  have u0 : upd H p0 (.lst []) p0 = some (.lst []) := upd_same
  show tSeq _ _ _ [some x, some (V.ref p0), none, none] _
  generalize upd H p0 (.lst []) = H1 at e0 u0
  obtain ⟨y, ey, ay⟩ := ev_nth (K := K) (σ := [some x, some (V.ref p0), none, none]) (te := tVar 0) (k := 4) (ev_var rfl) (ex_at e0 hx) hT (by decide)
  rw [h4] at ay
  obtain ⟨a, xs, rfl, ha, na, hl⟩ := at_tup ay
  have hlen := AtL.length hl
  refine ey H1 (Ex.refl H1) _ fun H2 e2 => ⟨a, rfl, ⟨xs, Tu.st (Tu.ex e2 ha)⟩, ?_⟩
  refine for_it (walk_tup (K := K) (a := a) (xs := xs)) (fun i σ' H' => ∃ (p : Addr) (ys : List V) (x2 : Option V), σ' = [some x, some (V.ref p), x2, none] ∧ Ex H1 H' ∧ H p = none ∧ H' p = some (.lst ys) ∧ P2 H' ys (ledL (us.take i)) ∧ ys.length ≤ 12 * i)
    ⟨p0, [], none, rfl, e2, hp0, e2 _ _ u0, .nil, Nat.zero_le _⟩ (fun i σ' H' _ ⟨_, _, _, _, e, _⟩ => Tu.st (Tu.ex e ha)) ?_ ?_
  · rintro i v σ' H0' H3 hi ⟨p, ys, x2, rfl, e3, hp, hpl, p2, ln⟩ ⟨rfl, hv⟩
    have hi' : i < us.length := by omega
    obtain ⟨v', hv', av⟩ := AtL.get (ex_atl e3 hl) (List.getElem?_eq_getElem hi')
    rw [hv] at hv'
    cases hv'
    have hg : us[i]? = some us[i] := List.getElem?_eq_getElem hi'
    have tk : ledL (us.take (i + 1)) = ledStep (ledL (us.take i)) us[i] := by
      unfold ledL
      rw [List.take_add_one, hg, List.foldl_append]
      rfl
    have gn := List.all_eq_true.mp hall _ (List.getElem_mem hi')
    generalize us[i] = un at av tk gn
    obtain ⟨z, s1, r1, rfl, _, gr⟩ := gNamed_is gn
    show tIfS _ _ tNext _ [some x, some (V.ref p), some v, none] H3
    obtain ⟨y2, ey2, ay2⟩ := ev_nth (K := K) (m := 3) (σ := [some x, some (V.ref p), some v, none]) (te := tVar 2) (k := 2) (ev_var rfl) av rfl (by decide)
    have ay2' : At w C H3 y2 r1 := ay2
    refine (et_test (b := !isNon r1) (ev_is (ev_op ey2 ev_c fun G eg Q q => ⟨rfl, q G (Ex.refl G)⟩) (by rw [at_non ay2']))) H3 (Ex.refl H3) _ fun H4 e4 => ?_
    have hrow : (rowP (nth (.tup [.str z, s1, r1]) 2)) = rowP r1 := rfl
    cases r1 with
    | non =>
      refine ⟨p, ys, _, rfl, e3.trans e4, hp, e4 _ _ hpl, ?_, by omega⟩
      rw [tk]
      show P2 H4 ys (ledL (us.take i) ++ [])
      rw [List.append_nil]
      exact p2.ex e4
    | tup ids =>
      obtain ⟨g1, g2⟩ := and2 (a := decide (ids.length ≤ 12)) (b := ids.all gId) gr
      have g1' := of_decide_eq_true g1
      obtain ⟨c, cs, rfl, hc, _, hcl⟩ := at_tup (ex_at e4 ay2')
      have pr := row_p2 hcl g2
      refine ⟨_, rfl, (lc_P (K := K) (g := fun k => !decide (k ∈ ledL (us.take i))) (ey2.mono e4) hc pr (fun _ => rfl) (by rw [List.length_map]; omega) (fun q kk G eg hq => et_test (ev_op (ev_var rfl) (ev_var rfl) fun G' eg' Q f => ⟨p, q, ys, _, kk, rfl, sq_of ((e4.trans (eg.trans eg')) _ _ hpl), p2.ex (e4.trans (eg.trans eg')), rfl, eg' _ _ hq, f G' (Ex.refl G')⟩)) (fun q G => ev_var rfl)) H4 (Ex.refl H4) _ fun q zs H5 hq e5 h5 pz => ?_⟩
      have l2 := pz.len
      have l3 := List.length_filter_le (fun k => !decide (k ∈ ledL (us.take i))) (ids.map idP)
      rw [List.length_map] at l3
      refine ⟨p, q, ys, zs, rfl, rfl, e5 _ _ (e4 _ _ hpl), h5, sz_of (by show ys.length + zs.length ≤ 100000; omega), fun b hb => ?_⟩
      have e6 : Ex H5 (upd H5 b (.lst (ys ++ zs))) := Ex.new hb
      refine ⟨b, ys ++ zs, _, rfl, ((e3.trans e4).trans e5).trans e6, fresh_back (((e0.trans e3).trans e4).trans e5) hb, upd_same, ?_, by rw [List.length_append]; omega⟩
      rw [tk]
      exact ((p2.ex ((e4.trans e5).trans e6)).append (pz.ex e6))
    | bl b => cases gr
    | int j => cases gr
    | str z => cases gr
    | lst l => cases gr
    | dct l => cases gr
    | exc => cases gr
  · rintro σ' H3 ⟨p, ys, x2, rfl, e3, hp, hpl, p2, ln⟩
    rw [hlen, List.take_length] at p2
    exact ⟨_, rfl, k p ys H3 hp (e0.trans e3) hpl p2⟩
end
end Hs
/-! dict(t), t a locked tuple of pairs, the keys tuples of texts and integers -/
namespace Hu
open PySem PySem.Spec PyProof.Rows L2
/-- pairs of keys that are tuples, and of values -/
inductive Pq (K : PySem.W.Frag) (H : Hp) : List V → List (List L2.Key × V) → Prop
  | nil : Pq K H [] []
  | cons {p c : Addr} {k : List L2.Key} {x : V} {vs : List V} {kvs : List (List L2.Key × V)} : SqT K H p [.ref c, x] → H c = some (.tup (k.map kV)) → Pq K H vs kvs → Pq K H (.ref p :: vs) ((k, x) :: kvs)
theorem stored_all {K : Type} [DecidableEq K] : ∀ (ps xs : List (K × Addr × Value)), ((xs ++ ps).map (·.1)).Nodup → storedAllH xs ps = xs ++ ps
  | [], xs, _ => by rw [List.append_nil]; rfl
  | p :: ps, xs, n => by
    have e : atKey xs p.1 = none := by
      unfold atKey
      have : xs.find? (fun x => decide (x.1 = p.1)) = none := by
        rw [List.find?_eq_none]
        intro x hx
        rw [List.map_append, List.nodup_append] at n
        have := n.2.2 x.1 (List.mem_map.mpr ⟨x, hx, rfl⟩) p.1 (List.mem_map.mpr ⟨p, by simp, rfl⟩)
        simpa using this
      rw [this]
      rfl
    show storedAllH (storedH xs p.1 p.2.1 p.2.2) ps = xs ++ p :: ps
    rw [storedH_new e, stored_all ps _ (by simpa using n)]
    simp
section
variable {X : Cx} {pins : List (Addr × Obj)} {σ : L2.St} {H : Hp} {s : Shared}
theorem pq_of (I : Inv X pins σ H s) : ∀ {vs : List V} {kvs : List (List L2.Key × V)} {us : List Value}, Pq X.K H vs kvs → Vals vs us →
    ∃ (Ts : List Addr) (ts : List (List L2.Key × Addr × Value)), us = Ts.map Value.ref ∧ KT H kvs ts ∧ ts.length = us.length ∧ ∀ (j : Nat) (t : List L2.Key × Addr × Value), ts[j]? = some t → ∃ b, Ts[j]? = some b ∧ IsTup s.heap b #[.ref t.2.1, t.2.2] ∧ H t.2.1 = some (.tup (t.1.map kV))
  | _, _, _, .nil, r => by
    cases r
    exact ⟨[], [], rfl, .nil, rfl, fun j t e => by simp at e⟩
  | _, _, _, .cons (p := p) (c := c) (k := k) (x := x) h hc t, r => by
    cases r with
    | cons r1 r2 =>
      cases r1
      obtain ⟨Ts, ts, e1, e2, e3, e4⟩ := pq_of I t r2
      obtain ⟨its, rv, ht, _⟩ := I.tuple h
      obtain ⟨u, y, ei, ru, ry⟩ := vals2 rv
      subst ei
      cases ru
      subst e1
      refine ⟨p :: Ts, (k, c, y) :: ts, rfl, .cons ⟨rfl, hc, ry⟩ e2, by rw [List.length_cons, List.length_cons, e3], fun j q e => ?_⟩
      cases j with
      | zero =>
        have e' : (k, c, y) = q := Option.some.inj e
        subst e'
        exact ⟨p, rfl, ht, hc⟩
      | succ j =>
        obtain ⟨b, f1, f2, f3⟩ := e4 j q (by simpa using e)
        exact ⟨b, by simpa using f1, f2, f3⟩
def rDictT (K : PySem.W.Frag) : List V → Hp → VK → Prop := fun xs H Q => ∃ (a : Addr) (o : Obj) (vs : List V) (kvs : List (List L2.Key × V)), xs = [.ref a] ∧ o.dict = none ∧ H a = some (.frz o (.tup vs)) ∧ Pq K H vs kvs ∧ (kvs.map (·.1)).Nodup ∧ ∀ d, H d = none → Q (.ref d) (upd H d (.dT kvs))
theorem keys_same {kvs : List (List L2.Key × V)} {ts : List (List L2.Key × Addr × Value)} (h : KT H kvs ts) : kvs.map (·.1) = ts.map (·.1) := by
  induction h with
  | nil => rfl
  | cons h _ ih => rw [List.map_cons, List.map_cons, ih, h.1]
theorem call_dictT (hcalm : X.calm = true) (hu : X.A.units + 2 < cLine) : CallR X (.type "dict") (rDictT X.K) := by
  intro pins s σ H xs us Q I r q
  obtain ⟨a, o, vs, kvs, rfl, od, ha, hp, nd, q⟩ := q
  obtain ⟨u, rfl, rx⟩ := vals1 r
  cases rx
  obtain ⟨got, hz, its, rv, o', g1, g2, m, g3⟩ : ObjOk X.prog X.w H s.heap a (.frz o (.tup vs)) := I.hok a _ ha
  rw [got] at g1
  cases g1
  obtain ⟨Ts, ts, e1, e2, e3, e4⟩ := pq_of I hp rv
  have hlen : its.length = vs.length := rv.length.symm
  have ndt : (ts.map (·.1)).Nodup := by rw [← keys_same e2]; exact nd
  have all : storedAllH [] ts = ts := stored_all ts [] (by simpa using ndt)
  have hkey : ∀ (h' : Heap), (∀ b ob, s.heap.get? b = some ob → h'.get? b = some ob) → ∀ x ∈ ts, (tupleKind (mixKind X.prog X.w)).is h' x.1 x.2.1 := fun h' k x hx => by
    obtain ⟨j, hj⟩ := List.mem_iff_getElem?.mp hx
    obtain ⟨b, _, _, f3⟩ := e4 j x hj
    exact key_of (I.hok.kept k) f3
  refine call_dict_pairsH (knd := tupleKind (mixKind X.prog X.w)) (ps := ts) (PairArg.tuple a its.toArray (fun j => Ts.getD j 0) (ts.map fun t => (Value.ref t.2.1, t.2.2))) (I.ok.hd hcalm) ?_ ⟨⟨o, m, got, g2, od, g3⟩, ?_, ?_⟩ ⟨by rw [List.length_map], ?_⟩ ?_ ?_ ?_
  · show X.A.in1.in1.units < cLine
    exact hu
  · rw [List.length_map, List.size_toArray, e3]
  · intro j k v hj
    rw [List.getElem?_map] at hj
    cases ht : ts[j]? with
    | none => rw [ht] at hj; cases hj
    | some t =>
      rw [ht] at hj
      cases hj
      obtain ⟨b, f1, f2, f3⟩ := e4 j t ht
      have hg : Ts.getD j 0 = b := by rw [List.getD_eq_getElem?_getD, f1]; rfl
      refine ⟨?_, ?_⟩
      · dsimp only
        rw [hg, List.getElem?_toArray, e1, List.getElem?_map, f1]
        rfl
      · dsimp only
        rw [hg]
        exact .inl f2
  · intro i key v hi
    have hi : (ts.map fun t => (Value.ref t.2.1, t.2.2))[i]? = some (key, v) := hi
    rw [List.getElem?_map] at hi
    cases ht : ts[i]? with
    | none => rw [ht] at hi; cases hi
    | some t =>
      rw [ht] at hi
      cases hi
      exact ⟨t.1, t.2.1, rfl, rfl⟩
  · intro h' k x hx
    exact hkey h' (fun b ob e => k b ob (Nat.ne_of_lt (Heap.lt_size e)) (by simp) e) x hx
  · rw [List.length_map, e3, hlen]
    exact hz
  · intro h' tk hd' k
    rw [all] at hd'
    have k' : ∀ b ob, s.heap.get? b = some ob → h'.get? b = some ob := fun b ob e => k b ob (by simp) e
    obtain ⟨od', es, ep, d1, d2, d3, d4, _, d5⟩ := hd'
    have hm : (s.heap.objs.size == sysModules) = false := beq_eq_false_iff_ne.mpr (Nat.ne_of_gt I.big)
    have hf := I.hok.fresh (Nat.le_refl s.heap.objs.size)
    have hl : kvs.length ≤ sizeLine := by rw [e2.length, e3, hlen]; exact hz
    have kt : KT (upd H s.heap.objs.size (.dT kvs)) kvs ts := by
      have : ∀ {l : List (List L2.Key × V)} {m : List (List L2.Key × Addr × Value)}, KT H l m → KT (upd H s.heap.objs.size (.dT kvs)) l m := fun {l m} q => by
        induction q with
        | nil => exact .nil
        | cons h _ ih => exact .cons ⟨h.1, by rw [upd_ne (ne_of_none h.2.1 hf)]; exact h.2.1, h.2.2⟩ ih
      exact this e2
    exact ⟨.ref s.heap.objs.size, upd H s.heap.objs.size (.dT kvs), I.laid (t' := tk) k' (Nat.le_refl _) (show ObjOk X.prog X.w _ _ _ (.dT kvs) from ⟨hl, hm, ts, kt, od', es, ep, d1, d2, d3, d4, d5⟩), rfl, q _ hf⟩
end
end Hu
/-! a dict comprehension of two clauses, tuples as keys -/
namespace Hk
open PySem PySem.Spec PyProof.Rows L2
abbrev dcc (kx vx ta ia tb ib : Expr) (fa fb : List Expr) (sc : Scope) (p : Pos) : Expr := .DictComp kx vx [⟨ta, ia, fa, 0⟩, ⟨tb, ib, fb, 0⟩] sc p
theorem turn_far (kx vx ta ia tb ib : Expr) (fa fb : List Expr) (sc : Scope) (p : Pos) (it acc : Value) (env : Env) :
    compTurn (dcc kx vx ta ia tb ib fa fb sc p) 0 it acc env = (do
      standAt ia.pos
      match ← pyNext it with
      | none => pure (.done .next)
      | some v =>
        letOwnedTupleGo ta it v
        assign ta env v
        let mut good := true
        for c in fa do
          if good then good ← isTrue c env (eval c env)
        if good then
          let y ← eval ib env
          standAt ib.pos
          let y ← foldedSetIterable ib env y
          let _ ← runOwn (.compStart (dcc kx vx ta ia tb ib fa fb sc p) 1 (← holding [y] (pyIter y)) acc env) env
        again (.compLoop (dcc kx vx ta ia tb ib fa fb sc p) 0 it acc env)) := by rfl
theorem turn_near (kx vx ta ia tb ib : Expr) (fa fb : List Expr) (sc : Scope) (p : Pos) (it : Value) (D : Addr) (env : Env) :
    compTurn (dcc kx vx ta ia tb ib fa fb sc p) 1 it (.ref D) env = (do
      standAt ib.pos
      match ← pyNext it with
      | none => pure (.done .next)
      | some v =>
        letOwnedTupleGo tb it v
        assign tb env v
        let mut good := true
        for c in fb do
          if good then good ← isTrue c env (eval c env)
        if good then
          (do
            let y ← eval kx env
            let z ← holding [y] (eval vx env)
            standAt { kx.pos with endLine := vx.pos.endLine, endCol := vx.pos.endCol }
            holding [y, z] (dictSet D y z))
        again (.compLoop (dcc kx vx ta ia tb ib fa fb sc p) 1 it (.ref D) env)) := by rfl
section
variable {prog : Program} {wd : World} {A : Around} {R : Result → Shared → Prop} {s : Shared} {kx vx ta ia tb ib : Expr} {fa fb : List Expr} {sc : Scope} {p : Pos} {it acc : Value} {D : Addr} {env : Env}
abbrev eR (prog : Program) (wd : World) (A : Around) (env : Env) (R : Result → Shared → Prop) : Value → Shared → Prop := notedBy (model prog wd) A env fun e u => R (.error e) u
abbrev fW (fs : List Expr) (env : Env) : Sem Bool := forIn fs true fun c r => if r = true then do let ok ← isTrue c env (eval c env); pure (ForInStep.yield ok) else pure (ForInStep.yield r)
/-- the far loop -/
theorem loop_far (hs : ∀ x, foldedSetIterable ib env x = pure x) (I : Nat → Shared → Prop)
    (turn : ∀ n s, I n s → wpAny (model prog wd) A (pyNext it) (fun r s1 => match r with
      | none => R (.ok .next) s1
      | some v => wpAny (model prog wd) A (letOwnedTupleGo ta it v) (fun _ s2 => wpAny (model prog wd) A (assign ta env v) (fun _ s3 =>
          wpAny (model prog wd) A (fW fa env) (fun ok s4 =>
            if ok = true then wpAny (model prog wd) A (eval ib env) (fun x s5 => wpAny (model prog wd) A (pyIter x) (fun jt s6 =>
              codeAny (model prog wd) A (.compStart (dcc kx vx ta ia tb ib fa fb sc p) 1 jt acc env) (fun r u => match r with
                | .ok _ => ∃ m, m < n ∧ I m u
                | .error _ => False) s6) (eR prog wd A env R) s5) (eR prog wd A env R) s4
            else ∃ m, m < n ∧ I m s4) (eR prog wd A env R) s3) (eR prog wd A env R) s2) (eR prog wd A env R) s1) (eR prog wd A env R) s)
    (n : Nat) (h : I n s) : codeAny (model prog wd) A (.compLoop (dcc kx vx ta ia tb ib fa fb sc p) 0 it acc env) R s := by
  refine codeAny_loop rfl I (fun n s hI => ?_) n h
  show wpAny _ A ((compTurn (dcc kx vx ta ia tb ib fa fb sc p) 0 it acc env).onRaise (fun e => do noteFrame e env; theTreesLotGoes e)) _ _ s
  refine wpAny_noted ?_
  rw [turn_far]
  refine wpAny_bind (wpAny_standAt (wpAny_bind (wpAny_mono (turn n s hI) (fun r s1 h1 => ?_) fun _ _ z => z)))
  cases r with
  | none => exact wpAny_pure h1
  | some v =>
    refine wpAny_bind (wpAny_mono h1 (fun _ s2 h2 => ?_) fun _ _ z => z)
    refine wpAny_bind (wpAny_mono h2 (fun _ s3 h3 => wpAny_bind (wpAny_mono h3 (fun ok s4 h4 => ?_) fun _ _ z => z)) fun _ _ z => z)
    cases ok with
    | false => exact wpAny_pure ⟨rfl, h4⟩
    | true =>
      refine wpAny_bind (wpAny_mono h4 (fun x s5 h5 => ?_) fun _ _ z => z)
      refine wpAny_bind (wpAny_standAt (wpAny_bind (wpAny_of_eq (hs x) (wpAny_bind (wpAny_holding (wpAny_mono h5 (fun jt s6 h6 => ?_) fun _ _ z => z))))))
      refine wpAny_bind (wpAny_runOwn ?_)
      rw [Around.mark_none]
      refine codeAny_mono h6 fun r u hr => ?_
      cases r with
      | error e => exact hr.elim
      | ok f =>
        first
          | exact wpAny_pure ⟨rfl, hr⟩
          | exact wpAny_bind (wpAny_pure (wpAny_pure ⟨rfl, hr⟩))
/-- the near loop -/
theorem loop_near (I : Nat → Shared → Prop)
    (turn : ∀ n s, I n s → wpAny (model prog wd) A (pyNext it) (fun r s1 => match r with
      | none => R (.ok .next) s1
      | some v => wpAny (model prog wd) A (letOwnedTupleGo tb it v) (fun _ s2 => wpAny (model prog wd) A (assign tb env v) (fun _ s3 =>
          wpAny (model prog wd) A (fW fb env) (fun ok s4 =>
            if ok = true then wpAny (model prog wd) A (eval kx env) (fun y s5 => wpAny (model prog wd) A (eval vx env) (fun z s6 =>
              wpAny (model prog wd) A (dictSet D y z) (fun _ s7 => ∃ m, m < n ∧ I m s7) (eR prog wd A env R) s6) (eR prog wd A env R) s5) (eR prog wd A env R) s4
            else ∃ m, m < n ∧ I m s4) (eR prog wd A env R) s3) (eR prog wd A env R) s2) (eR prog wd A env R) s1) (eR prog wd A env R) s)
    (n : Nat) (h : I n s) : codeAny (model prog wd) A (.compLoop (dcc kx vx ta ia tb ib fa fb sc p) 1 it (.ref D) env) R s := by
  refine codeAny_loop rfl I (fun n s hI => ?_) n h
  show wpAny _ A ((compTurn (dcc kx vx ta ia tb ib fa fb sc p) 1 it (.ref D) env).onRaise (fun e => do noteFrame e env; theTreesLotGoes e)) _ _ s
  refine wpAny_noted ?_
  rw [turn_near]
  refine wpAny_bind (wpAny_standAt (wpAny_bind (wpAny_mono (turn n s hI) (fun r s1 h1 => ?_) fun _ _ z => z)))
  cases r with
  | none => exact wpAny_pure h1
  | some v =>
    refine wpAny_bind (wpAny_mono h1 (fun _ s2 h2 => ?_) fun _ _ z => z)
    refine wpAny_bind (wpAny_mono h2 (fun _ s3 h3 => wpAny_bind (wpAny_mono h3 (fun ok s4 h4 => ?_) fun _ _ z => z)) fun _ _ z => z)
    cases ok with
    | false => exact wpAny_pure ⟨rfl, h4⟩
    | true =>
      exact wpAny_bind (wpAny_bind (wpAny_mono h4 (fun y s5 h5 => wpAny_bind (wpAny_holding (wpAny_mono h5 (fun z s6 h6 => wpAny_bind (wpAny_standAt (wpAny_holding (wpAny_mono h6 (fun _ s7 h7 => wpAny_pure ⟨rfl, h7⟩) fun _ _ z => z)))) fun _ _ z => z))) fun _ _ z => z))
theorem start_near (h0 : codeAny (model prog wd) A (.compLoop (dcc kx vx ta ia tb ib fa fb sc p) 1 it acc env) R s)
    (h : wpAny (model prog wd) A (pyIter it) (fun jt u => codeAny (model prog wd) A (.compLoop (dcc kx vx ta ia tb ib fa fb sc p) 1 jt acc env) R u) (eR prog wd A env R) s) :
    codeAny (model prog wd) A (.compStart (dcc kx vx ta ia tb ib fa fb sc p) 1 it acc env) R s := by
  refine codeAny_of_tree ?_
  show wpAny _ _ ((compStart (dcc kx vx ta ia tb ib fa fb sc p) 1 it acc env).onRaise (fun e => do noteFrame e env; standAt theWindowsPlace)) _ _ s
  refine wpAny_notedAt ?_
  unfold compStart
  show wpAny _ _ (ask >>= _) _ _ s
  refine wpAny_bind (wpAny_askSetting (wpAny_ite ?_))
  split
  · first
      | exact wpAny_bind (wpAny_pure (wpAny_pure ⟨rfl, h0⟩))
      | exact wpAny_pure ⟨rfl, h0⟩
  · first
      | exact wpAny_bind (wpAny_rule (wpAny_bind (wpAny_standAt (wpAny_bind (wpAny_mono h (fun jt u hu => wpAny_pure ⟨rfl, hu⟩) fun _ _ z => z)))))
      | (refine wpAny_bind (wpAny_rule ?_); show wpAny _ _ (standAt ib.pos >>= _) _ _ s; exact wpAny_bind (wpAny_standAt (wpAny_bind (wpAny_mono h (fun jt u hu => wpAny_pure ⟨rfl, hu⟩) fun _ _ z => z))))
end
section
variable {X : Cx} {pins : List (Addr × Obj)} {σ : L2.St} {H : Hp} {s : Shared}
/-- what the near clause does from a heap on: `Nx` behind it -/
def nearOk (D : Addr) (J1 : It) (g1 : TG) (tt1 : TT) (tk tv : TE) (vs1 : List Nat) (τ : L2.St) (Nx : Hp → Prop) (G : Hp) : Prop := ∃ W1 : Nat → Nat → Hp → Prop, (∃ m, W1 0 m G) ∧ ∀ j k G, W1 j k G →
  (J1.stop j G ∧ Nx G) ∨ (J1.go j G ∧ ∃ Nx1 : Hp → Prop, (∀ G', Nx1 G' → ∃ k', k' < k ∧ W1 (j + 1) k' G') ∧ ∀ x G', J1.yld j G x G' → g1 x (wipe τ vs1) G' fun τ3 G5 => wipe τ3 vs1 = wipe τ vs1 ∧ tt1 τ3 G5 fun ok G6 =>
    if ok = true then tk τ3 G6 fun y G7 => tv τ3 G7 fun z G8 => ∃ b kvs k, y = .ref b ∧ G8 b = some (.tup (k.map kV)) ∧ G8 D = some (.dT kvs) ∧ kvs.length < sizeLine ∧ Nx1 (upd G8 D (.dT (putK kvs k z))) else Nx1 G6)
def tD2 (wi : TI) (g : TG) (tt : TT) (wi1 : TI) (g1 : TG) (tt1 : TT) (tk tv : TE) (vs vs1 : List Nat) : TE := fun σ H Q => wi σ H fun It G => ∀ D, G D = none → ∃ W : Nat → Nat → Hp → Prop, (∃ m, W 0 m (upd G D (.dT []))) ∧ ∀ i m H, W i m H →
  (It.stop i H ∧ Q (.ref D) H) ∨ (It.go i H ∧ ∃ Nx : Hp → Prop, (∀ H', Nx H' → ∃ m', m' < m ∧ W (i + 1) m' H') ∧ ∀ x H', It.yld i H x H' → g x (wipe σ vs) H' fun τ H2 => wipe τ vs = wipe σ vs ∧ tt τ H2 fun ok H3 =>
    if ok = true then wi1 τ H3 fun J1 H4 => nearOk D J1 g1 tt1 tk tv vs1 τ Nx H4 else Nx H3)
structure NearP (X : Cx) (tb ib : Expr) (fb : List Expr) (scope : Scope) (wi1 : TI) (g1 : TG) (tt1 : TT) : Prop where
  i : ∀ (s : Shared) (H : Hp) (C : Addr) (cl : List (Str × Addr)) (fp : List Addr), PI (X.blk s H scope (compEnvC scope cl C X.env) fp) tb ib wi1
  g : ∀ (s : Shared) (H : Hp) (C : Addr) (cl : List (Str × Addr)) (fp : List Addr), PG (X.blk s H scope (compEnvC scope cl C X.env) fp) tb g1
  t : ∀ (s : Shared) (H : Hp) (C : Addr) (cl : List (Str × Addr)) (fp : List Addr), PTs (X.blk s H scope (compEnvC scope cl C X.env) fp) fb tt1
  f : ∀ env x, foldedSetIterable ib env x = pure x
theorem d2_core {Q : VK} {kx vx ta ia tb ib : Expr} {fa fb : List Expr} {scope : Scope} {own : List (Str × Nat)} {vs1 : List Nat} {pos pos' : Pos} {wi wi1 : TI} {g g1 : TG} {tt tt1 : TT} {tk tv : TE} {use : Option (Value → Sem Unit)} {Qf : Value → Shared → Prop}
    (hu : X.A.units + 1 < cLine) (hc : X.calm = true) (nd : X.N.Nodup) (J : Inv X pins σ H s) (pi : PI X ta ia wi) (ok : BlkOk X.N X.env.scope scope own) (hv : ∀ i ∈ vs1, i ∈ own.map (·.2)) (P : DtP X kx vx ta fa scope g tt tk tv) (P1 : NearP X tb ib fb scope wi1 g1 tt1)
    (fl : ∀ x, foldedSetIterable ia X.env x = pure x) (h : tD2 wi g tt wi1 g1 tt1 tk tv (own.map (·.2)) vs1 σ H Q)
    (back : ∀ D C s' m H', Inv X pins σ H' s' → Q (.ref D) H' → s'.heap.Ns C m → FpOk X pins H' C → compPost (model X.prog X.w) X.A X.xe use Qf (.ref D) C (.ok .next) s') :
    wpAny (model X.prog X.w) X.A (comprehension (dcc kx vx ta ia tb ib fa fb scope pos) scope X.env pos' newDict false (eval ia X.env) use) Qf X.xe s := by
  have frees : ∀ y ∈ scope.names, y.2 = .free → ∃ c, X.env.cells.lookup y.1 = some c := fun y hy e => by
    rcases ok.free y hy e with k | k
    all_goals exact J.ok.has _ (by first | exact .inl k | exact .inr k)
  refine wpAny_comprehension_free (use := use) rfl fl (closure_ok frees) ok.kind (fun y hy e => by rw [ok.uniq y hy, e]) (thn (pi.run pins s σ H _ J h) fun xv t1 hx => thn hx fun itv t2 got => ?_)
  obtain ⟨it, fp, tn, It, G2, rfl, J2, T, st2, f2, q⟩ := got
  refine wpAny_newObj_type (newEnv_comp ?_)
  generalize eD : t2.heap.objs.size = D
  obtain ⟨W, ⟨m0, w0⟩, turn⟩ := q D (J2.hok.fresh (Nat.le_of_eq eD))
  generalize e3 : ({ t2 with heap := t2.heap.push { cls := .type "dict", data := .dict #[] } } : Shared) = t3
  have q3 : t3.heap = t2.heap.push { cls := .type "dict", data := .dict #[] } := by rw [← e3]
  have J3 : Inv X pins σ (upd G2 D (.dT [])) t3 := by
    rw [← e3]
    exact J2.laid (t' := t2.toks) (fun b o e => Heap.get?_push_of_some _ e) (Nat.le_of_eq eD) (by rw [← eD]; exact dt_empty t2.heap J2.big)
  have below : ∀ b ∈ fp, b < t2.heap.objs.size := fun b hb => (T.obj _ _ st2 b hb).elim fun o z => Heap.lt_size z.1
  have f3 : ∀ b ∈ fp, FpOk X pins (upd G2 D (.dT [])) b ∧ b < t3.heap.objs.size := fun b hb => ⟨⟨by rw [upd_ne (by rw [← eD]; exact Nat.ne_of_lt (below b hb))]; exact (f2 b hb).1, (f2 b hb).2⟩, by rw [q3, Heap.size_push]; exact Nat.lt_succ_of_lt (below b hb)⟩
  have st3 : tn 0 t3.heap := T.keep _ _ _ st2 fun b _ o e => by rw [q3]; exact Heap.get?_push_of_some _ e
  have J4 := block_start J3 ok nd f3
  have pg := P.g t3 (upd G2 D (.dT [])) t3.heap.objs.size (cellsFrom (t3.heap.objs.size + 1) scope.names (cloFrom X.env.cells scope.names [])) fp
  have pt := P.t t3 (upd G2 D (.dT [])) t3.heap.objs.size (cellsFrom (t3.heap.objs.size + 1) scope.names (cloFrom X.env.cells scope.names [])) fp
  have pk := P.k t3 (upd G2 D (.dT [])) t3.heap.objs.size (cellsFrom (t3.heap.objs.size + 1) scope.names (cloFrom X.env.cells scope.names [])) fp
  have pv := P.v t3 (upd G2 D (.dT [])) t3.heap.objs.size (cellsFrom (t3.heap.objs.size + 1) scope.names (cloFrom X.env.cells scope.names [])) fp
  have pi1 := P1.i t3 (upd G2 D (.dT [])) t3.heap.objs.size (cellsFrom (t3.heap.objs.size + 1) scope.names (cloFrom X.env.cells scope.names [])) fp
  have pg1 := P1.g t3 (upd G2 D (.dT [])) t3.heap.objs.size (cellsFrom (t3.heap.objs.size + 1) scope.names (cloFrom X.env.cells scope.names [])) fp
  have pt1 := P1.t t3 (upd G2 D (.dT [])) t3.heap.objs.size (cellsFrom (t3.heap.objs.size + 1) scope.names (cloFrom X.env.cells scope.names [])) fp
  show codeAny _ _ (.compStart (dcc kx vx ta ia tb ib fa fb scope pos) 0 (.ref it) (.ref D) (compEnvC scope (cellsFrom (t3.heap.objs.size + 1) scope.names (cloFrom X.env.cells scope.names [])) t3.heap.objs.size X.env)) (compPost (model X.prog X.w) X.A X.xe use Qf (.ref D) t3.heap.objs.size) { t3 with heap := pushCells (t3.heap.push { cls := .type "dict", data := .dict #[] }) scope.names }
  have nofp : ∀ b ∈ fp, (upd G2 D (.dT [])) b = none := fun b hb => (f3 b hb).1.1
  generalize ec : compEnvC scope (cellsFrom (t3.heap.objs.size + 1) scope.names (cloFrom X.env.cells scope.names [])) t3.heap.objs.size X.env = ce at J4 pg pt pk pv pi1 pg1 pt1 ⊢
  have eloc : ce.locals = t3.heap.objs.size := by rw [← ec]; rfl
  generalize eG3 : upd G2 D (.dT []) = G3 at J3 J4 pg pt pk pv pi1 pg1 pt1 w0 nofp f3
  generalize e4 : ({ t3 with heap := pushCells (t3.heap.push { cls := .type "dict", data := .dict #[] }) scope.names } : Shared) = t4 at J4 ⊢
  have st4 : tn 0 t4.heap := T.keep _ _ _ st3 fun b _ o e => by rw [← e4]; exact pushCells_keeps _ _ _ _ (Heap.get?_push_of_some _ e)
  have stay : ∀ {τ : L2.St} {G : Hp} {u : Shared}, Inv (X.blk t3 G3 scope ce fp) [] τ G u → (∀ b ∈ fp, G b = none) → ∀ b ∈ fp, FpOk (X.blk t3 G3 scope ce fp) [] G b := fun {τ G u} J' hn b hb =>
    ⟨hn b hb, (J'.ok.exf b hb).1, J'.ok.exfs b hb, .inl hb, fun x c e => (J'.ok.exf b hb).2 x c e, fun p hp => absurd (show p ∈ ([] : List (Addr × Obj)) ++ [] from hp) (by simp)⟩
  have lp : codeAny (model X.prog X.w) X.A (.compLoop (dcc kx vx ta ia tb ib fa fb scope pos) 0 (.ref it) (.ref D) ce) (compPost (model X.prog X.w) X.A X.xe use Qf (.ref D) t3.heap.objs.size) t4 := by
    refine loop_far (P1.f ce) (fun n u => ∃ i G, Inv (X.blk t3 G3 scope ce fp) [] (wipe σ (own.map (·.2))) G u ∧ tn i u.heap ∧ (∀ b ∈ fp, G b = none) ∧ W i n G) (fun n t5 => ?_) m0 ⟨0, G3, J4, st4, nofp, w0⟩
    rintro ⟨i, G5, J5, st5, n5, w5⟩
    rcases turn i n G5 w5 with ⟨stop, qq⟩ | ⟨go, Nx, hNx, step⟩
    · refine thnF (T.done (X.blk t3 G3 scope ce fp) rfl rfl rfl hc i [] t5 _ G5 (fun _ _ => False) J5 (stay J5 n5) st5 stop) fun r t6 ⟨hr, J6⟩ => ?_
      subst hr
      have J7 : Inv X pins σ G5 t6 := J3.call' (ch := fp) J6.os J6.base J6.hok J6.bare fun b hb => ⟨(f3 b hb).1.2.2.2.1, (f3 b hb).1.2.1, (f3 b hb).1.2.2.2.2.1, (f3 b hb).1.2.2.2.2.2⟩
      obtain ⟨m, hm, _⟩ := J6.loc
      have hm : t6.heap.Ns ce.locals m := hm
      have nC : G5 ce.locals = none := J6.free
      rw [eloc] at hm nC
      exact back D t3.heap.objs.size t6 m G5 J7 qq hm (J3.fpOk (Nat.le_refl _) nC)
    · refine thnF (T.item (X.blk t3 G3 scope ce fp) rfl rfl rfl hc i [] t5 _ G5 (fun _ _ => False) J5 (stay J5 n5) st5 go) fun r t6 ⟨u, hr, h6⟩ => ?_
      subst hr
      refine thnF h6 fun _ t7 ⟨x, G7, J7, r7, y7, st7, n7⟩ => ?_
      have J7' := J7.pinned (stay J7 n7) (T.obj _ _ st7)
      refine thnF (pg.run _ t7 _ G7 x u _ J7' r7 (step x G7 y7)) fun _ t8 ⟨τ, G8, J8, w8, q8⟩ => ?_
      refine thnF (pt.run _ t8 τ G8 _ J8 q8) fun b t9 ⟨G9, J9, q9⟩ => ?_
      have knows : ∀ (j : Nat) v, (wipe σ (own.map (·.2)))[j]? = some (some v) → τ[j]? = some (some v) := fun j v e => by
        rw [← w8] at e
        exact (wipe_some e).1
      have fin : ∀ {τ' : L2.St} {u : Shared} {G : Hp}, Inv (X.blk t3 G3 scope ce fp) ([] ++ pinsAt fp t7.heap) τ' G u → (wipe σ (own.map (·.2))).length = τ'.length → (∀ (j : Nat) v, (wipe σ (own.map (·.2)))[j]? = some (some v) → τ'[j]? = some (some v)) → Nx G → ∃ m, m < n ∧ ∃ i G, Inv (X.blk t3 G3 scope ce fp) [] (wipe σ (own.map (·.2))) G u ∧ tn i u.heap ∧ (∀ b ∈ fp, G b = none) ∧ W i m G := fun {τ' u G} J' l1 l2 nx => by
        obtain ⟨m', hm, w'⟩ := hNx G nx
        have pin : ∀ b ∈ fp, ∀ o, t7.heap.get? b = some o → u.heap.get? b = some o ∧ G b = none := fun b hb o e => (J'.pin (b, o) (List.mem_append_right _ (List.mem_append_right _ (mem_pinsAt hb e)))).elim fun z1 z2 => ⟨z1, z2.1⟩
        exact ⟨m', hm, i + 1, G, (J'.unpinned (pins := [])).weak l1 l2, T.keep _ _ _ st7 fun b hb o e => (pin b hb o e).1, fun b hb => (T.obj _ _ st7 b hb).elim fun o z => (pin b hb o z.1).2, w'⟩
      cases b
      · simp only [Bool.false_eq_true, if_false] at q9 ⊢
        exact fin J9 (by rw [← w8, wipe_length]) knows q9
      · simp only [if_true] at q9 ⊢
        refine thnF (pi1.run _ t9 τ G9 _ J9 q9) fun xv t10 hx => thnF hx fun itv t11 h11 => ?_
        obtain ⟨it1, fp1, tn1, J1, G11, rfl, J11, T1, st11, f11, W1, ⟨m1, w1⟩, turn1⟩ := h11
        have stay1 : ∀ {G : Hp}, (∀ b ∈ fp1, G b = none) → ∀ b ∈ fp1, FpOk (X.blk t3 G3 scope ce fp) ([] ++ pinsAt fp t7.heap) G b := fun hn b hb => ⟨hn b hb, (f11 b hb).2⟩
        have lp1 : codeAny (model X.prog X.w) X.A (.compLoop (dcc kx vx ta ia tb ib fa fb scope pos) 1 (.ref it1) (.ref D) ce) (fun r u => match r with
              | .ok _ => ∃ m, m < n ∧ ∃ i G, Inv (X.blk t3 G3 scope ce fp) [] (wipe σ (own.map (·.2))) G u ∧ tn i u.heap ∧ (∀ b ∈ fp, G b = none) ∧ W i m G
              | .error _ => False) t11 := by
          refine loop_near (fun k u => ∃ j G, Inv (X.blk t3 G3 scope ce fp) ([] ++ pinsAt fp t7.heap) (wipe τ vs1) G u ∧ tn1 j u.heap ∧ (∀ b ∈ fp1, G b = none) ∧ W1 j k G) (fun k t12 => ?_) m1 ⟨0, G11, J11.weak (wipe_length _ _) (fun j v e => (wipe_some e).1), st11, fun b hb => (f11 b hb).1, w1⟩
          rintro ⟨j, G12, J12, st12, n12, w12⟩
          rcases turn1 j k G12 w12 with ⟨stop1, nx1⟩ | ⟨go1, Nx1, hNx1, step1⟩
          · refine thnF (T1.done (X.blk t3 G3 scope ce fp) rfl rfl rfl hc j _ t12 (wipe τ vs1) G12 (fun _ _ => False) J12 (stay1 n12) st12 stop1) fun r t13 ⟨hr, J13⟩ => ?_
            subst hr
            refine fin J13 (by rw [← w8, wipe_length, wipe_length]) (fun j v e => ?_) nx1
            rw [← w8] at e
            obtain ⟨e1, e2⟩ := wipe_some e
            rw [wipe_out fun z => e2 (hv j z)]
            exact e1
          · refine thnF (T1.item (X.blk t3 G3 scope ce fp) rfl rfl rfl hc j _ t12 (wipe τ vs1) G12 (fun _ _ => False) J12 (stay1 n12) st12 go1) fun r t13 ⟨u1, hr, h13⟩ => ?_
            subst hr
            refine thnF h13 fun _ t14 ⟨x1, G14, J14, r14, y14, st14, n14⟩ => ?_
            have J14' := J14.pinned (stay1 n14) (T1.obj _ _ st14)
            refine thnF (pg1.run _ t14 (wipe τ vs1) G14 x1 u1 _ J14' r14 (step1 x1 G14 y14)) fun _ t15 ⟨τ15, G15, J15, w15, q15⟩ => ?_
            refine thnF (pt1.run _ t15 τ15 G15 _ J15 q15) fun b1 t16 ⟨G16, J16, q16⟩ => ?_
            have fin1 : ∀ {u : Shared} {G : Hp}, Inv (X.blk t3 G3 scope ce fp) (([] ++ pinsAt fp t7.heap) ++ pinsAt fp1 t14.heap) τ15 G u → Nx1 G → ∃ m, m < k ∧ ∃ j G, Inv (X.blk t3 G3 scope ce fp) ([] ++ pinsAt fp t7.heap) (wipe τ vs1) G u ∧ tn1 j u.heap ∧ (∀ b ∈ fp1, G b = none) ∧ W1 j m G := fun {u G} J' nx => by
              obtain ⟨m', hm, w'⟩ := hNx1 G nx
              have pin : ∀ b ∈ fp1, ∀ o, t14.heap.get? b = some o → u.heap.get? b = some o ∧ G b = none := fun b hb o e => (J'.pin (b, o) (List.mem_append_right _ (List.mem_append_right _ (mem_pinsAt hb e)))).elim fun z1 z2 => ⟨z1, z2.1⟩
              exact ⟨m', hm, j + 1, G, J'.unpinned.weak (by rw [← w15, wipe_length]) (fun j v e => by rw [← w15] at e; exact (wipe_some e).1), T1.keep _ _ _ st14 fun b hb o e => (pin b hb o e).1, fun b hb => (T1.obj _ _ st14 b hb).elim fun o z => (pin b hb o z.1).2, w'⟩
            cases b1
            · simp only [Bool.false_eq_true, if_false] at q16 ⊢
              exact fin1 J16 q16
            · simp only [if_true] at q16 ⊢
              refine thnF (pk.run _ t16 τ15 G16 _ J16 q16) fun z t17 ⟨yk, G17, J17, r17, q17⟩ => ?_
              refine thnF (pv.run _ t17 τ15 G17 _ J17 q17) fun z2 t18 ⟨yv, G18, J18, r18, b, kvs, k, eb, hb, hD, lz, nx⟩ => ?_
              subst eb
              cases (show z = Value.ref b from r17)
              exact dt_set (X := X.blk t3 G3 scope ce fp) hu J18 hD lz hb r18 fun t19 J19 => fin1 J19 nx
        exact start_near lp1 (T1.self X.A 0 _ _ _ st11 lp1)
  exact codeAny_compStart_dict lp (T.self X.A 0 _ _ _ st4 lp)
theorem pe_d2 {kx vx ta ia tb ib : Expr} {fa fb : List Expr} {scope : Scope} {own : List (Str × Nat)} (vs1 : List Nat) {pos : Pos} {wi wi1 : TI} {g g1 : TG} {tt tt1 : TT} {tk tv : TE} (hu : X.A.units + 1 < cLine) (hc : X.calm = true) (nd : X.N.Nodup) (pi : PI X ta ia wi) (ok : BlkOk X.N X.env.scope scope own) (hv : ∀ i ∈ vs1, i ∈ own.map (·.2))
    (P : DtP X kx vx ta fa scope g tt tk tv) (P1 : NearP X tb ib fb scope wi1 g1 tt1) (fl : ∀ x, foldedSetIterable ia X.env x = pure x := by intro _; rfl) : PE X (dcc kx vx ta ia tb ib fa fb scope pos) (tD2 wi g tt wi1 g1 tt1 tk tv (own.map (·.2)) vs1) := by
  refine ⟨fun pins s σ H Q J h => ?_⟩
  rw [arm_eval_DictComp]
  refine d2_core hu hc nd J pi ok hv P P1 fl h fun D C s' m H' J' q hn f => ⟨m, hn, fun h'' sb => ?_⟩
  exact ⟨.ref D, H', J'.turned (t' := s'.toks) (fun b o hb e => (sb.2 b hb).trans e) f.1 f.2.1 f.2.2.2.1 f.2.2.2.2.1 f.2.2.2.2.2, rfl, q⟩
end
end Hk
/-! led_ids: the ids to which heads lead -/
namespace Hs
open PySem PySem.Spec PyProof.Rows L2 Hu Evl
open Hk (SI ltSI nearOk)
section
variable {K : PySem.W.Frag} {a : Addr} {xs : List V} {g g1 : TG} {tt tt1 : TT} {tk tv : TE} {wi1 : TI} {vs vs1 : List Nat} {σ : L2.St} {G : Hp} {D : Addr} {Qd : Hp → Prop}
theorem d2_tup (Pv : Nat → Hp → Prop) (h0 : Pv 0 (upd G D (.dT []))) (hl : ∀ i H, i ≤ xs.length → Pv i H → SqT K H a xs)
    (hs : ∀ i x H, xs[i]? = some x → Pv i H → g x (wipe σ vs) H fun τ H2 => wipe τ vs = wipe σ vs ∧ tt τ H2 fun ok H3 => if ok = true then wi1 τ H3 fun J1 H4 => nearOk D J1 g1 tt1 tk tv vs1 τ (Pv (i + 1)) H4 else Pv (i + 1) H3) (hd : ∀ H, Pv xs.length H → Qd H) :
    ∃ W : Nat → Nat → Hp → Prop, (∃ m, W 0 m (upd G D (.dT []))) ∧ ∀ i m H, W i m H →
      ((Itt K a).stop i H ∧ Qd H) ∨ ((Itt K a).go i H ∧ ∃ Nx : Hp → Prop, (∀ H', Nx H' → ∃ m', m' < m ∧ W (i + 1) m' H') ∧ ∀ x H', (Itt K a).yld i H x H' → g x (wipe σ vs) H' fun τ H2 => wipe τ vs = wipe σ vs ∧ tt τ H2 fun ok H3 =>
        if ok = true then wi1 τ H3 fun J1 H4 => nearOk D J1 g1 tt1 tk tv vs1 τ Nx H4 else Nx H3) := by
  refine ⟨fun i m H => m = xs.length - i ∧ i ≤ xs.length ∧ Pv i H, ⟨xs.length, (Nat.sub_zero _).symm, Nat.zero_le _, h0⟩, ?_⟩
  rintro i m H ⟨em, le, p⟩
  by_cases h : i < xs.length
  · exact .inr ⟨⟨xs, xs[i], hl i H le p, List.getElem?_eq_getElem h⟩, Pv (i + 1), fun H' p' => ⟨xs.length - (i + 1), by omega, rfl, h, p'⟩, fun x H' y => by
      have ex := y.2 xs (hl i H le p)
      rw [y.1]
      exact hs i x H ex p⟩
  · have e : i = xs.length := by omega
    exact .inl ⟨⟨xs, hl i H le p, by omega⟩, hd H (by rw [← e]; exact p)⟩
theorem near_tup {τ : L2.St} {Nx : Hp → Prop} (Pv : Nat → Hp → Prop) (h0 : Pv 0 G) (hl : ∀ i H, i ≤ xs.length → Pv i H → SqT K H a xs)
    (hs : ∀ i x H, xs[i]? = some x → Pv i H → g1 x (wipe τ vs1) H fun τ3 G5 => wipe τ3 vs1 = wipe τ vs1 ∧ tt1 τ3 G5 fun ok G6 =>
      if ok = true then tk τ3 G6 fun y G7 => tv τ3 G7 fun z G8 => ∃ b kvs k, y = .ref b ∧ G8 b = some (.tup (k.map kV)) ∧ G8 D = some (.dT kvs) ∧ kvs.length < sizeLine ∧ Pv (i + 1) (upd G8 D (.dT (putK kvs k z))) else Pv (i + 1) G6) (hd : ∀ H, Pv xs.length H → Nx H) :
    nearOk D (Itt K a) g1 tt1 tk tv vs1 τ Nx G := by
  refine ⟨fun i m H => m = xs.length - i ∧ i ≤ xs.length ∧ Pv i H, ⟨xs.length, (Nat.sub_zero _).symm, Nat.zero_le _, h0⟩, ?_⟩
  rintro i m H ⟨em, le, p⟩
  by_cases h : i < xs.length
  · exact .inr ⟨⟨xs, xs[i], hl i H le p, List.getElem?_eq_getElem h⟩, Pv (i + 1), fun H' p' => ⟨xs.length - (i + 1), by omega, rfl, h, p'⟩, fun x H' y => by
      have ex := y.2 xs (hl i H le p)
      rw [y.1]
      exact hs i x H ex p⟩
  · have e : i = xs.length := by omega
    exact .inl ⟨⟨xs, hl i H le p, by omega⟩, hd H (by rw [← e]; exact p)⟩
end
/-- a pair of integers as a key -/
def kP (q : Int × Int) : List L2.Key := [.inl q.1, .inl q.2]
theorem kP_inj {p q : Int × Int} (h : kP p = kP q) : p = q := by
  injection h with h1 h2
  injection h2 with h3 _
  exact Prod.ext (Sum.inl.inj h1) (Sum.inl.inj h3)
/-- the keys are just these pairs -/
structure Kys (kvs : List (List L2.Key × V)) (ps : List (Int × Int)) : Prop where
  all : ∀ k ∈ kvs.map (·.1), ∃ q ∈ ps, k = kP q
  has : ∀ q ∈ ps, kP q ∈ kvs.map (·.1)
  bl : ∀ p ∈ kvs, p.2 = .bl true
theorem putK_keys {kvs : List (List L2.Key × V)} {k : List L2.Key} {v : V} : ∀ x, x ∈ (putK kvs k v).map (·.1) ↔ x ∈ kvs.map (·.1) ∨ x = k := by
  intro x
  unfold putK
  split
  · rename_i h
    rw [List.map_map]
    have e : ((fun p : List L2.Key × V => p.1) ∘ fun kv => if kv.1 = k then (kv.1, v) else kv) = fun p => p.1 := by
      funext p
      show (if p.1 = k then (p.1, v) else p).1 = p.1
      split <;> rfl
    first
      | rw [e]
      | (have e2 : ((fun p : List L2.Key × V => p.1) ∘ fun kv => if kv.1 = k then (k, v) else kv) = fun p => p.1 := by
          funext p
          show (if p.1 = k then (k, v) else p).1 = p.1
          split
          · rename_i q; exact q.symm
          · rfl
         rw [e2])
    constructor
    · exact .inl
    · rintro (h1 | rfl)
      · exact h1
      · rw [List.any_eq_true] at h
        obtain ⟨p, hp, q⟩ := h
        exact List.mem_map.mpr ⟨p, hp, of_decide_eq_true q⟩
  · rw [List.map_append, List.mem_append]
    simp
theorem Kys.put {kvs : List (List L2.Key × V)} {ps : List (Int × Int)} (h : Kys kvs ps) (q : Int × Int) : Kys (putK kvs (kP q) (.bl true)) (ps ++ [q]) := by
  refine ⟨fun k hk => ?_, fun p hp => ?_, fun p hp => ?_⟩
  · rcases (putK_keys k).mp hk with h1 | rfl
    · obtain ⟨p, hp, e⟩ := h.all k h1
      exact ⟨p, List.mem_append_left _ hp, e⟩
    · exact ⟨q, by simp, rfl⟩
  · rw [putK_keys]
    rcases List.mem_append.mp hp with h1 | h1
    · exact .inl (h.has p h1)
    · rw [List.mem_singleton] at h1
      exact .inr (by rw [h1])
  · unfold putK at hp
    split at hp
    · obtain ⟨x, hx, e⟩ := List.mem_map.mp hp
      split at e <;> subst e
      · rfl
      · exact h.bl _ hx
    · rcases List.mem_append.mp hp with h1 | h1
      · exact h.bl p h1
      · rw [List.mem_singleton] at h1
        rw [h1]
theorem ledL_mem (q : Int × Int) : ∀ (us : List U) , q ∈ ledL us ↔ q ∈ us.flatMap fun h => rowP (nth h 2) := by
  have step : ∀ (us : List U) (f : List (Int × Int)), q ∈ us.foldl ledStep f ↔ q ∈ f ∨ q ∈ us.flatMap fun h => rowP (nth h 2) := by
    intro us
    induction us with
    | nil => intro f; simp
    | cons u us ih =>
      intro f
      rw [List.foldl_cons, ih, List.flatMap_cons, List.mem_append]
      unfold ledStep
      rw [List.mem_append, List.mem_filter]
      by_cases hf : q ∈ f
      · simp [hf]
      · simp [hf]
  intro us
  unfold ledL
  rw [step]
  simp
abbrev sLedIds : Stmt := topS 66
section
variable {P : Program} {wd : World} {K : PySem.W.Frag} {mg : Str → Option Value} {base : Heap} {C : Addr}
theorem scLedIds : FnScope ["heads", "name", "stamp", "row", "block_id"] ["heads"] (defScope sLedIds) := ⟨rfl, rfl, rfl, by decide +kernel, rfl, by decide +kernel, by decide +kernel⟩
def spLI (C : Addr) : Sp := fun vs H Q _ => ∃ (x : V) (us : List U) (w : Addr), vs = [x] ∧ At w C H x (.tup us) ∧ us.all gNamed = true ∧ us.length ≤ 3000 ∧ ∀ d kvs H', H d = none → Same H H' → H' d = some (.dT kvs) → kvs.length ≤ 40000 → Kys kvs (us.flatMap fun h => rowP (nth h 2)) → Q (.ref d) H'
theorem ok_ledIds {f : Addr} {fd : FuncData} (D : Df K mg "led_ids" sLedIds ["heads"] f fd) : FnOk P wd K mg base CX0 1 f fd ["heads"] (spLI C) := by
  refine D.F.ok scLedIds (fun vs H Q E h => ?_) (fun cdv A outer s H vs Q E hr h => ?_)
  · obtain ⟨x, us, w, rfl, _⟩ := h
    rfl
  obtain ⟨x, us, w, rfl, hx, hall, hz, k⟩ := h
  refine ⟨_, pss_one (ps_ret (Hk.pe_d2 [4] (own := [("name", 1), ("stamp", 2), ("row", 3), ("block_id", 4)]) (g := gTup K 3 (gCons (gName 1) (gCons (gName 2) (gCons (gName 3) gNil)))) (g1 := gName 4) (wi1 := iTup K (tVar 3)) (tt := tTest (tOp rNotN (tVar 3) (tC .non))) (tt1 := tYes) (tk := tVar 4) (tv := tC (.bl true)) (Nat.lt_of_le_of_lt (Nat.add_le_add_left (by decide : 1 ≤ 64) _) (room_hu hr)) rfl scLedIds.nd (pi_tup (pv 0))
    (blkOk_by (N := ["heads", "name", "stamp", "row", "block_id"]) (sc := defScope sLedIds) (by decide +kernel)) (by decide)
    ⟨fun _ _ _ _ _ => pg_tup rfl (pgs_cons (pg_name (i := 1) scLedIds.nd rfl (.inl rfl)) (pgs_cons (pg_name (i := 2) scLedIds.nd rfl (.inl rfl)) (pgs_cons (pg_name (i := 3) scLedIds.nd rfl (.inl rfl)) pgs_nil))), fun _ _ _ _ _ => pts_one (pt_cmpR op_notN1 (pv 3) pe_non (nomark _)), fun _ _ _ _ _ => pv 4, fun _ _ _ _ _ => pe_bl⟩
    ⟨fun _ _ _ _ _ => pi_tup (pv 3), fun _ _ _ _ _ => pg_name (i := 4) scLedIds.nd rfl (.inl rfl), fun _ _ _ _ _ => pts_nil, fun _ _ => rfl⟩)), ?_⟩
  obtain ⟨a, xs, rfl, ha, na, hl⟩ := at_tup hx
  have hlen := AtL.length hl
  refine ⟨_, rfl, a, rfl, ⟨xs, Tu.st ha⟩, fun Dd hD => d2_tup (xs := xs) (fun i G => Ex H G ∧ ∃ kvs, G Dd = some (.dT kvs) ∧ kvs.length ≤ 12 * i ∧ Kys kvs ((us.take i).flatMap fun h => rowP (nth h 2))) ⟨Ex.new hD, [], upd_same, Nat.zero_le _, ⟨fun k h => (List.not_mem_nil h).elim, fun q h => (List.not_mem_nil h).elim, fun q h => (List.not_mem_nil h).elim⟩⟩ (fun i G _ p => Tu.st (Tu.ex p.1 ha)) (fun i x G hi p => ?_) (fun G p => ?_)⟩
  · obtain ⟨e1, kvs, p2, pl, p3⟩ := p
    have hi' : i < us.length := by
      have := (List.getElem?_eq_some_iff.mp hi).1
      omega
    obtain ⟨v', hv', av⟩ := AtL.get hl (List.getElem?_eq_getElem hi')
    rw [hi] at hv'
    cases hv'
    have hg : us[i]? = some us[i] := List.getElem?_eq_getElem hi'
    have tk : (us.take (i + 1)).flatMap (fun h => rowP (nth h 2)) = (us.take i).flatMap (fun h => rowP (nth h 2)) ++ rowP (nth us[i] 2) := by
      rw [List.take_add_one, hg, List.flatMap_append]
      simp
    have gn := List.all_eq_true.mp hall _ (List.getElem_mem hi')
    generalize us[i] = un at av tk gn
    obtain ⟨z, s1, r1, rfl, _, gr⟩ := gNamed_is gn
    obtain ⟨b, ys, rfl, hb, nb, hys⟩ := at_tup av
    obtain ⟨y0, y1, y2, rfl, ay2⟩ : ∃ y0 y1 y2, ys = [y0, y1, y2] ∧ At w C H y2 r1 := by
      cases hys with
      | cons h1 h2 => cases h2 with
        | cons h3 h4 => cases h4 with
          | cons h5 h6 => cases h6; exact ⟨_, _, _, rfl, h5⟩
    refine ⟨b, _, rfl, Tu.st (Tu.ex e1 hb), rfl, _, _, rfl, _, _, rfl, _, _, rfl, rfl, rfl, ?_⟩
    refine (et_test (b := !isNon r1) (ev_op (ev_var rfl) ev_c fun G' eg Q q => ⟨rfl, by rw [at_non ay2]; exact q G' (Ex.refl G')⟩)) G (Ex.refl G) _ fun G1 e2 => ?_
    have hrow : (rowP (nth (.tup [.str z, s1, r1]) 2)) = rowP r1 := rfl
    rw [hrow] at tk
    have e12 := e1.trans e2
    cases r1 with
    | non =>
      refine ⟨e12, kvs, e2 _ _ p2, by omega, ?_⟩
      rw [tk]
      show Kys kvs (_ ++ [])
      rw [List.append_nil]
      exact p3
    | tup ids =>
      obtain ⟨g1, g2⟩ := and2 (a := decide (ids.length ≤ 12)) (b := ids.all gId) gr
      have g1' := of_decide_eq_true g1
      obtain ⟨c, cs, rfl, hc, _, hcl⟩ := at_tup ay2
      have pr := row_p2 hcl g2
      have prl := pr.len
      rw [List.length_map] at prl
      show (if (true : Bool) = true then _ else _)
      rw [if_pos rfl]
      refine ⟨_, rfl, c, rfl, ⟨cs, Tu.st (Tu.ex e12 hc)⟩, near_tup (xs := cs) (fun j G => Ex H G ∧ ∃ kvs', G Dd = some (.dT kvs') ∧ kvs'.length ≤ 12 * i + j ∧ Kys kvs' ((us.take i).flatMap (fun h => rowP (nth h 2)) ++ (ids.map idP).take j)) ?_ (fun j G _ p => Tu.st (Tu.ex p.1 hc)) (fun j x G hj p => ?_) (fun G p => ?_)⟩
      · refine ⟨e12, kvs, e2 _ _ p2, by omega, ?_⟩
        rw [List.take_zero, List.append_nil]
        exact p3
      · obtain ⟨q1, kvs', q3, q4, q5⟩ := p
        have hj' : j < ids.length := by
          have := (List.getElem?_eq_some_iff.mp hj).1
          omega
        obtain ⟨c', q, rfl, hq, hc'⟩ := pr.get hj
        refine ⟨rfl, et_yes G (Ex.refl G) _ fun G2 e3 => ?_⟩
        rw [if_pos rfl]
        have kx : G2 c' = some (.tup [.int q.1, .int q.2]) := e3 _ _ (q1 _ _ hc')
        refine ⟨_, rfl, c', kvs', kP q, rfl, kx, e3 _ _ q3, sz_lt (by omega), Ex.mut (q1.trans e3) hD, _, upd_same, ?_, ?_⟩
        · have := length_putK kvs' (kP q) (.bl true)
          omega
        · rw [List.take_add_one, hq]
          show Kys _ (_ ++ ((ids.map idP).take j ++ [q]))
          rw [← List.append_assoc]
          exact q5.put q
      · obtain ⟨q1, kvs', q3, q4, q5⟩ := p
        refine ⟨q1, kvs', q3, by omega, ?_⟩
        rw [tk]
        have : cs.length = (ids.map idP).length := prl.trans (List.length_map (f := idP)).symm
        rw [this, List.take_length] at q5
        exact q5
    | bl b => cases gr
    | int j => cases gr
    | str z => cases gr
    | lst l => cases gr
    | dct l => cases gr
    | exc => cases gr
  · obtain ⟨p1, kvs, p2, pl, p3⟩ := p
    rw [hlen, List.take_length] at p3
    exact k Dd kvs G hD p1 p2 (by omega) p3
end
end Hs
/-! right heads and blocks: each name and each id stands there once -/
namespace Hs
open PySem PySem.Spec PyProof.Rows L2 Hu Evl
open Hk (SI ltSI nearOk)
theorem chain_nodup {α : Type} {R : α → α → Prop} {xs : List α} (d : α) (tr : ∀ a b c, R a b → R b c → R a c) (ir : ∀ a, ¬ R a a) (h : ∀ k, k + 1 < xs.length → R (xs.getD k d) (xs.getD (k + 1) d)) : xs.Nodup := by
  have far : ∀ (m k : Nat), k + m + 1 < xs.length → R (xs.getD k d) (xs.getD (k + m + 1) d) := by
    intro m
    induction m with
    | zero => exact fun k hk => h k hk
    | succ m ih => exact fun k hk => tr _ _ _ (ih k (by omega)) (h (k + m + 1) hk)
  refine List.pairwise_iff_getElem.mpr fun i j hi hj lt e => ?_
  have := far (j - i - 1) i (by omega)
  rw [show i + (j - i - 1) + 1 = j by omega, getD_some (List.getElem?_eq_getElem hi), getD_some (List.getElem?_eq_getElem hj), e] at this
  exact ir _ this
theorem ascN_get {n : Nat} {lt : Nat → Bool} (h : ascN n lt = true) : ∀ k, k + 1 < n → lt k = true := fun k hk => by
  unfold ascN at h
  exact List.all_eq_true.mp h k (List.mem_range.mpr (by omega))
theorem ascZ_nodup {zs : List Str} (h : ascZ zs = true) : zs.Nodup :=
  chain_nodup (R := fun a b : Str => a.cps.toList < b.cps.toList) e0z (fun a b c => List.lt_trans) (fun a => List.lt_irrefl _) fun k hk => of_decide_eq_true (ascN_get h k hk)
theorem i2_ltK {a b : Int × Int} (h : Hk.ltK (kP a) (kP b) = true) : ltI2 a b := by
  have h : (if Hk.kEq (.inl a.1) (.inl b.1) = true then (if Hk.kEq (.inl a.2) (.inl b.2) = true then Hk.ltK [] [] else Hk.kLt (.inl a.2) (.inl b.2)) else Hk.kLt (.inl a.1) (.inl b.1)) = true := h
  split at h
  · rename_i q
    split at h
    · cases h
    · exact .inr ⟨Sum.inl.inj (Hk.kEq_iff.mp q), of_decide_eq_true h⟩
  · exact .inl (of_decide_eq_true h)
theorem blk_key {u : U} (h : gBlk u = true) : keysU (nth u 0) = kP (idP (nth u 0)) := by
  obtain ⟨i, j, b, rfl⟩ := gBlk_is h
  rfl
theorem blocks_keys {us : List U} (h : us.all gBlk = true) : (us.map fun u => keysU (nth u 0)) = us.map fun u => kP (idP (nth u 0)) := List.map_congr_left fun u hu => blk_key (List.all_eq_true.mp h u hu)
theorem ascK_nodup {us : List U} (ha : us.all gBlk = true) (h : ascK (us.map fun u => keysU (nth u 0)) = true) : (us.map fun u => kP (idP (nth u 0))).Nodup := by
  rw [blocks_keys ha] at h
  have e : us.map (fun u => kP (idP (nth u 0))) = (us.map fun u => idP (nth u 0)).map kP := by rw [List.map_map]; rfl
  rw [e] at h ⊢
  have nd : (us.map fun u => idP (nth u 0)).Nodup := by
    refine chain_nodup (R := ltI2) (0, 0) (fun a b c h1 h2 => ?_) (fun a h => ?_) fun k hk => ?_
    · unfold ltI2 at *
      omega
    · unfold ltI2 at h
      omega
    · have := ascN_get h k (by rw [List.length_map]; exact hk)
      generalize us.map (fun u => idP (nth u 0)) = ps at hk this
      have h1 : k < ps.length := by omega
      rw [getD_some (k := k) (by rw [List.getElem?_map, List.getElem?_eq_getElem h1]; rfl), getD_some (k := k + 1) (by rw [List.getElem?_map, List.getElem?_eq_getElem hk]; rfl)] at this
      rw [getD_some (List.getElem?_eq_getElem h1), getD_some (List.getElem?_eq_getElem hk)]
      exact i2_ltK this
  exact List.Pairwise.map _ (fun a b h e => h (kP_inj e)) nd
/-- what a right table has -/
structure TabU (u : U) (hs bs : List U) : Prop where
  t : gTO 10 u = true
  h : nth u 4 = .tup hs
  b : nth u 5 = .tup bs
  ha : hs.all gNamed = true
  ba : bs.all gBlk = true
  hn : (hs.map fun u => strU (nth u 0)).Nodup
  bn : (bs.map fun u => kP (idP (nth u 0))).Nodup
theorem gHeads_us {us : List U} (h : gHeads (.tup us) = true) : us.all gNamed = true ∧ (us.map fun u => strU (nth u 0)).Nodup := by
  obtain ⟨a, b⟩ := and2 (a := us.all gNamed) (b := ascZ (us.map fun u => strU (nth u 0))) h
  exact ⟨a, ascZ_nodup b⟩
theorem gBlocks_us {us : List U} (h : gBlocks (.tup us) = true) : us.all gBlk = true ∧ (us.map fun u => kP (idP (nth u 0))).Nodup := by
  obtain ⟨a, b⟩ := and2 (a := us.all gBlk) (b := ascK (us.map fun u => keysU (nth u 0))) h
  exact ⟨a, ascK_nodup a b⟩
theorem gTable_has {u : U} (h : gTable u = true) : ∃ hs bs, TabU u hs bs := by
  unfold gTable at h
  obtain ⟨h0, h⟩ := and2 h
  obtain ⟨_, h⟩ := and2 h
  obtain ⟨_, h⟩ := and2 h
  obtain ⟨_, h⟩ := and2 h
  have key : ∃ hs bs, nth u 4 = .tup hs ∧ nth u 5 = .tup bs ∧ gHeads (.tup hs) = true ∧ gBlocks (.tup bs) = true := by
    split at h
    · obtain ⟨_, h⟩ := and2 h
      obtain ⟨_, h⟩ := and2 h
      obtain ⟨h4, h5⟩ := and2 h
      exact ⟨[], [], nil_is h4, nil_is h5, rfl, rfl⟩
    · obtain ⟨_, h⟩ := and2 h
      unfold gKept at h
      obtain ⟨_, h⟩ := and2 h
      obtain ⟨_, h⟩ := and2 h
      obtain ⟨h4, h5⟩ := and2 h
      have e4 : nth (keptU u) 2 = nth u 4 := rfl
      have e5 : nth (keptU u) 3 = nth u 5 := rfl
      rw [e4] at h4
      rw [e5] at h5
      obtain ⟨hs, q4⟩ := heads_tup h4
      obtain ⟨bs, q5⟩ := blocks_tup h5
      rw [q4] at h4
      rw [q5] at h5
      exact ⟨hs, bs, q4, q5, h4, h5⟩
  obtain ⟨hs, bs, e4, e5, h4, h5⟩ := key
  obtain ⟨a1, a2⟩ := gHeads_us h4
  obtain ⟨b1, b2⟩ := gBlocks_us h5
  exact ⟨hs, bs, h0, e4, e5, a1, b1, a2, b2⟩
theorem wt_named {u : U} (h : gNamed u = true) : 4 ≤ wt u := by
  obtain ⟨z, a, b, rfl, _⟩ := gNamed_is h
  simp only [wt, wtL]
  omega
/-- its heads are few enough -/
theorem TabU.hlen {u : U} {hs bs : List U} (T : TabU u hs bs) (s : Sm u) : hs.length ≤ 3000 := by
  have h4 : wt (nth u 4) ≤ 160000 := s.nth 4
  rw [T.h] at h4
  have all := T.ha
  have : ∀ us : List U, us.all gNamed = true → 60 * us.length ≤ wtL us := by
    intro us
    induction us with
    | nil => intro _; exact Nat.zero_le _
    | cons v us ih =>
      intro h
      rw [List.all_cons, Bool.and_eq_true] at h
      have h1 := ih h.2
      obtain ⟨z, a, b, rfl, gs, _⟩ := gNamed_is h.1
      obtain ⟨i, j, rfl⟩ := gStamp_two gs
      simp only [wtL, wt, List.length_cons] at h1 ⊢
      omega
  have := this hs all
  simp only [wt] at h4
  omega
theorem TabU.blen {u : U} {hs bs : List U} (T : TabU u hs bs) (s : Sm u) : bs.length ≤ 40000 := by
  have h5 : wt (nth u 5) ≤ 160000 := s.nth 5
  rw [T.b] at h5
  have := wt_len4 bs
  simp only [wt] at h5
  omega
end Hs
/-! led_by; an expression's dict, locked -/
namespace Hs
open PySem PySem.Spec PyProof.Rows L2 Hu Evl
open Hk (SI ltSI nearOk)
/-- what an expression tells is locked behind it -/
def tFrz (t : TE) : TE := fun σ H Q => t σ H fun x H1 => ∃ d u, x = .ref d ∧ H1 d = some u ∧ Mut (some u) ∧ ∀ od, Q x (upd H1 d (.frz od u))
theorem pe_frz {X : Cx} {e : Expr} {t : TE} (h : PE X e t) : PE X e (tFrz t) := by
  refine ⟨fun pins s σ H Q I hw => thn (h.run pins s σ H _ I hw) fun v s1 ⟨x, H1, I1, r, d, u, ex, hd, mu, q⟩ => ?_⟩
  obtain ⟨od, I2⟩ := I1.lock hd mu
  exact ⟨x, _, I2, r, q od⟩
theorem Kys.get {kvs : List (List L2.Key × V)} {ps : List (Int × Int)} (h : Kys kvs ps) (q : Int × Int) : (valV kvs (kP q)).isSome = decide (q ∈ ps) := by
  rw [← valV_any]
  rw [Bool.eq_iff_iff, List.any_eq_true, decide_eq_true_eq]
  constructor
  · rintro ⟨p, hp, e⟩
    obtain ⟨q', h1, h2⟩ := h.all p.1 (List.mem_map.mpr ⟨p, hp, rfl⟩)
    rw [of_decide_eq_true e] at h2
    rw [kP_inj h2]
    exact h1
  · intro hq
    obtain ⟨p, hp, e⟩ := List.mem_map.mp (h.has q hq)
    exact ⟨p, hp, decide_eq_true e⟩
def hsOf (u : U) : List U := match nth u 4 with | .tup us => us | _ => []
def bsOf (u : U) : List U := match nth u 5 with | .tup us => us | _ => []
def ledPs (hs : List U) : List (Int × Int) := hs.flatMap fun h => rowP (nth h 2)
def inLed (hs : List U) (b : U) : Bool := decide (idP (nth b 0) ∈ ledPs hs)
def ledU (u : U) : U := .tup ((bsOf u).filter (inLed (hsOf u)))
theorem TabU.hs {u : U} {hs bs : List U} (T : TabU u hs bs) : hsOf u = hs := by
  unfold hsOf
  rw [T.h]
theorem TabU.bs {u : U} {hs bs : List U} (T : TabU u hs bs) : bsOf u = bs := by
  unfold bsOf
  rw [T.b]
section
variable {w C : Addr} {H : Hp} {K : PySem.W.Frag}
/-- a right block, as it stands -/
theorem blk_at {x : V} {u : U} (hx : At w C H x u) (g : gBlk u = true) : ∃ (p c : Addr) (z : Str) (q : Int × Int), x = .ref p ∧ Tu H p [.ref c, .str z] [.tup [.int q.1, .int q.2], .str z] ∧ H c = some (.tup ((kP q).map kV)) ∧ idP (nth u 0) = q := by
  have pl := gBlk_pln g
  have g' : (gPair u && (gId (nth u 0) && gPiece (nth u 1))) = true := g
  obtain ⟨i, j, b, rfl⟩ := gBlk_is g
  obtain ⟨_, h2⟩ := and2 g'
  obtain ⟨_, h3⟩ := and2 h2
  have hb : gPiece b = true := h3
  obtain ⟨z, rfl⟩ : ∃ z, b = .str z := by
    cases b with
    | str z => exact ⟨z, rfl⟩
    | _ => cases hb
  obtain ⟨p, xs, rfl, hp, _, hl⟩ := at_tup hx
  cases hl with
  | cons h1 h2 => cases h2 with
    | cons h3 h4 =>
      cases h4
      cases at_str h3
      obtain ⟨c, rfl, hc⟩ := two_ints h1
      exact ⟨p, c, z, (i, j), rfl, hp, hc, rfl⟩
theorem blk_isB {us : List U} (h : us.all gBlk = true) : isB us = true := by
  unfold isB
  rw [List.all_eq_true] at h ⊢
  intro u hu
  have g := h u hu
  have g' : (gPair u && (gId (nth u 0) && gPiece (nth u 1))) = true := g
  obtain ⟨i, j, b, rfl⟩ := gBlk_is g
  obtain ⟨_, h2⟩ := and2 g'
  obtain ⟨_, h3⟩ := and2 h2
  have hb : gPiece b = true := h3
  cases b with
  | str z => rfl
  | _ => cases hb
/-- right blocks as pairs of a dict -/
theorem blk_pq : ∀ {us : List U} {xs : List V}, AtL w C H xs us → us.all gBlk = true → ∃ kvs, Pq K H xs kvs ∧ kvs.map (·.1) = us.map fun u => kP (idP (nth u 0))
  | [], _, .nil, _ => ⟨[], .nil, rfl⟩
  | u :: us, _, .cons h l, g => by
    rw [List.all_cons, Bool.and_eq_true] at g
    obtain ⟨kvs, h1, h2⟩ := blk_pq l g.2
    obtain ⟨p, c, z, q, rfl, hp, hc, hq⟩ := blk_at h g.1
    exact ⟨(kP q, .str z) :: kvs, .cons (Tu.st hp) hc h1, by rw [List.map_cons, List.map_cons, h2, hq]⟩
end
abbrev sLedBy : Stmt := topS 67
section
variable {P : Program} {wd : World} {K : PySem.W.Frag} {mg : Str → Option Value} {base : Heap} {C : Addr}
theorem scLedBy : FnScope ["heads", "blocks", "led", "block"] ["heads", "blocks"] (defScope sLedBy) := ⟨rfl, rfl, rfl, by decide +kernel, rfl, by decide +kernel, by decide +kernel⟩
def spBy2 (C : Addr) : Sp := fun vs H Q _ => ∃ (x y : V) (hs bs : List U) (w : Addr), vs = [x, y] ∧ At w C H x (.tup hs) ∧ At w C H y (.tup bs) ∧ hs.all gNamed = true ∧ bs.all gBlk = true ∧ hs.length ≤ 3000 ∧ bs.length ≤ 40000 ∧ (∃ o, H w = some o) ∧
  ∀ v H', Same H H' → At w C H' v (.tup (bs.filter (inLed hs))) → Q v H'
theorem ok_ledBy {f f1 : Addr} {fd d1 : FuncData} (D : Df K mg "led_by" sLedBy ["heads", "blocks"] f fd) (B : Bt mg) (D1 : Df K mg "led_ids" sLedIds ["heads"] f1 d1) : FnOk P wd K mg base CX0 2 f fd ["heads", "blocks"] (spBy2 C) := by
  have G1 : FnOk P wd K mg base CX0 1 f1 d1 ["heads"] (spLI C) := ok_ledIds D1
  refine D.F.ok scLedBy (fun vs H Q E h => ?_) (fun cdv A outer s H vs Q E hr h => ?_)
  · obtain ⟨x, y, hs, bs, w, rfl, _⟩ := h
    rfl
  obtain ⟨x, y, hs, bs, w, rfl, hx, hy, ha, hb, hz, hz2, hw, k⟩ := h
  refine ⟨_, pss_cons (ps_set (i := 2) scLedBy.nd rfl (.inr rfl) (pe_call G1 hr (by rfl) D1.g D1.F.kp D1.b .nil pass0 (pa_cons (pv 0) pa_nil)))
    (pss_one (ps_ret (pe_callTy call_tupF (by rfl) B.tup boot_tuple' (pa_cons (pe_lc (own := [("block", 3)]) (g := gName 3) (tt := tTest (tDIn (tOp (rIxT K) (tVar 3) (tC (.int 0))) (tVar 2))) rfl scLedBy.nd (pi_tup (pv 1)) (blkOk_by (N := ["heads", "blocks", "led", "block"]) (sc := defScope sLedBy) (by decide +kernel))
      (fun _ _ _ _ _ => pg_name (i := 3) scLedBy.nd rfl (Or.inl rfl)) (fun _ _ _ _ _ => pts_one (pt_cmp (pc_din (room_h1 hr) (pe_ix (show IxR _ (rIxT K) from ix_tup) (pv 3) pe_int (fun _ _ => rfl)) (pv 2)) (by rfl))) (fun _ _ _ _ _ => pv 3)) pa_nil)))), ?_⟩
  refine ⟨_, rfl, x, hs, w, rfl, hx, ha, hz, fun d kvs H1 hd e1 hk _ ky => ?_⟩
  obtain ⟨a, xs, rfl, hta, na, hl⟩ := at_tup (ex_at e1 hy)
  have hw1 : ∃ o, H1 w = some o := hw.imp fun o q => e1 _ _ q
  refine (ed_tupL (K := K) (C := C) hw1 (us := (bs.filter (inLed hs)).map fun u => u) (lc_D (j := 3) (vs := [3]) (g := inLed hs) (f := fun u => u) (ev_var rfl) hta hl hz2 (fun u hu => gBlk_pln (List.all_eq_true.mp hb u hu)) (fun _ => rfl) (fun v u G hu eg hv => ?_) (fun v u G hu _ eg hv => ed_ev (ev_var rfl) hv))) H1 (Ex.refl H1) _ fun v H2 e2 a2 => ?_
  · obtain ⟨p, c, z, q, rfl, hp, hc, hq⟩ := blk_at hv (List.all_eq_true.mp hb u hu)
    refine fun G1 g1 Q qq => ?_
    refine (ev_ixT (K := K) (te := tVar 3) (j := 0) (ev_var rfl) hp rfl) G1 g1 _ fun G2 g2 => ⟨_, rfl, d, _, rfl, DGet.t (k := kP q) ((eg.trans (g1.trans g2)) _ _ hk) ((g1.trans g2) _ _ hc), _, rfl, ?_⟩
    rw [ky.get q]
    have : inLed hs u = decide (q ∈ ledPs hs) := by
      unfold inLed
      rw [hq]
    rw [this] at qq
    exact qq G2 g2
  · rw [List.map_id'] at a2
    exact k v H2 (e1.trans e2) a2
end
end Hs
/-! led_blocks, is_closed: NoTable of what is no table -/
namespace Hs
open PySem PySem.Spec PyProof.Rows L2 Hu Evl
open Hk (SI ltSI nearOk)
abbrev sLedBlocks : Stmt := topS 88
abbrev sClosed : Stmt := topS 85
theorem boot_dict' : bootBuiltins "dict" = some (.type "dict") := by decide +kernel
def closedU (u : U) : Bool := (ledPs (hsOf u)).all fun q => decide (q ∈ (bsOf u).map fun b => idP (nth b 0))
def spLBl (C CT : Addr) : Sp := fun vs H Q E => ∃ (v : V) (u : U) (w : Addr), vs = [v] ∧ At w C H v u ∧ Fine u ∧ Sm u ∧ (∃ o, H w = some o) ∧ (gTable u = true → ∀ y H', Same H H' → At w C H' y (ledU u) → Q y H') ∧ (gTable u = false → ∀ H', Same H H' → E (.ref CT) none H')
def spCl (C CT : Addr) : Sp := fun vs H Q E => ∃ (v : V) (u : U) (w : Addr), vs = [v] ∧ At w C H v u ∧ Fine u ∧ Sm u ∧ (∃ o, H w = some o) ∧ (gTable u = true → ∀ H', Same H H' → Q (.bl (closedU u)) H') ∧ (gTable u = false → ∀ H', Same H H' → E (.ref CT) none H')
section
variable {σ : L2.St} {H : Hp} {te : TE} {ta : TA} {Q : VK} {D : Ends} {vs : List V} {sp : Sp} {E : XK} {r : List V → Hp → VK → Prop} {R : It → Hp → Prop} {R2 : List V → Hp → Prop} {tz : TS} {i : Nat}
theorem ret1 (h : te σ H fun v H' => D.rt v H') : tRet te D σ H := h
theorem cb1 (h : ta σ H fun vs H1 => r vs H1 Q) : tCB r ta σ H Q := h
theorem cons1 (h : te σ H fun v H1 => ta σ H1 fun vs H2 => R2 (v :: vs) H2) : tCons te ta σ H R2 := h
theorem frz1 (h : te σ H fun x H1 => ∃ d u, x = .ref d ∧ H1 d = some u ∧ Mut (some u) ∧ ∀ od, Q x (upd H1 d (.frz od u))) : tFrz te σ H Q := h
theorem keys1 (h : te σ H fun x H1 => ∃ d o, x = .ref d ∧ ((∃ kvs, H1 d = some (.frz o (.dK kvs)) ∧ R (Itk d o kvs) H1) ∨ ∃ kvs, H1 d = some (.frz o (.dT kvs)) ∧ R (Itkt d o kvs) H1)) : iKeys te σ H R := h
theorem asg1 (h : te σ H fun v H' => tz D (σ.set i (some v)) H') : tSeq (tAsg te (gName i)) tz D σ H := h
theorem call1 (ha : EvA ta σ H vs) (k : ∀ H2, Ex H H2 → sp (vs ++ []) H2 Q E) : tCall sp [] E ta σ H Q := ha H (Ex.refl H) _ k
theorem cbA (ha : EvA ta σ H vs) (k : ∀ H2, Ex H H2 → r vs H2 Q) : tCB r ta σ H Q := ha H (Ex.refl H) _ k
end
section
variable {P : Program} {wd : World} {K : PySem.W.Frag} {mg : Str → Option Value} {base : Heap} {C : Addr}
theorem scLedBlocks : FnScope ["table"] ["table"] (defScope sLedBlocks) := ⟨rfl, rfl, rfl, by decide +kernel, rfl, by decide +kernel, by decide +kernel⟩
theorem ok_ledBlocks {f f1 f2 f3 CT : Addr} {fd d1 d2 d3 : FuncData} (D : Df K mg "led_blocks" sLedBlocks ["table"] f fd) (B : Bt mg) (N : Ct mg) (JT : Jw P wd K mg base C 8 "is_table" "thing" f1 d1 Sm gTable) (D2 : Df K mg "led_by" sLedBy ["heads", "blocks"] f2 d2) (D3 : Df K mg "led_ids" sLedIds ["heads"] f3 d3) (EC : Ec K mg "NoTable" CT) :
    FnOk P wd K mg base (L2.CX P wd) 9 f fd ["table"] (spLBl C CT) := by
  have G2 : FnOk P wd K mg base CX0 2 f2 d2 ["heads", "blocks"] (spBy2 C) := ok_ledBy D2 B D3
  refine D.F.okX scLedBlocks (fun vs H Q E h => ?_) (fun cdv A outer s H vs Q E hr h => ?_)
  · obtain ⟨v, u, w, rfl, _⟩ := h
    rfl
  obtain ⟨v, u, w, rfl, hat, fi, sm, hw, k, kE⟩ := h
  refine ⟨_, pss_cons (ps_if (pt_not (pt_val (pe_Jw JT hr (by decide) (by rfl) pass0 (pv 0)))) (pss_one (ps_raise rfl (takes_of rfl rfl rfl rfl) (pmk_own0 PySem.F.excBase_ValueError EC.x EC.g EC.k (raises_own EC.b EC.t) rfl))) pss_nil)
      (pss_one (ps_ret (pe_call (G2.mono (by decide : 2 ≤ 8)) hr (by rfl) D2.g D2.F.kp D2.b .nil pass0 (pa_cons (pe_ix ix_tup (pv 0) (pe_gi (by rfl) N.p4) (fun _ _ => rfl)) (pa_cons (pe_ix ix_tup (pv 0) (pe_gi (by rfl) N.p5) (fun _ _ => rfl)) pa_nil))))), ?_⟩
  refine q_when (et_not (et_B (ev_Jw (ev_var rfl) hat fi sm hw))) (fun q H1 e => ?_) (fun q H1 e => ?_)
  · rw [Bool.not_eq_true'] at q
    exact kE q H1 e
  · rw [Bool.not_eq_false'] at q
    obtain ⟨hs, bs, T⟩ := gTable_has q
    obtain ⟨y4, e4, a4⟩ := ev_nth (K := K) (σ := [some v]) (te := tVar 0) (k := 4) (ev_var rfl) (ex_at e hat) T.t (by decide)
    obtain ⟨y5, e5, a5⟩ := ev_nth (K := K) (σ := [some v]) (te := tVar 0) (k := 5) (ev_var rfl) (ex_at e hat) T.t (by decide)
    rw [T.h] at a4
    rw [T.b] at a5
    refine ret1 ?_
    refine call1 (ea_cons e4 (ea_cons e5 ea_nil)) fun H2 e2 => ⟨y4, y5, hs, bs, w, rfl, ex_at e2 a4, ex_at e2 a5, T.ha, T.ba, T.hlen sm, T.blen sm, hw.imp fun o z => (e.trans e2) _ _ z, fun r H3 s3 a3 => k q r H3 ((e.trans e2).trans s3) ?_⟩
    unfold ledU
    rw [T.hs, T.bs]
    exact a3
theorem scClosed : FnScope ["table", "here", "block_id"] ["table"] (defScope sClosed) := ⟨rfl, rfl, rfl, by decide +kernel, rfl, by decide +kernel, by decide +kernel⟩
theorem ok_closed {f f1 f3 CT : Addr} {fd d1 d3 : FuncData} (D : Df K mg "is_closed" sClosed ["table"] f fd) (B : Bt mg) (N : Ct mg) (nd : mg "dict" = none) (JT : Jw P wd K mg base C 8 "is_table" "thing" f1 d1 Sm gTable) (D3 : Df K mg "led_ids" sLedIds ["heads"] f3 d3) (EC : Ec K mg "NoTable" CT) :
    FnOk P wd K mg base (L2.CX P wd) 9 f fd ["table"] (spCl C CT) := by
  have G3 : FnOk P wd K mg base CX0 1 f3 d3 ["heads"] (spLI C) := ok_ledIds D3
  refine D.F.okX scClosed (fun vs H Q E h => ?_) (fun cdv A outer s H vs Q E hr h => ?_)
  · obtain ⟨v, u, w, rfl, _⟩ := h
    rfl
  obtain ⟨v, u, w, rfl, hat, fi, sm, hw, k, kE⟩ := h
  refine ⟨_, pss_cons (ps_if (pt_not (pt_val (pe_Jw JT hr (by decide) (by rfl) pass0 (pv 0)))) (pss_one (ps_raise rfl (takes_of rfl rfl rfl rfl) (pmk_own0 PySem.F.excBase_ValueError EC.x EC.g EC.k (raises_own EC.b EC.t) rfl))) pss_nil)
      (pss_cons (ps_set (i := 1) scClosed.nd rfl (.inr rfl) (pe_callTy (call_dictT rfl (Nat.lt_of_le_of_lt (Nat.add_le_add_left (by decide : 2 ≤ 64) _) (room_hu hr))) (by rfl) nd boot_dict' (pa_cons (pe_ix ix_tup (pv 0) (pe_gi (by rfl) N.p5) (fun _ _ => rfl)) pa_nil)))
      (pss_one (ps_ret (pe_callB (cr_all rfl) (by rfl) B.all boot_all' (pa_cons (pe_lc (own := [("block_id", 2)]) (g := gName 2) (tt := tYes) (te := tDIn (tVar 2) (tVar 1)) rfl scClosed.nd (pi_keys (pe_frz (pe_call (G3.mono (by decide : 1 ≤ 8)) hr (by rfl) D3.g D3.F.kp D3.b .nil pass0 (pa_cons (pe_ix ix_tup (pv 0) (pe_gi (by rfl) N.p4) (fun _ _ => rfl)) pa_nil)))) (blkOk_by (N := ["table", "here", "block_id"]) (sc := defScope sClosed) (by decide +kernel))
        (fun _ _ _ _ _ => pg_name (i := 2) scClosed.nd rfl (Or.inl rfl)) (fun _ _ _ _ _ => pts_nil) (fun _ _ _ _ _ => pe_cmp (pc_din (room_h1 hr) (pv 2) (pv 1)) (by rfl))) pa_nil))))), ?_⟩
  refine q_when (et_not (et_B (ev_Jw (ev_var rfl) hat fi sm hw))) (fun q H1 e => ?_) (fun q H1 e => ?_)
  · rw [Bool.not_eq_true'] at q
    exact kE q H1 e
  · rw [Bool.not_eq_false'] at q
    obtain ⟨hs, bs, T⟩ := gTable_has q
    obtain ⟨y5, e5, a5⟩ := ev_nth (K := K) (σ := [some v, none, none]) (te := tVar 0) (k := 5) (ev_var rfl) (ex_at e hat) T.t (by decide)
    rw [T.b] at a5
    refine asg1 ?_
    refine cbA (ea_cons e5 ea_nil) fun H2 e2 => ?_
    obtain ⟨a, xs, rfl, hta, _, hl⟩ := at_tup (ex_at e2 a5)
    obtain ⟨o, od, hlk⟩ := hta.lock (blk_isB T.ba)
    obtain ⟨kvs, hpq, hks⟩ := blk_pq (K := K) hl T.ba
    refine ⟨a, o, xs, kvs, rfl, od, hlk, hpq, by rw [hks]; exact T.bn, fun d hd => ?_⟩
    have e3 : Ex H2 (upd H2 d (.dT kvs)) := Ex.new hd
    have hd3 : upd H2 d (.dT kvs) d = some (.dT kvs) := upd_same
    dsimp only [gName]
    show tRet _ _ [some v, some (.ref d), none] _
    generalize upd H2 d (.dT kvs) = H3 at e3 hd3
    have e13 := (e.trans e2).trans e3
    obtain ⟨y4, e4, a4⟩ := ev_nth (K := K) (σ := [some v, some (.ref d), none]) (te := tVar 0) (k := 4) (ev_var rfl) (ex_at e13 hat) T.t (by decide)
    rw [T.h] at a4
    refine ret1 ?_
    refine cb1 ?_
    refine cons1 ?_
    unfold tLc
    refine keys1 ?_
    refine frz1 ?_
    refine call1 (ea_cons e4 ea_nil) fun H4 e34 => ⟨y4, hs, w, rfl, ex_at e34 a4, T.ha, T.hlen sm, fun d' ks H5 hd' s5 hk5 kz ky => ?_⟩
    refine ⟨d', _, rfl, hk5, True.intro, fun od' => ⟨d', od', rfl, .inr ⟨ks, upd_same, fun Dl hD => ?_⟩⟩⟩
    have e6 : Ex H4 (upd H5 d' (.frz od' (.dT ks))) := Ex.mut s5 hd'
    have h6 : upd H5 d' (.frz od' (.dT ks)) d' = some (.frz od' (.dT ks)) := upd_same
    generalize upd H5 d' (.frz od' (.dT ks)) = H6 at e6 h6 hD
    have here : ∀ (q : Int × Int), (valV kvs (kP q)).isSome = decide (q ∈ bs.map fun b => idP (nth b 0)) := fun q => by
      rw [← valV_any, Bool.eq_iff_iff, List.any_eq_true, decide_eq_true_eq]
      have e9 : bs.map (fun u => kP (idP (nth u 0))) = (bs.map fun b => idP (nth b 0)).map kP := by rw [List.map_map]; rfl
      rw [e9] at hks
      constructor
      · rintro ⟨p, hp, e⟩
        have : p.1 ∈ kvs.map (·.1) := List.mem_map.mpr ⟨p, hp, rfl⟩
        rw [hks, of_decide_eq_true e] at this
        obtain ⟨q', h1, h2⟩ := List.mem_map.mp this
        rw [← kP_inj h2]
        exact h1
      · intro hq
        have : kP q ∈ kvs.map (·.1) := by rw [hks]; exact List.mem_map.mpr ⟨q, hq, rfl⟩
        obtain ⟨p, hp, e⟩ := List.mem_map.mp this
        exact ⟨p, hp, decide_eq_true e⟩
    refine lc_it walk_keysT (fun i H' => Ex H6 H' ∧ H' Dl = some (.lst ((ks.take i).map fun kv => V.bl (valV kvs kv.1).isSome))) ⟨Ex.new hD, by rw [List.take_zero]; exact upd_same⟩ (fun i H' _ p => p.1 _ _ h6) ?_ ?_
    · rintro i x G0 G hi ⟨p1, p2⟩ ⟨rfl, kk, vv, qa, hkv, rfl, hqa⟩
      refine ⟨rfl, et_yes G (Ex.refl G) _ fun G1 g1 => ?_⟩
      rw [if_pos rfl]
      refine ⟨_, rfl, _, rfl, d, _, rfl, DGet.t (k := kk) (g1 _ _ (p1 _ _ (e6 _ _ (e34 _ _ hd3)))) (g1 _ _ hqa), _, g1 _ _ p2, ?_, Ex.mut (p1.trans g1) hD, ?_⟩
      · rw [List.length_map, List.length_take]
        exact sz_lt (by omega)
      · rw [upd_same, List.take_add_one, hkv, List.map_append]
        rfl
    · rintro G ⟨p1, p2⟩
      rw [List.take_length] at p2
      refine ⟨Dl, ks.map fun kv => (valV kvs kv.1).isSome, rfl, sq_of (by rw [p2, List.map_map]; rfl), ?_⟩
      have ev : (ks.map fun kv => (valV kvs kv.1).isSome).all id = closedU u := by
        unfold closedU
        rw [T.hs, T.bs, Bool.eq_iff_iff, List.all_eq_true, List.all_eq_true]
        constructor
        · intro h q hq
          obtain ⟨p, hp, e⟩ := List.mem_map.mp (ky.has q hq)
          have := h _ (List.mem_map.mpr ⟨p, hp, rfl⟩)
          rw [e, here] at this
          exact this
        · intro h b hb
          obtain ⟨p, hp, rfl⟩ := List.mem_map.mp hb
          obtain ⟨q, hq, e⟩ := ky.all p.1 (List.mem_map.mpr ⟨p, hp, rfl⟩)
          rw [e, here]
          exact h q hq
      rw [ev]
      exact k q G (((e13.trans e34).trans e6).trans p1)
end
end Hs
/-! heads by name; what a head tells -/
namespace Hs
open PySem PySem.Spec PyProof.Rows L2 Hu Evl
open Hk (SI ltSI nearOk)
theorem dc_tup {K : PySem.W.Frag} {a : Addr} {xs : List V} {g : TG} {tt : TT} {tk tv : TE} {vs : List Nat} {σ : L2.St} {G : Hp} {D : Addr} {Qd : Hp → Prop} (Pv : Nat → Hp → Prop) (h0 : Pv 0 (upd G D (.dK []))) (hl : ∀ i H, i ≤ xs.length → Pv i H → SqT K H a xs)
    (hs : ∀ i x H, xs[i]? = some x → Pv i H → g x (wipe σ vs) H fun τ H2 => wipe τ vs = wipe σ vs ∧ tt τ H2 fun ok H3 =>
      if ok = true then tk τ H3 fun y H4 => tv τ H4 fun z H5 => ∃ kvs k, y = kV k ∧ H5 D = some (.dK kvs) ∧ kvs.length < sizeLine ∧ Pv (i + 1) (upd H5 D (.dK (putK kvs k z))) else Pv (i + 1) H3) (hd : ∀ H, Pv xs.length H → Qd H) :
    ∃ W : Nat → Nat → Hp → Prop, (∃ m, W 0 m (upd G D (.dK []))) ∧ ∀ i m H, W i m H →
      ((Itt K a).stop i H ∧ Qd H) ∨ ((Itt K a).go i H ∧ ∃ Nx : Hp → Prop, (∀ H', Nx H' → ∃ m', m' < m ∧ W (i + 1) m' H') ∧ ∀ x H', (Itt K a).yld i H x H' → g x (wipe σ vs) H' fun τ H2 => wipe τ vs = wipe σ vs ∧ tt τ H2 fun ok H3 =>
        if ok = true then tk τ H3 fun y H4 => tv τ H4 fun z H5 => ∃ kvs k, y = kV k ∧ H5 D = some (.dK kvs) ∧ kvs.length < sizeLine ∧ Nx (upd H5 D (.dK (putK kvs k z))) else Nx H3) := by
  refine ⟨fun i m H => m = xs.length - i ∧ i ≤ xs.length ∧ Pv i H, ⟨xs.length, (Nat.sub_zero _).symm, Nat.zero_le _, h0⟩, ?_⟩
  rintro i m H ⟨em, le, p⟩
  by_cases h : i < xs.length
  · exact .inr ⟨⟨xs, xs[i], hl i H le p, List.getElem?_eq_getElem h⟩, Pv (i + 1), fun H' p' => ⟨xs.length - (i + 1), by omega, rfl, h, p'⟩, fun x H' y => by
      have ex := y.2 xs (hl i H le p)
      rw [y.1]
      exact hs i x H ex p⟩
  · have e : i = xs.length := by omega
    exact .inl ⟨⟨xs, hl i H le p, by omega⟩, hd H (by rw [← e]; exact p)⟩
/-- the dict of right heads -/
inductive NV (w C : Addr) (H : Hp) : List (L2.Key × V) → List U → Prop
  | nil : NV w C H [] []
  | cons {z : Str} {s r : U} {v : V} {kvs : List (L2.Key × V)} {us : List U} : At w C H v (.tup [s, r]) → NV w C H kvs us → NV w C H ((.inr z, v) :: kvs) (.tup [.str z, s, r] :: us)
section
variable {w C : Addr} {H H' : Hp}
theorem NV.len {kvs : List (L2.Key × V)} {us : List U} (h : NV w C H kvs us) : kvs.length = us.length := by
  induction h with
  | nil => rfl
  | cons _ _ ih => rw [List.length_cons, List.length_cons, ih]
theorem NV.tups {kvs : List (L2.Key × V)} {us : List U} (k : ∀ b o, b ≠ w → TQ o → H b = some o → H' b = some o) (h : NV w C H kvs us) (g : us.all gNamed = true) : NV w C H' kvs us := by
  induction h with
  | nil => exact .nil
  | cons h _ ih =>
    rw [List.all_cons, Bool.and_eq_true] at g
    have p := gNamed_pln g.1
    exact .cons (at_tups k ⟨p.2.1, p.2.2.1, trivial⟩ h) (ih g.2)
theorem NV.append {kvs k2 : List (L2.Key × V)} {us u2 : List U} (h : NV w C H kvs us) (h2 : NV w C H k2 u2) : NV w C H (kvs ++ k2) (us ++ u2) := by
  induction h with
  | nil => exact h2
  | cons h _ ih => exact .cons h ih
theorem named_str {z y : Str} {s r : U} : named z (.tup [.str y, s, r]) = decide (y = z) := rfl
theorem NV.vnone {kvs : List (L2.Key × V)} {us : List U} (h : NV w C H kvs us) {z : Str} (g : us.find? (named z) = none) : valV kvs (.inr z) = none := by
  induction h with
  | nil => rfl
  | @cons y s r v kvs us h _ ih =>
    rw [List.find?_cons] at g
    by_cases q : y = z
    · rw [named_str, decide_eq_true q] at g
      cases g
    · rw [named_str, decide_eq_false q] at g
      rw [valV_neg fun e => q (Sum.inr.inj e)]
      exact ih g
theorem NV.vsome {kvs : List (L2.Key × V)} {us : List U} (h : NV w C H kvs us) {z : Str} {u : U} (g : us.find? (named z) = some u) : ∃ v, valV kvs (.inr z) = some v ∧ At w C H v (.tup [nth u 1, nth u 2]) := by
  induction h with
  | nil => cases g
  | @cons y s r v kvs us h _ ih =>
    rw [List.find?_cons] at g
    by_cases q : y = z
    · rw [named_str, decide_eq_true q] at g
      cases g
      rw [valV_pos (congrArg Sum.inr q)]
      exact ⟨v, rfl, h⟩
    · rw [named_str, decide_eq_false q] at g
      rw [valV_neg fun e => q (Sum.inr.inj e)]
      exact ih g
end
/-- told as data, in whatever it stands -/
inductive Lk (K : PySem.W.Frag) (H : Hp) : V → U → Prop
  | non : Lk K H .non .non
  | int (i : Int) : Lk K H (.int i) (.int i)
  | str (z : Str) : Lk K H (.str z) (.str z)
  | tup {a : Addr} {xs : List V} {us : List U} : SqT K H a xs → xs.length = us.length → (∀ (i : Nat) (x : V) (u : U), xs[i]? = some x → us[i]? = some u → Lk K H x u) → Lk K H (.ref a) (.tup us)
theorem sqt_ex {K : PySem.W.Frag} {H H' : Hp} {a : Addr} {xs : List V} (e : Ex H H') (h : SqT K H a xs) : SqT K H' a xs := by
  rcases h with h | h
  · refine .inl ?_
    rcases h with h | ⟨o, h⟩
    · exact .inl (e _ _ h)
    · exact .inr ⟨o, e _ _ h⟩
  · exact .inr h
theorem Lk.ex {K : PySem.W.Frag} {H H' : Hp} {v : V} {u : U} (e : Ex H H') (h : Lk K H v u) : Lk K H' v u := by
  induction h with
  | non => exact .non
  | int i => exact .int i
  | str z => exact .str z
  | tup h1 h2 _ ih => exact .tup (sqt_ex e h1) h2 fun i x u h3 h4 => ih i x u h3 h4
mutual
theorem lk_at {K : PySem.W.Frag} {w C : Addr} {H : Hp} : ∀ {u : U} {v : V}, pln u → At w C H v u → Lk K H v u
  | _, _, _, .non => .non
  | .bl _, _, p, _ => p.elim
  | _, _, _, .int i => .int i
  | _, _, _, .str z => .str z
  | _, _, p, .tup h n l => .tup (Tu.st h) (AtL.length l) (lk_atl p l)
  | _, _, p, .lst _ _ _ => p.elim
  | _, _, p, .dct _ _ _ _ _ => p.elim
  | _, _, p, .exc _ _ _ _ => p.elim
theorem lk_atl {K : PySem.W.Frag} {w C : Addr} {H : Hp} : ∀ {us : List U} {xs : List V}, plnL us → AtL w C H xs us → ∀ (i : Nat) (x : V) (u : U), xs[i]? = some x → us[i]? = some u → Lk K H x u
  | _, _, _, .nil => fun i x u h _ => by simp at h
  | _, _, p, .cons h l => fun i x u h1 h2 => by
    cases i with
    | zero =>
      cases h1
      cases h2
      exact lk_at p.1 h
    | succ i => exact lk_atl p.2 l i x u (by simpa using h1) (by simpa using h2)
end
abbrev sHeadsBy : Stmt := topS 62
abbrev sHeadAt : Stmt := topS 86
abbrev sHeadOf : Stmt := topS 87
section
variable {P : Program} {wd : World} {K : PySem.W.Frag} {mg : Str → Option Value} {base : Heap} {C : Addr}
theorem scHeadsBy : FnScope ["heads", "name", "stamp", "row"] ["heads"] (defScope sHeadsBy) := ⟨rfl, rfl, rfl, by decide +kernel, rfl, by decide +kernel, by decide +kernel⟩
def spHB (C : Addr) : Sp := fun vs H Q _ => ∃ (x : V) (hs : List U) (w : Addr), vs = [x] ∧ At w C H x (.tup hs) ∧ hs.all gNamed = true ∧ (hs.map fun u => strU (nth u 0)).Nodup ∧ hs.length ≤ 3000 ∧ (∃ o, H w = some o) ∧ ∀ d kvs H', H d = none → Same H H' → H' d = some (.dK kvs) → NV w C H' kvs hs → Q (.ref d) H'
theorem no_named {hs : List U} {z : Str} (g : hs.all gNamed = true) (h : z ∉ hs.map fun u => strU (nth u 0)) : hs.find? (named z) = none := by
  rw [List.find?_eq_none]
  intro u hu e
  obtain ⟨y, s, r, rfl, _⟩ := gNamed_is (List.all_eq_true.mp g u hu)
  rw [named_str] at e
  exact h (List.mem_map.mpr ⟨_, hu, of_decide_eq_true e⟩)
theorem ok_headsBy {f : Addr} {fd : FuncData} (D : Df K mg "heads_by_name" sHeadsBy ["heads"] f fd) : FnOk P wd K mg base CX0 1 f fd ["heads"] (spHB C) := by
  refine D.F.ok scHeadsBy (fun vs H Q E h => ?_) (fun cdv A outer s H vs Q E hr h => ?_)
  · obtain ⟨x, hs, w, rfl, _⟩ := h
    rfl
  obtain ⟨x, hs, w, rfl, hx, hall, hnd, hz, hw, k⟩ := h
  refine ⟨_, pss_one (ps_ret (pe_dc (own := [("name", 1), ("stamp", 2), ("row", 3)]) (g := gTup K 3 (gCons (gName 1) (gCons (gName 2) (gCons (gName 3) gNil)))) (tt := tYes) (tk := tVar 1) (tv := tTupF (tCons (tVar 2) (tCons (tVar 3) tNil))) rfl scHeadsBy.nd (pi_tup (pv 0))
    (blkOk_by (N := ["heads", "name", "stamp", "row"]) (sc := defScope sHeadsBy) (by decide +kernel))
    (fun _ _ _ _ _ => pg_tup rfl (pgs_cons (pg_name (i := 1) scHeadsBy.nd rfl (.inl rfl)) (pgs_cons (pg_name (i := 2) scHeadsBy.nd rfl (.inl rfl)) (pgs_cons (pg_name (i := 3) scHeadsBy.nd rfl (.inl rfl)) pgs_nil)))) (fun _ _ _ _ _ => pts_nil) (fun _ _ _ _ _ => pv 1) (fun _ _ _ _ _ => pe_tupF (pa_cons (pv 2) (pa_cons (pv 3) pa_nil))))), ?_⟩
  obtain ⟨a, xs, rfl, ha, na, hl⟩ := at_tup hx
  have hlen := AtL.length hl
  refine ⟨_, rfl, a, rfl, ⟨xs, Tu.st ha⟩, fun Dd hD => dc_tup (xs := xs) (fun i G => Ex H G ∧ ∃ kvs, G Dd = some (.dK kvs) ∧ NV w C G kvs (hs.take i)) ⟨Ex.new hD, [], upd_same, .nil⟩ (fun i G _ p => Tu.st (Tu.ex p.1 ha)) (fun i x G hi p => ?_) (fun G p => ?_)⟩
  · obtain ⟨e1, kvs, p2, p3⟩ := p
    have hi' : i < hs.length := by
      have := (List.getElem?_eq_some_iff.mp hi).1
      omega
    obtain ⟨v', hv', av⟩ := AtL.get hl (List.getElem?_eq_getElem hi')
    rw [hi] at hv'
    cases hv'
    have hg : hs[i]? = some hs[i] := List.getElem?_eq_getElem hi'
    have tk : hs.take (i + 1) = hs.take i ++ [hs[i]] := by rw [List.take_add_one, hg]; rfl
    have gn := List.all_eq_true.mp hall _ (List.getElem_mem hi')
    have gt : (hs.take (i + 1)).all gNamed = true := List.all_eq_true.mpr fun u hu => List.all_eq_true.mp hall u (List.mem_of_mem_take hu)
    have n1 : ((hs.take (i + 1)).map fun u => strU (nth u 0)).Nodup := List.Nodup.sublist (List.Sublist.map _ (List.take_sublist _ _)) hnd
    rw [tk] at gt n1 ⊢
    generalize hs[i] = un at av gn gt n1 ⊢
    obtain ⟨z, s1, r1, rfl, _, gr⟩ := gNamed_is gn
    rw [List.map_append, List.nodup_append] at n1
    rw [List.all_append, Bool.and_eq_true] at gt
    have nof : (hs.take i).find? (named z) = none := no_named gt.1 fun hm => n1.2.2 z hm z (by simp [nth, strU]) rfl
    obtain ⟨b, ys, rfl, hb, nb, hys⟩ := at_tup av
    obtain ⟨y1, y2, rfl, ay1, ay2⟩ : ∃ y1 y2, ys = [.str z, y1, y2] ∧ At w C H y1 s1 ∧ At w C H y2 r1 := by
      cases hys with
      | cons h1 h2 => cases h2 with
        | cons h3 h4 => cases h4 with
          | cons h5 h6 =>
            cases h6
            cases at_str h1
            exact ⟨_, _, rfl, h3, h5⟩
    refine ⟨b, _, rfl, Tu.st (Tu.ex e1 hb), rfl, _, _, rfl, _, _, rfl, _, _, rfl, rfl, rfl, ?_⟩
    refine et_yes G (Ex.refl G) _ fun G0 e0 => ?_
    rw [if_pos rfl]
    have e10 := e1.trans e0
    refine ⟨_, rfl, (ed_tup (C := C) (hw.imp fun o q => e10 _ _ q) (eds_cons (ed_ev (te := tVar 2) (ev_var rfl) (ex_at e10 ay1)) (eds_cons (ed_ev (te := tVar 3) (ev_var rfl) (ex_at e10 ay2)) eds_nil)) (by show (2 : Nat) ≤ 100000; decide)) G0 (Ex.refl G0) _ fun v G1 e11 a1 => ?_⟩
    have h2 := e11 _ _ (e0 _ _ p2)
    have nt : ∀ b o, b ≠ w → TQ o → G1 b = some o → upd G1 Dd (.dK (putK kvs (.inr z) v)) b = some o := fun b o _ q e => by
      rw [upd_ne (fun x => by
        rw [x, h2] at e
        cases e
        obtain ⟨zs, q | ⟨c, q⟩⟩ := q <;> cases q)]
      exact e
    refine ⟨kvs, .inr z, rfl, h2, ?_, Ex.mut (e10.trans e11) hD, _, upd_same, ?_⟩
    · have := p3.len
      rw [List.length_take] at this
      exact sz_lt (by omega)
    · rw [putK_new _ (p3.vnone nof)]
      have p4 : NV w C G1 kvs (hs.take i) := p3.tups (fun b o _ _ h => e11 _ _ (e0 _ _ h)) gt.1
      have := (p4.append (.cons (z := z) a1 .nil)).tups nt (by rw [List.all_append, gt.1, gt.2]; rfl)
      rw [putK_new _ (p3.vnone nof)] at this
      exact this
  · obtain ⟨p1, kvs, p2, p3⟩ := p
    rw [hlen, List.take_length] at p3
    exact k Dd kvs G hD p1 p2 p3
end
end Hs
/-! head_at, head_of -/
namespace Hs
open PySem PySem.Spec PyProof.Rows L2 Hu Evl
open Hk (SI ltSI nearOk)
/-- a head never written -/
structure Fh (K : PySem.W.Frag) (mg : Str → Option Value) (a : Addr) : Prop where
  g : mg "FIRST_HEAD" = some (.ref a)
  l : ∀ H, Lk K H (.ref a) firstU
section
variable {P : Program} {wd : World} {K : PySem.W.Frag} {mg : Str → Option Value} {base : Heap} {C : Addr}
theorem due_pln {hs : List U} {z : Str} (g : hs.all gNamed = true) : pln (dueH hs z) := by
  unfold dueH
  split
  · rename_i u hu
    have := gNamed_pln (List.all_eq_true.mp g u (List.mem_of_find?_eq_some hu))
    obtain ⟨y, s, r, rfl, _⟩ := gNamed_is (List.all_eq_true.mp g u (List.mem_of_find?_eq_some hu))
    exact ⟨this.2.1, this.2.2.1, trivial⟩
  · simp [firstU, pln, plnL]
theorem scHeadAt : FnScope ["table", "name"] ["table", "name"] (defScope sHeadAt) := ⟨rfl, rfl, rfl, by decide +kernel, rfl, by decide +kernel, by decide +kernel⟩
def spHA (K : PySem.W.Frag) (C : Addr) : Sp := fun vs H Q _ => ∃ (x : V) (z : Str) (u : U) (hs bs : List U) (w : Addr), vs = [x, .str z] ∧ At w C H x u ∧ TabU u hs bs ∧ hs.length ≤ 3000 ∧ (∃ o, H w = some o) ∧ ∀ v H', Same H H' → Lk K H' v (dueH hs z) → Q v H'
theorem ok_headAt {f f1 a : Addr} {fd d1 : FuncData} (D : Df K mg "head_at" sHeadAt ["table", "name"] f fd) (N : Ct mg) (F : Fh K mg a) (D1 : Df K mg "heads_by_name" sHeadsBy ["heads"] f1 d1) : FnOk P wd K mg base CX0 2 f fd ["table", "name"] (spHA K C) := by
  have G1 : FnOk P wd K mg base CX0 1 f1 d1 ["heads"] (spHB C) := ok_headsBy D1
  refine D.F.ok scHeadAt (fun vs H Q E h => ?_) (fun cdv A outer s H vs Q E hr h => ?_)
  · obtain ⟨x, z, u, hs, bs, w, rfl, _⟩ := h
    rfl
  obtain ⟨x, z, u, hs, bs, w, rfl, hx, T, hz, hw, k⟩ := h
  refine ⟨_, pss_one (ps_ret (pe_dget2 (room_h1 hr) (pe_call G1 hr (by rfl) D1.g D1.F.kp D1.b .nil pass0 (pa_cons (pe_ix ix_tup (pv 0) (pe_gi (by rfl) N.p4) (fun _ _ => rfl)) pa_nil)) (pv 1) (pe_glob (v := .ref a) (by rfl) F.g rfl) ⟨rfl, rfl, rfl, rfl⟩)), ?_⟩
  obtain ⟨y4, e4, a4⟩ := ev_nth (K := K) (σ := [some x, some (.str z)]) (te := tVar 0) (k := 4) (ev_var rfl) hx T.t (by decide)
  rw [T.h] at a4
  refine ret1 ?_
  unfold tDGet2
  refine call1 (ea_cons e4 ea_nil) fun H1 e1 => ⟨y4, hs, w, rfl, ex_at e1 a4, T.ha, T.hn, hz, hw.imp fun o q => e1 _ _ q, fun d kvs H2 hd e2 hk nv => ⟨d, rfl, .inl ⟨kvs, .inl hk⟩, _, rfl, _, DGet.k (k := .inr z) hk, ?_⟩⟩
  cases g : hs.find? (named z) with
  | none =>
    rw [nv.vnone g]
    refine k _ H2 (e1.trans e2) ?_
    have : dueH hs z = firstU := by
      unfold dueH
      rw [g]
    rw [this]
    exact F.l H2
  | some b =>
    obtain ⟨v, hv, av⟩ := nv.vsome g
    rw [hv]
    refine k v H2 (e1.trans e2) ?_
    have pl := due_pln (hs := hs) (z := z) T.ha
    have : dueH hs z = .tup [nth b 1, nth b 2] := by
      unfold dueH
      rw [g]
    rw [this] at pl ⊢
    exact lk_at pl av
theorem scHeadOf : FnScope ["table", "name"] ["table", "name"] (defScope sHeadOf) := ⟨rfl, rfl, rfl, by decide +kernel, rfl, by decide +kernel, by decide +kernel⟩
def spHO (K : PySem.W.Frag) (C CT CN : Addr) : Sp := fun vs H Q E => ∃ (x y : V) (u n : U) (w w2 : Addr), vs = [x, y] ∧ At w C H x u ∧ Fine u ∧ Sm u ∧ (∃ o, H w = some o) ∧ At w2 C H y n ∧ Fine n ∧ (gTable u = true → ∀ z, n = .str z → gNam n = true → ∀ v H', Same H H' → Lk K H' v (dueH (hsOf u) z) → Q v H') ∧
  (gTable u = true → gNam n = false → ∀ H', Same H H' → E (.ref CN) none H') ∧ (gTable u = false → ∀ H', Same H H' → E (.ref CT) none H')
theorem ok_headOf {f f1 f2 f3 f4 CT CN a : Addr} {fd d1 d2 d3 d4 : FuncData} (D : Df K mg "head_of" sHeadOf ["table", "name"] f fd) (N : Ct mg) (F : Fh K mg a) (JT : Jw P wd K mg base C 8 "is_table" "thing" f1 d1 Sm gTable) (JN : Jd P wd K mg base C 2 "is_name" "thing" f2 d2 gNam) (D3 : Df K mg "head_at" sHeadAt ["table", "name"] f3 d3)
    (D4 : Df K mg "heads_by_name" sHeadsBy ["heads"] f4 d4) (EC : Ec K mg "NoTable" CT) (EN : Ec K mg "NoName" CN) : FnOk P wd K mg base (L2.CX P wd) 9 f fd ["table", "name"] (spHO K C CT CN) := by
  have G3 : FnOk P wd K mg base CX0 2 f3 d3 ["table", "name"] (spHA K C) := ok_headAt D3 N F D4
  refine D.F.okX scHeadOf (fun vs H Q E h => ?_) (fun cdv A outer s H vs Q E hr h => ?_)
  · obtain ⟨x, y, u, n, w, w2, rfl, _⟩ := h
    rfl
  obtain ⟨x, y, u, n, w, w2, rfl, hx, fi, sm, hw, hy, fn, k, kN, kE⟩ := h
  refine ⟨_, pss_cons (ps_if (pt_not (pt_val (pe_Jw JT hr (by decide) (by rfl) pass0 (pv 0)))) (pss_one (ps_raise rfl (takes_of rfl rfl rfl rfl) (pmk_own0 PySem.F.excBase_ValueError EC.x EC.g EC.k (raises_own EC.b EC.t) rfl))) pss_nil)
      (pss_cons (ps_if (pt_not (pt_val (pe_J JN hr (by decide) (by rfl) pass0 (pv 1)))) (pss_one (ps_raise rfl (takes_of rfl rfl rfl rfl) (pmk_own0 PySem.F.excBase_ValueError EN.x EN.g EN.k (raises_own EN.b EN.t) rfl))) pss_nil)
      (pss_one (ps_ret (pe_call (G3.mono (by decide : 2 ≤ 8)) hr (by rfl) D3.g D3.F.kp D3.b .nil pass0 (pa_cons (pv 0) (pa_cons (pv 1) pa_nil)))))), ?_⟩
  refine q_when (et_not (et_B (ev_Jw (ev_var rfl) hx fi sm hw))) (fun q H1 e => ?_) (fun q H1 e => ?_)
  · rw [Bool.not_eq_true'] at q
    exact kE q H1 e
  · rw [Bool.not_eq_false'] at q
    refine q_when (et_not (et_B (ev_J (ev_var rfl) (ex_at e hy) fn))) (fun q2 H2 e2 => ?_) (fun q2 H2 e2 => ?_)
    · rw [Bool.not_eq_true'] at q2
      exact kN q q2 H2 (e.trans e2)
    · rw [Bool.not_eq_false'] at q2
      obtain ⟨z, rfl⟩ := gNam_str q2
      cases at_str hy
      obtain ⟨hs, bs, T⟩ := gTable_has q
      refine ret1 ?_
      refine call1 (ea_cons (ev_var rfl) (ea_cons (ev_var rfl) ea_nil)) fun H3 e3 => ⟨x, z, u, hs, bs, w, rfl, ex_at ((e.trans e2).trans e3) hx, T, T.hlen sm, hw.imp fun o q => ((e.trans e2).trans e3) _ _ q, fun v H4 e4 l => k q z rfl q2 v H4 (((e.trans e2).trans e3).trans e4) ?_⟩
      rw [T.hs]
      exact l
end
end Hs
/-! _law_alike: what is told, in whatever it stands, and what is due -/
namespace Hs
open PySem PySem.Spec PyProof.Rows L2 Hu Evl
open Hk (SI ltSI nearOk)
abbrev lAlike : Stmt := topS 132
theorem depL_mem {u : U} : ∀ {us : List U}, u ∈ us → dep u ≤ depL us
  | _ :: us, .head _ => by simp only [depL]; omega
  | _ :: us, .tail _ h => by have := depL_mem h; simp only [depL]; omega
theorem tyx_tup {K : PySem.W.Frag} {H : Hp} {a : Addr} {xs : List V} (h : SqT K H a xs) : TyX K H (.ref a) (.type "tuple") := by
  rcases h with h | ⟨o, its, n, h1, h2, _⟩
  · rcases h with h | ⟨o, h⟩
    · exact .base (.tup h)
    · exact .fTuple h
  · exact .kTuple h1 h2
section
variable {X : Cx} {C : Addr} {e : Expr} {te : TE} {p p2 pos : Pos}
theorem pe_isiY {T : String} {T' : Str} (S : Bs X.K X.mg C) (hg : Gl X "isinstance") (hgT : Gl X T') (hT : X.mg T' = none) (bT : bootBuiltins T' = some (.type T)) (he : PE X e te) (hn : T' ≠ "__name__") (hd : (T' == ("__debug__" : Str)) = false)
    (hst : starEach [e] X.env = (false, eval e X.env) :: starEach [] X.env := by rfl) (hst2 : starEach [e, .Name T' p2] X.env = (false, eval e X.env) :: starEach [.Name T' p2] X.env := by rfl) (hpl : (backTo pos (starEach [.Name T' p2] X.env)).any (·.1) = false := by rfl)
    (hst3 : starEach [.Name T' p2] X.env = (false, eval (.Name T' p2) X.env) :: starEach [] X.env := by rfl) :
    PE X (.Call (.Name "isinstance" p) [e, .Name T' p2] [] pos) (tCB (L2.rIsi X.K) (tCons te (tCons (tC (.ty T)) tNil))) :=
  pe_callB call_isi hg S.B.isi boot_isi (pa_cons he (pa_cons (pe_bltn hgT hT bT (show RelV (.ty T) (.type T) from rfl) hn hd) pa_nil hst3) hst2) (by decide) (by decide) hst2 hpl
end
section
variable {K : PySem.W.Frag} {σ : L2.St} {H : Hp} {te : TE}
theorem ev_isiI {T : String} {b : Bool} {i : Int} (h : Ev te σ H (.int i)) (hk : kitB "int" T = some b) : Ev (tCB (L2.rIsi K) (tCons te (tCons (tC (.ty T)) tNil))) σ H (.bl b) :=
  ev_cb (ea_cons h (ea_cons ev_c ea_nil)) fun H1 e Q q => ⟨_, .ty T, _, .type T, _, rfl, .ty T, .base (.int i), kit_ty hk, q H1 (Ex.refl H1)⟩
theorem ev_isiS {T : String} {b : Bool} {s : Str} (h : Ev te σ H (.str s)) (hk : kitB "str" T = some b) : Ev (tCB (L2.rIsi K) (tCons te (tCons (tC (.ty T)) tNil))) σ H (.bl b) :=
  ev_cb (ea_cons h (ea_cons ev_c ea_nil)) fun H1 e Q q => ⟨_, .ty T, _, .type T, _, rfl, .ty T, .base (.str s), kit_ty hk, q H1 (Ex.refl H1)⟩
theorem ev_isiT {T : String} {b : Bool} {a : Addr} {xs : List V} (h : Ev te σ H (.ref a)) (hx : SqT K H a xs) (hk : kitB "tuple" T = some b) : Ev (tCB (L2.rIsi K) (tCons te (tCons (tC (.ty T)) tNil))) σ H (.bl b) :=
  ev_cb (ea_cons h (ea_cons ev_c ea_nil)) fun H1 e Q q => ⟨_, .ty T, _, .type T, _, rfl, .ty T, tyx_tup (sqt_ex e hx), kit_ty hk, q H1 (Ex.refl H1)⟩
theorem kitII : kitB "int" "int" = some true := by decide +kernel
theorem kitIB : kitB "int" "bool" = some false := by decide +kernel
theorem kitSS : kitB "str" "str" = some true := by decide +kernel
theorem kitTT : kitB "tuple" "tuple" = some true := by decide +kernel
theorem ev_lenSq {a : Addr} {xs : List V} (h : Ev te σ H (.ref a)) (hx : SqT K H a xs) : Ev (tCB (rLenQ K) (tCons te tNil)) σ H (.int (xs.length : Int)) :=
  ev_cb (ea_cons h ea_nil) fun H1 e Q q => ⟨a, xs, rfl, .inr (sqt_ex e hx), q H1 (Ex.refl H1)⟩
/-- all([f(k) for k in range(n)]), all true -/
theorem ev_allR {ta : TA} {j : Nat} {vs : List Nat} {n : Nat} (h : EvA ta σ H [.int (n : Int)]) (hn : n ≤ 40000) (hw : ∀ x, wipe ((wipe σ vs).set j (some x)) vs = wipe σ vs)
    (he : ∀ i : Nat, i < n → Ev te ((wipe σ vs).set j (some (.int (i : Int)))) H (.bl true)) : Ev (tCB (rAll K) (tCons (tLc (iRng1 ta) (gName j) tYes te vs) tNil)) σ H (.bl true) := by
  have main : EvL (tLc (iRng1 ta) (gName j) tYes te vs) σ H ((List.range ((n : Int)).toNat).map fun _ => V.bl true) := el_rngM (fun _ => .bl true) h (by omega) hw fun i hi => he i (by omega)
  refine ev_cb1 main fun p H2 h2 e2 Q q => ⟨p, List.replicate n true, rfl, sq_of ?_, ?_⟩
  · rw [h2, Int.toNat_natCast]
    congr 2
    rw [List.map_replicate]
    exact List.ext_getElem (by simp) fun i h1 h2 => by simp
  · have : (List.replicate n true).all id = true := by simp
    rw [this]
    exact q H2 (Ex.refl H2)
end
section
variable {P : Program} {wd : World} {K : PySem.W.Frag} {mg : Str → Option Value} {base : Heap} {C : Addr}
def spAl (K : PySem.W.Frag) (C : Addr) (n : Nat) : Sp := fun vs H Q _ => ∃ (x y : V) (u : U) (w : Addr), vs = [x, y] ∧ Lk K H x u ∧ At w C H y u ∧ wt u ≤ 160000 ∧ pln u ∧ dep u < n ∧ ∀ H', Same H H' → Q (.bl true) H'
theorem scAl : FnScope ["told", "due", "k"] ["told", "due"] (defScope lAlike) := ⟨rfl, rfl, rfl, by decide +kernel, rfl, by decide +kernel, by decide +kernel⟩
theorem lk_tup {H : Hp} {v : V} {us : List U} (h : Lk K H v (.tup us)) : ∃ a xs, v = .ref a ∧ SqT K H a xs ∧ xs.length = us.length ∧ ∀ (i : Nat) (x : V) (u : U), xs[i]? = some x → us[i]? = some u → Lk K H x u := by
  cases h with
  | tup h1 h2 h3 => exact ⟨_, _, rfl, h1, h2, h3⟩
theorem lk_non {H : Hp} {v : V} {u : U} (h : Lk K H v u) : decide (v = .non) = isNon u := by
  cases h <;> rfl
theorem ok_alike {f : Addr} {fd : FuncData} (DN : Df K mg "_law_alike" lAlike ["told", "due"] f fd) (S : Bs K mg C) : ∀ n : Nat, FnOk P wd K mg base CX0 n f fd ["told", "due"] (spAl K C n)
  | 0 => ⟨fun _ _ _ _ ⟨_, _, _, _, e, _⟩ => by rw [e]; rfl, fun _ _ _ _ _ _ _ _ _ _ _ _ _ ⟨_, _, _, _, _, _, _, _, _, h, _⟩ => absurd h (Nat.not_lt_zero _)⟩
  | n + 1 => by
    have G := ok_alike DN S n
    refine DN.F.ok scAl (fun vs H Q E h => ?_) (fun cdv A outer s H vs Q E hr h => ?_)
    · obtain ⟨x, y, u, w, rfl, _⟩ := h
      rfl
    obtain ⟨x, y, u, w, rfl, hx, hy, hs, hp, hd, k⟩ := h
    refine ⟨_, pss_cons (ps_if (pt_val (pe_isiX S (by rfl) (by rfl) S.B.tup boot_tuple' (by decide) (pv 1) (by decide) (by decide)))
        (pss_cons (ps_if (PW.pt (pw_or (pt_not (pt_val (pe_isiY S (by rfl) (by rfl) S.B.tup boot_tuple' (pv 0) (by decide) (by decide)))) (pw_or1 (pt_cmpR op_ne (pe_callB call_len_seq (by rfl) S.B.len PySem.boot_len (pa_cons (pv 0) pa_nil)) (pe_callB call_len_seq (by rfl) S.B.len PySem.boot_len (pa_cons (pv 1) pa_nil)) (nomark _))))) (pss_one (ps_ret pe_bl)) pss_nil)
        (pss_one (ps_ret (pe_callB (cr_all rfl) (by rfl) S.B.all boot_all' (pa_cons (pe_lc (own := [("k", 2)]) (g := gName 2) (tt := tYes) rfl scAl.nd (pi_range1 (by rfl) S.B.range (pa_cons (pe_callB call_len_seq (by rfl) S.B.len PySem.boot_len (pa_cons (pv 1) pa_nil)) pa_nil)) (blkOk_by (N := ["told", "due", "k"]) (sc := defScope lAlike) (by decide +kernel))
          (fun _ _ _ _ _ => pg_name (i := 2) scAl.nd rfl (Or.inl rfl)) (fun _ _ _ _ _ => pts_nil) (fun _ _ _ _ _ => pe_call G hr (by rfl) DN.g DN.F.kp DN.b .nil pass0 (pa_cons (pe_ix (show IxR _ (rIxT K) from ix_tup) (pv 0) (pv 2) (fun _ _ => rfl)) (pa_cons (pe_ix (show IxR _ (rIxT K) from ix_tup) (pv 1) (pv 2) (fun _ _ => rfl)) pa_nil)))) pa_nil))))) pss_nil)
      (pss_cons (ps_if (pt_cmpR op_isN1 (pv 1) pe_non (nomark _)) (pss_one (ps_ret (pe_cmpR op_isN1 (pv 0) pe_non (nomark _)))) pss_nil)
      (pss_cons (ps_if (pt_val (pe_isiX S (by rfl) (by rfl) S.B.str boot_str (by decide) (pv 1) (by decide) (by decide))) (pss_one (ps_ret (pe_and (pe_isiY S (by rfl) (by rfl) S.B.str boot_str (pv 0) (by decide) (by decide)) (pe_one (pe_cmpR op_eq (pv 0) (pv 1) (nomark _)))))) pss_nil)
      (pss_one (ps_ret (pe_and (pe_isiY S (by rfl) (by rfl) S.B.int boot_int' (pv 0) (by decide) (by decide)) (pe_and (pe_not (pe_isiY S (by rfl) (by rfl) S.B.boo boot_bool' (pv 0) (by decide) (by decide))) (pe_one (pe_cmpR op_eq (pv 0) (pv 1) (nomark _))))))))), ?_⟩
    refine q_when (b := isT u "tuple") (et_B (ev_isi (ev_var rfl) hy)) (fun q H1 e1 => ?_) (fun q H1 e1 => ?_)
    · obtain ⟨us, rfl⟩ := isT_tup q
      obtain ⟨a, xs, rfl, ha, l1, hl⟩ := lk_tup (hx.ex e1)
      obtain ⟨b, ys, rfl, hb, _, hm⟩ := at_tup (ex_at e1 hy)
      have l2 := AtL.length hm
      have hz : us.length ≤ 40000 := by
        have h1 := wt_len4 us
        simp only [wt] at hs
        omega
      refine q_when (b := !true || false) (et_or (et_not (et_B (ev_isiT (ev_var rfl) ha kitTT))) fun _ => et_test (ev_is (ev_op (ev_lenSq (K := K) (ev_var rfl) ha) (ev_lenT (K := K) (ev_var rfl) hb) (rv_ne rfl)) (by rw [l1, l2]; simp))) (fun q => by cases q) (fun _ H2 e2 => ?_)
      refine s_ret (ev_allR (K := K) (n := us.length) (ea_cons (ev_is (ev_lenT (K := K) (ev_var rfl) (Tu.ex e2 hb)) (by rw [l2])) ea_nil) hz (fun _ => rfl) fun i hi => ?_) fun H3 e3 => k H3 ((e1.trans e2).trans e3)
      have hx1 : xs[i]? = some (xs[i]'(by omega)) := List.getElem?_eq_getElem _
      generalize xs[i]'(by omega) = x1 at hx1
      have ax := hl i x1 us[i] hx1 (List.getElem?_eq_getElem hi)
      obtain ⟨y1, hy1, ay⟩ := AtL.get hm (List.getElem?_eq_getElem hi)
      have hpl : plnL us := hp
      have hdl : depL us + 1 < n + 1 := by simpa only [dep] using hd
      exact ev_call (ea_cons (ev_op (ev_var rfl) (ev_var rfl) (rv_ixT (sqt_ex e2 ha) (atI_nat hx1))) (ea_cons (ev_op (ev_var rfl) (ev_var rfl) (rv_ixT (Tu.st (Tu.ex e2 hb)) (atI_nat hy1))) ea_nil)) fun G eg Q q E =>
        ⟨x1, y1, us[i], w, rfl, ax.ex (e2.trans eg), ex_at (e2.trans eg) ay, by have := wt_mem (List.getElem_mem hi); simp only [wt] at hs; omega, plnL_all.mp hpl _ (List.getElem_mem hi), by have := depL_mem (List.getElem_mem hi); omega, q⟩
    · have hx1 := hx.ex e1
      have hy1 := ex_at e1 hy
      refine q_when (b := isNon u) (et_test (ev_is (ev_isN (ev_var rfl)) (by rw [at_non hy1]))) (fun q2 H2 e2 => ?_) (fun q2 H2 e2 => ?_)
      · exact s_ret (ev_is (ev_isN (ev_var rfl)) (by rw [lk_non (hx1.ex e2), q2])) fun H3 e3 => k H3 ((e1.trans e2).trans e3)
      · have hx2 := hx1.ex e2
        have hy2 := ex_at e2 hy1
        have e12 := e1.trans e2
        refine q_when (b := isT u "str") (et_B (ev_isi (ev_var rfl) hy2)) (fun q3 H3 e3 => ?_) (fun q3 H3 e3 => ?_)
        · obtain ⟨z, rfl⟩ := isT_str q3
          cases hx
          have ey := at_str (ex_at e3 hy2)
          subst ey
          exact s_ret (v := .bl (true && true)) (ev_andV (ev_isiS (ev_var rfl) kitSS) fun _ => ev_is (ev_op (ev_var rfl) (ev_var rfl) (rv_eq rfl)) (congrArg V.bl (decide_eq_true rfl))) fun H4 e4 => k H4 ((e12.trans e3).trans e4)
        · obtain ⟨i, rfl⟩ : ∃ i, u = .int i := by
            cases u with
            | int i => exact ⟨i, rfl⟩
            | non => cases q2
            | str z => simp [isT, isS, tyU] at q3
            | tup us => simp [isT, isS, tyU] at q
            | bl b => exact hp.elim
            | lst us => exact hp.elim
            | dct us => exact hp.elim
            | exc => exact hp.elim
          cases hx
          have ey := at_int (ex_at e3 hy2)
          subst ey
          exact s_ret (v := .bl (true && (!false && true))) (ev_andV (ev_isiI (ev_var rfl) kitII) fun _ => ev_andV (ev_notV (ev_isiI (ev_var rfl) kitIB)) fun _ => ev_is (ev_op (ev_var rfl) (ev_var rfl) (rv_eq rfl)) (congrArg V.bl (decide_eq_true rfl))) fun H4 e4 => k H4 ((e12.trans e3).trans e4)
end
end Hs
/-! _law_read_holds -/
namespace Hs
open PySem PySem.Spec PyProof.Rows L2 Hu Evl
open Hk (SI ltSI nearOk)
section
variable {P : Program} {w : World} {K : PySem.W.Frag} {mg : Str → Option Value} {base : Heap} {f : Addr} {fd : FuncData} {ps : List Str} {k : Nat} {sp : Sp}
/-- what may raise, where it doesn't -/
theorem lowerX (F : FnOk P w K mg base (L2.CX P w) k f fd ps sp) : FnOk P w K mg base CX0 k f fd ps (fun vs H Q _ => sp vs H Q E0) :=
  ⟨fun vs H Q E h => F.len _ _ _ _ h, fun A outer s H args us vs Q E hr he hb hv hs => codeAny_mono (F.run A outer s H args us vs Q E0 hr he hb hv hs) fun r s' hq => by
    cases r with
    | error e =>
      obtain ⟨_, _, _, _, _, _, _, _, _, _, _, _, h⟩ := hq
      exact h.elim
    | ok fl => cases fl <;> exact hq⟩
end
/-! ### how deep, how heavy -/
theorem gId_dep {u : U} (h : gId u = true) : dep u ≤ 1 := by
  obtain ⟨i, j, rfl⟩ := gId_two h
  simp [dep, depL]
theorem depL_le {m : Nat} : ∀ {us : List U}, (∀ u ∈ us, dep u ≤ m) → depL us ≤ m
  | [], _ => Nat.zero_le _
  | u :: us, h => by
    have h1 := h u (by simp)
    have h2 := depL_le fun x hx => h x (List.mem_cons_of_mem _ hx)
    simp only [depL]
    omega
theorem gRow_dep {u : U} (h : gRow u = true) : dep u ≤ 2 := by
  cases u with
  | tup us =>
    have h2 : (decide (us.length ≤ 12) && us.all gId) = true := h
    have := depL_le (m := 1) fun x hx => gId_dep (List.all_eq_true.mp (and2 h2).2 x hx)
    simp only [dep]
    omega
  | non => simp [dep]
  | _ => cases h
theorem gStamp_dep {u : U} (h : gStamp u = true) : dep u ≤ 1 := by
  obtain ⟨i, j, rfl⟩ := gStamp_two h
  simp [dep, depL]
theorem due_ok {hs : List U} {z : Str} (g : hs.all gNamed = true) : dep (dueH hs z) < 8 ∧ wt (dueH hs z) ≤ max (wtL hs) 400 := by
  unfold dueH
  split
  · rename_i u hu
    have hm := List.mem_of_find?_eq_some hu
    obtain ⟨y, s, r, rfl, h1, h2⟩ := gNamed_is (List.all_eq_true.mp g u hm)
    have d1 := gStamp_dep h1
    have d2 := gRow_dep h2
    have := wt_mem hm
    constructor
    · show dep (.tup [s, r]) < 8
      simp only [dep, depL]
      omega
    · show wt (.tup [s, r]) ≤ _
      simp only [wt, wtL] at this ⊢
      omega
  · constructor
    · simp [firstU, dep, depL]
    · simp [firstU, wt, wtL]
      omega
theorem wtL_filter {g : U → Bool} : ∀ us : List U, wtL (us.filter g) ≤ wtL us
  | [] => Nat.le_refl _
  | u :: us => by
    have := wtL_filter (g := g) us
    by_cases q : g u = true
    · rw [List.filter_cons_of_pos q]
      simp only [wtL]
      omega
    · rw [List.filter_cons_of_neg q]
      simp only [wtL]
      omega
theorem gBlk_dep {u : U} (h : gBlk u = true) : dep u ≤ 2 := by
  have pl := gBlk_pln h
  have h' : (gPair u && (gId (nth u 0) && gPiece (nth u 1))) = true := h
  obtain ⟨i, j, b, rfl⟩ := gBlk_is h
  obtain ⟨_, h2⟩ := and2 h'
  obtain ⟨_, h3⟩ := and2 h2
  have hb : gPiece b = true := h3
  cases b with
  | str z => simp [dep, depL]
  | _ => cases hb
theorem led_ok {hs bs : List U} (g : bs.all gBlk = true) : pln (.tup (bs.filter (inLed hs))) ∧ dep (.tup (bs.filter (inLed hs))) < 8 ∧ wt (.tup (bs.filter (inLed hs))) ≤ wtL bs + 3 := by
  have mem : ∀ u ∈ bs.filter (inLed hs), gBlk u = true := fun u hu => List.all_eq_true.mp g u (List.mem_filter.mp hu).1
  refine ⟨plnL_all.mpr fun u hu => gBlk_pln (mem u hu), ?_, ?_⟩
  · have := depL_le (m := 2) fun x hx => gBlk_dep (mem x hx)
    simp only [dep]
    omega
  · have := wtL_filter (g := inLed hs) bs
    simp only [wt]
    omega
theorem gBlk_id {u : U} (h : gBlk u = true) : gId (nth u 0) = true := (and2 (and2 (a := gPair u) (b := gId (nth u 0) && gPiece (nth u 1)) h).2).1
section
variable {K : PySem.W.Frag} {σ : L2.St} {H : Hp} {te : TE}
/-- all([k in there for k in led]) -/
theorem ev_allIn {tl : TE} {there j : Nat} {vs : List Nat} {p r : Addr} {xs ys : List V} {ks ls : List (Int × Int)} (h1 : Ev tl σ H (.ref p)) (hp : H p = some (.lst xs)) (px : P2 H xs ks) (hr : H r = some (.lst ys)) (py : P2 H ys ls) (hz : ks.length ≤ 50000)
    (hw : ∀ x, wipe ((wipe σ vs).set j (some x)) vs = wipe σ vs) (h2 : ∀ x, ((wipe σ vs).set j (some x))[there]? = some (some (.ref r))) (h3 : ∀ x, ((wipe σ vs).set j (some x))[j]? = some (some x)) :
    Ev (tCB (rAll K) (tCons (tLc (iList K tl) (gName j) tYes (tOp (rInP K false) (tVar j) (tVar there)) vs) tNil)) σ H (.bl (ks.all fun q => decide (q ∈ ls))) := by
  have main : EvL (tLc (iList K tl) (gName j) tYes (tOp (rInP K false) (tVar j) (tVar there)) vs) σ H ((ks.map fun q => decide (q ∈ ls)).map V.bl) := fun H0 e Q q => h1 H0 e _ fun H1 e1 => by
    have E := e.trans e1
    refine ⟨p, rfl, ⟨xs, sq_of (E _ _ hp)⟩, fun Dl hD => ?_⟩
    refine lc_list (xs := xs) (fun i H' => Ex H1 H' ∧ H' Dl = some (.lst (((ks.take i).map fun q => decide (q ∈ ls)).map V.bl))) ⟨Ex.new hD, by rw [List.take_zero]; exact upd_same⟩ (fun i H' _ p' => sq_of ((E.trans p'.1) _ _ hp)) (fun i x G hi p' => ?_) (fun G p' => ?_)
    · obtain ⟨p1, p2⟩ := p'
      obtain ⟨c, k, rfl, hk, hc⟩ := px.get hi
      refine ⟨hw _, et_yes G (Ex.refl G) _ fun G1 g1 => ?_⟩
      rw [if_pos rfl]
      have E1 := (E.trans p1).trans g1
      refine ⟨_, h3 _, _, h2 _, r, c, ys, ls, k, rfl, sq_of (E1 _ _ hr), py.ex E1, rfl, E1 _ _ hc, _, g1 _ _ p2, ?_, Ex.mut (p1.trans g1) hD, ?_⟩
      · rw [List.length_map, List.length_map, List.length_take]
        exact sz_lt (by omega)
      · rw [upd_same, List.take_add_one, hk, List.map_append, List.map_append]
        rfl
    · obtain ⟨p1, p2⟩ := p'
      rw [px.len, List.take_length] at p2
      exact q Dl G (fresh_back e1 hD) (e1.trans p1) p2
  refine ev_cb1 main fun l H2 h2 e2 Q q => ⟨l, ks.map fun q => decide (q ∈ ls), rfl, sq_of h2, ?_⟩
  have : (ks.map fun q => decide (q ∈ ls)).all id = ks.all fun q => decide (q ∈ ls) := by
    rw [List.all_map]
    rfl
  rw [this]
  exact q H2 (Ex.refl H2)
end
end Hs
/-! _law_read_holds -/
namespace Hs
open PySem PySem.Spec PyProof.Rows L2 Hu Evl
open Hk (SI ltSI nearOk)
abbrev lReadHolds : Stmt := topS 135
section
theorem call1X {σ : L2.St} {H : Hp} {ta : TA} {Q : VK} {sp : Sp} {E : XK} (h : ta σ H fun vs H1 => sp (vs ++ []) H1 Q E) : tCall sp [] E ta σ H Q := h
end
section
variable {P : Program} {wd : World} {K : PySem.W.Frag} {mg : Str → Option Value} {base : Heap} {C : Addr}
abbrev nmRH : List Str := ["table", "names", "led", "blocks", "there", "closed", "name", "block", "one"]
theorem scRH : FnScope nmRH ["table", "names"] (defScope lReadHolds) := ⟨rfl, rfl, rfl, by decide +kernel, rfl, by decide +kernel, by decide +kernel⟩
def spRH (K : PySem.W.Frag) (C : Addr) : Sp := fun vs H Q _ => ∃ (x : V) (N : Addr) (u : U) (zs : List Str) (w : Addr), vs = [x, .ref N] ∧ At w C H x u ∧ Fine u ∧ Sm u ∧ (∃ o, H w = some o) ∧ gTable u = true ∧ H N = some (.lst (zs.map V.str)) ∧ (∀ z ∈ zs, gNam (.str z) = true ∧ Fine (.str z)) ∧ ∀ H', Same H H' → Q (.bl true) H'
theorem lc_pl {us : List U} (g : us.all gBlk = true) : (us.map fun u => nth u 0).all gId = true := by
  rw [List.all_map]
  exact List.all_eq_true.mpr fun u hu => gBlk_id (List.all_eq_true.mp g u hu)
theorem led_in {hs : List U} {q : Int × Int} : decide (q ∈ ledL hs) = decide (q ∈ ledPs hs) := decide_eq_decide.mpr (ledL_mem q hs)
theorem closed_all {u : U} {hs bs : List U} (T : TabU u hs bs) : (ledL hs).all (fun q => decide (q ∈ (bs.map fun u => nth u 0).map idP)) = closedU u := by
  unfold closedU
  rw [T.hs, T.bs, List.map_map, Bool.eq_iff_iff, List.all_eq_true, List.all_eq_true]
  exact ⟨fun h q hq => h q ((ledL_mem q hs).mpr hq), fun h q hq => h q ((ledL_mem q hs).mp hq)⟩
theorem ledL_len {hs : List U} (g : hs.all gNamed = true) : (ledL hs).length ≤ 12 * hs.length := by
  have step : ∀ (us : List U) (f : List (Int × Int)), us.all gNamed = true → (us.foldl ledStep f).length ≤ f.length + 12 * us.length := by
    intro us
    induction us with
    | nil => intro f _; simp
    | cons u us ih =>
      intro f g
      rw [List.all_cons, Bool.and_eq_true] at g
      rw [List.foldl_cons]
      have h1 := ih (ledStep f u) g.2
      have h2 : (ledStep f u).length ≤ f.length + 12 := by
        unfold ledStep
        rw [List.length_append]
        have h3 := List.length_filter_le (fun k => !decide (k ∈ f)) (rowP (nth u 2))
        have h4 : (rowP (nth u 2)).length ≤ 12 := by
          obtain ⟨z, s, r, rfl, _, gr⟩ := gNamed_is g.1
          show (rowP r).length ≤ 12
          cases r with
          | tup ids =>
            obtain ⟨g1, _⟩ := and2 (a := decide (ids.length ≤ 12)) (b := ids.all gId) gr
            show (ids.map idP).length ≤ 12
            rw [List.length_map]
            exact of_decide_eq_true g1
          | non => exact Nat.zero_le _
          | _ => cases gr
        omega
      rw [List.length_cons]
      omega
  have := step hs [] g
  simpa [ledL] using this
theorem ok_readHolds {f fI fA fB fC fO fD : Addr} {fd dI dA dB dC dO dD : FuncData} {CT CN : Addr} (F : Fun K "_law_read_holds" "_law_read_holds" lReadHolds f fd) (S : Bs K mg C) (DI : Df K mg "_law_ids_led" lIdsLed ["table"] fI dI) (DA : Df K mg "_law_alike" lAlike ["told", "due"] fA dA)
    (DB : Df K mg "led_blocks" sLedBlocks ["table"] fB dB) (GB : FnOk P wd K mg base (L2.CX P wd) 9 fB dB ["table"] (spLBl C CT)) (DC : Df K mg "is_closed" sClosed ["table"] fC dC) (GC : FnOk P wd K mg base (L2.CX P wd) 9 fC dC ["table"] (spCl C CT))
    (DO : Df K mg "head_of" sHeadOf ["table", "name"] fO dO) (GO : FnOk P wd K mg base (L2.CX P wd) 9 fO dO ["table", "name"] (spHO K C CT CN)) (DD : Df K mg "_law_head_due" lHeadDue ["table", "name"] fD dD) : FnOk P wd K mg base CX0 10 f fd ["table", "names"] (spRH K C) := by
  have GI : FnOk P wd K mg base CX0 9 fI dI ["table"] (spIL C) := (ok_idsLed DI.F).mono (by decide)
  have GA : FnOk P wd K mg base CX0 9 fA dA ["told", "due"] (spAl K C 8) := (ok_alike DA S 8).mono (by decide)
  have GD : FnOk P wd K mg base CX0 9 fD dD ["table", "name"] (spHD C) := (ok_headDue DD.F).mono (by decide)
  have GB0 := lowerX GB
  have GC0 := lowerX GC
  have GO0 := lowerX GO
  refine F.ok scRH (fun vs H Q E h => ?_) (fun cdv A outer s H vs Q E hr h => ?_)
  · obtain ⟨x, N, u, zs, w, rfl, _⟩ := h
    rfl
  obtain ⟨x, N, u, zs, w, rfl, hx, fi, sm, hw, gt, hN, hzs, k⟩ := h
  refine ⟨_, pss_cons (ps_set (i := 2) scRH.nd rfl (.inr rfl) (pe_call GI hr (by rfl) DI.g DI.F.kp DI.b .nil pass0 (pa_cons (pv 0) pa_nil)))
    (pss_cons (ps_set (i := 3) scRH.nd rfl (.inl rfl) (pe_callTy call_tupF (by rfl) S.B.tup boot_tuple' (pa_cons (pe_lc (own := [("block", 7)]) (g := gName 7) (tt := tTest (tOp (rInP K false) (tOp (rIxT K) (tVar 7) (tC (.int 0))) (tVar 2))) rfl scRH.nd (pi_tup (pe_ix ix_tup (pv 0) pe_int (fun _ _ => rfl))) (blkOk_by (N := nmRH) (sc := defScope lReadHolds) (by decide +kernel))
      (fun _ _ _ _ _ => pg_name (i := 7) scRH.nd rfl (Or.inl rfl)) (fun _ _ _ _ _ => pts_one (pt_cmpR (show OpR _ _ (rInP K false) from op_inP (room_hu hr)) (pe_ix (show IxR _ (rIxT K) from ix_tup) (pv 7) pe_int (fun _ _ => rfl)) (pv 2) (by rfl))) (fun _ _ _ _ _ => pv 7)) pa_nil)))
    (pss_cons (ps_if (pt_not (pt_val (pe_call GA hr (by rfl) DA.g DA.F.kp DA.b .nil pass0 (pa_cons (pe_call GB0 hr (by rfl) DB.g DB.F.kp DB.b .nil pass0 (pa_cons (pv 0) pa_nil)) (pa_cons (pv 3) pa_nil))))) (pss_one (ps_ret pe_bl)) pss_nil)
    (pss_cons (ps_set (i := 4) scRH.nd rfl (.inr rfl) (pe_lc (own := [("block", 7)]) (g := gName 7) (tt := tYes) (te := tOp (rIxT K) (tVar 7) (tC (.int 0))) rfl scRH.nd (pi_tup (pe_ix ix_tup (pv 0) pe_int (fun _ _ => rfl))) (blkOk_by (N := nmRH) (sc := defScope lReadHolds) (by decide +kernel))
      (fun _ _ _ _ _ => pg_name (i := 7) scRH.nd rfl (Or.inl rfl)) (fun _ _ _ _ _ => pts_nil) (fun _ _ _ _ _ => pe_ix (show IxR _ (rIxT K) from ix_tup) (pv 7) pe_int (fun _ _ => rfl))))
    (pss_cons (ps_set (i := 5) scRH.nd rfl (.inl rfl) (pe_call GC0 hr (by rfl) DC.g DC.F.kp DC.b .nil pass0 (pa_cons (pv 0) pa_nil)))
    (pss_cons (ps_if (PW.pt (pw_or (pt_not (pt_val (pe_isiX S (by rfl) (by rfl) S.B.boo boot_bool' (by decide) (pv 5) (by decide) (by decide)))) (pw_or1 (pt_cmpR op_ne (pv 5) (pe_callB (cr_all rfl) (by rfl) S.B.all boot_all' (pa_cons (pe_lc (own := [("one", 8)]) (g := gName 8) (tt := tYes) (te := tOp (rInP K false) (tVar 8) (tVar 4)) rfl scRH.nd (pi_list (pv 2)) (blkOk_by (N := nmRH) (sc := defScope lReadHolds) (by decide +kernel))
        (fun _ _ _ _ _ => pg_name (i := 8) scRH.nd rfl (Or.inl rfl)) (fun _ _ _ _ _ => pts_nil) (fun _ _ _ _ _ => pe_cmpR (show OpR _ _ (rInP K false) from op_inP (room_hu hr)) (pv 8) (pv 4) (by rfl))) pa_nil)) (nomark _))))) (pss_one (ps_ret pe_bl)) pss_nil)
    (pss_cons (ps_for PassesOwn.never rfl (pi_list (pv 1)) (pg_name (i := 6) scRH.nd rfl (Or.inl rfl))
      (pss_one (ps_if (pt_not (pt_val (pe_call GA hr (by rfl) DA.g DA.F.kp DA.b .nil pass0 (pa_cons (pe_call GO0 hr (by rfl) DO.g DO.F.kp DO.b .nil pass0 (pa_cons (pv 0) (pa_cons (pv 6) pa_nil))) (pa_cons (pe_call GD hr (by rfl) DD.g DD.F.kp DD.b .nil pass0 (pa_cons (pv 0) (pa_cons (pv 6) pa_nil))) pa_nil))))) (pss_one (ps_ret pe_bl)) pss_nil)))
    (pss_one (ps_ret pe_bl)))))))), ?_⟩
  obtain ⟨hs, bs, T⟩ := gTable_has gt
  have hz := T.hlen sm
  have bz := T.blen sm
  refine ⟨_, rfl, x, u, hs, w, rfl, hx, T.t, T.h, T.ha, hz, fun p ys H1 hp e1 hy p2 => ?_⟩
  dsimp only [gName]
  show tSeq _ _ _ [some x, some (V.ref N), some (V.ref p), none, none, none, none, none, none] H1
  have hw1 : ∃ o, H1 w = some o := hw.imp fun o q => e1 _ _ q
  obtain ⟨y5, e5, a5⟩ := ev_nth (K := K) (σ := [some x, some (V.ref N), some (V.ref p), none, none, none, none, none, none]) (te := tVar 0) (k := 5) (ev_var rfl) (ex_at e1 hx) T.t (by decide)
  rw [T.b] at a5
  obtain ⟨a, xs, rfl, hta, na, hl⟩ := at_tup a5
  refine asg1 ?_
  refine (ed_tupL (K := K) (C := C) hw1 (us := (bs.filter (inLed hs)).map fun u => u) (lc_D (j := 7) (vs := [7]) (g := inLed hs) (f := fun u => u) e5 hta hl bz (fun u hu => gBlk_pln (List.all_eq_true.mp T.ba u hu)) (fun _ => rfl) (fun v u G hu eg hv => ?_) (fun v u G hu _ eg hv => ed_ev (ev_var rfl) hv))) H1 (Ex.refl H1) _ fun v H2 e2 a2 => ?_
  · obtain ⟨pb, c, z, q, rfl, hpb, hc, hq⟩ := blk_at hv (List.all_eq_true.mp T.ba u hu)
    refine et_test (ev_op (ev_ixT (K := K) (j := 0) (ev_var rfl) hpb rfl) (ev_var rfl) fun G1 g1 Q qq => ⟨p, c, ys, ledL hs, q, rfl, sq_of ((eg.trans g1) _ _ hy), p2.ex (eg.trans g1), rfl, g1 _ _ hc, ?_⟩)
    have : inLed hs u = decide (q ∈ ledPs hs) := by
      unfold inLed
      rw [hq]
    rw [this] at qq
    show Q (.bl (decide (q ∈ ledL hs))) G1
    rw [led_in]
    exact qq G1 (Ex.refl G1)
  rw [List.map_id'] at a2
  have e12 := e1.trans e2
  obtain ⟨l1, l2, l3⟩ := led_ok (hs := hs) (bs := bs) T.ba
  have wb : wtL bs + 3 ≤ 160000 := by
    have : wt (nth u 5) ≤ 160000 := sm.nth 5
    rw [T.b] at this
    simpa only [wt] using this
  have wh : wtL hs + 3 ≤ 160000 := by
    have : wt (nth u 4) ≤ 160000 := sm.nth 4
    rw [T.h] at this
    simpa only [wt] using this
  show tSeq _ _ _ [some x, some (V.ref N), some (V.ref p), some v, none, none, none, none, none] H2
  have hx2 := ex_at e12 hx
  have hw2 : ∃ o, H2 w = some o := hw.imp fun o q => e12 _ _ q
  have eL : ledU u = .tup (bs.filter (inLed hs)) := by
    unfold ledU
    rw [T.hs, T.bs]
  have alike1 : Ev (tCall (spAl K C 8) [] E0 (tCons (tCall (fun vs H Q _ => spLBl C CT vs H Q E0) [] E0 (tCons (tVar 0) tNil)) (tCons (tVar 3) tNil))) [some x, some (V.ref N), some (V.ref p), some v, none, none, none, none, none] H2 (.bl true) := fun G eg Q qq => by
    refine call1X ?_
    refine cons1 ?_
    refine call1 (ea_cons (ev_var rfl) ea_nil) fun G1 g1 => ⟨x, u, w, rfl, ex_at (eg.trans g1) hx2, fi, sm, hw2.imp fun o q => (eg.trans g1) _ _ q, fun _ y G2 g2 ay => ?_, fun q => by rw [gt] at q; cases q⟩
    rw [eL] at ay
    exact ⟨_, rfl, y, v, _, w, rfl, lk_at l1 ay, ex_at ((eg.trans g1).trans g2) a2, by omega, l1, l2, fun G3 g3 => qq G3 ((g1.trans g2).trans g3)⟩
  refine q_when (b := !true) (et_not (et_B alike1)) (fun q => by cases q) (fun _ H3 e3 => ?_)
  have e13 := e12.trans e3
  have e23 := e2.trans e3
  obtain ⟨y5', e5', a5'⟩ := ev_nth (K := K) (σ := [some x, some (V.ref N), some (V.ref p), some v, none, none, none, none, none]) (te := tVar 0) (k := 5) (ev_var rfl) (ex_at e13 hx) T.t (by decide)
  rw [T.b] at a5'
  obtain ⟨b, xs', rfl, htb, nb, hl'⟩ := at_tup a5'
  have ft : bs.filter (fun _ => true) = bs := List.filter_eq_self.mpr fun _ _ => rfl
  refine q_asgLD (w := w) (C := C) (us := (bs.filter fun _ => true).map fun u => nth u 0) (lc_D (j := 7) (vs := [7]) (g := fun _ => true) (f := fun u => nth u 0) e5' htb hl' bz (fun u hu => gId_pln (gBlk_id (List.all_eq_true.mp T.ba u hu))) (fun _ => rfl) (fun v u G hu eg hv => et_yes) (fun v1 u G hu _ eg hv => ?_)) fun r ts H4 hr4 e4 h4 al4 => ?_
  · have gb := List.all_eq_true.mp T.ba u hu
    obtain ⟨q1, q2⟩ := and2 (a := gPair u) (b := gId (nth u 0) && gPiece (nth u 1)) gb
    obtain ⟨y0, f0, g0⟩ := ev_nth (K := K) (m := 2) (σ := [some x, some (V.ref N), some (V.ref p), some v, none, none, none, some v1, none]) (te := tVar 7) (k := 0) (ev_var rfl) hv q1 (by decide)
    exact ed_ev f0 g0
  rw [ft] at al4
  have p24 := row_p2 al4 (lc_pl T.ba)
  have e14 := e13.trans e4
  refine asg1 ?_
  refine call1 (ea_cons (ev_var rfl) ea_nil) fun H5 e5 => ⟨x, u, w, rfl, ex_at (e14.trans e5) hx, fi, sm, hw.imp fun o q => (e14.trans e5) _ _ q, fun _ H6 e6 => ?_, fun q => by rw [gt] at q; cases q⟩
  have e46 := e5.trans e6
  have e16 := e14.trans e46
  have led6 : Ev (tVar 2) [some x, some (V.ref N), some (V.ref p), some v, some (V.ref r), some (.bl (closedU u)), none, none, none] H6 (.ref p) := ev_var rfl
  refine q_when (b := false) (et_is (et_or (et_not (et_B (ev_isi (C := C) (w := w) (u := .bl (closedU u)) (ev_var rfl) (.bl _)))) fun _ => et_test (ev_op (ev_var rfl) (ev_allIn (K := K) (j := 8) (there := 4) (vs := [8]) led6 ((e23.trans (e4.trans e46)) _ _ hy) (p2.ex (e23.trans (e4.trans e46))) (e46 _ _ h4) (p24.ex e46) (by have := ledL_len T.ha; omega) (fun _ => rfl) (fun _ => rfl) (fun _ => rfl)) (rv_ne rfl))) (by rw [closed_all T, decide_eq_true rfl]; rfl)) (fun z => by cases z) (fun _ H7 e7 => ?_)
  have e17 := e16.trans e7
  refine ⟨_, rfl, N, rfl, ⟨zs.map V.str, sq_of (e17 _ _ hN)⟩, ?_⟩
  refine for_it (walk_list (K := K) (a := N) (xs := zs.map V.str)) (fun i σ' H' => ∃ x6 : Option V, σ' = [some x, some (V.ref N), some (V.ref p), some v, some (V.ref r), some (.bl (closedU u)), x6, none, none] ∧ Ex H H') ⟨none, rfl, e17⟩ (fun i σ' H' _ ⟨_, _, e⟩ => sq_of (e _ _ hN)) ?_ ?_
  · rintro i y σ' H0' H8 hi ⟨x6, rfl, e8⟩ ⟨rfl, hv⟩
    rw [List.getElem?_map] at hv
    obtain ⟨z, hz0, rfl⟩ : ∃ z, zs[i]? = some z ∧ y = .str z := by
      cases c : zs[i]? with
      | none => rw [c] at hv; cases hv
      | some z => rw [c] at hv; exact ⟨z, rfl, (Option.some.inj hv).symm⟩
    obtain ⟨gz, fz⟩ := hzs z (List.mem_of_getElem? hz0)
    obtain ⟨d1, d2⟩ := due_ok (hs := hs) (z := z) T.ha
    have alike2 : Ev (tCall (spAl K C 8) [] E0 (tCons (tCall (fun vs H Q _ => spHO K C CT CN vs H Q E0) [] E0 (tCons (tVar 0) (tCons (tVar 6) tNil))) (tCons (tCall (spHD C) [] E0 (tCons (tVar 0) (tCons (tVar 6) tNil))) tNil))) [some x, some (V.ref N), some (V.ref p), some v, some (V.ref r), some (.bl (closedU u)), some (.str z), none, none] H8 (.bl true) := fun G eg Q qq => by
      refine call1X ?_
      refine cons1 ?_
      have E1 := e8.trans eg
      refine call1 (ea_cons (ev_var rfl) (ea_cons (ev_var rfl) ea_nil)) fun G1 g1 => ⟨x, .str z, u, .str z, w, w, rfl, ex_at (E1.trans g1) hx, fi, sm, hw.imp fun o q => (E1.trans g1) _ _ q, .str z, fz, fun _ z' ez _ v1 G2 g2 lk => ?_, (fun _ q => by rw [gz] at q; cases q), fun q => by rw [gt] at q; cases q⟩
      cases ez
      rw [T.hs] at lk
      refine cons1 ?_
      have E2 := (E1.trans g1).trans g2
      refine call1 (ea_cons (ev_var rfl) (ea_cons (ev_var rfl) ea_nil)) fun G3 g3 => ⟨x, u, hs, w, z, rfl, ex_at (E2.trans g3) hx, T.t, T.h, T.ha, by omega, hw.imp fun o q => (E2.trans g3) _ _ q, fun v2 G4 g4 a4 => ?_⟩
      exact ⟨v1, v2, dueH hs z, w, rfl, lk.ex (g3.trans g4), a4, by omega, due_pln T.ha, d1, fun G5 g5 => qq G5 ((g1.trans g2).trans ((g3.trans g4).trans g5))⟩
    refine s_if (b := !true) (et_not (et_B alike2)) (fun q => by cases q) fun _ H9 e9 => ⟨_, rfl, e8.trans e9⟩
  · rintro σ' H8 ⟨x6, rfl, e8⟩
    exact k H8 e8
end
end Hs
/-! what is no table is refused -/
namespace Hs
open PySem PySem.Spec PyProof.Rows L2 Hu Evl
open Hk (SI ltSI nearOk)
abbrev lRefd : Stmt := topS 137
abbrev lHeadRefd : Stmt := topS 138
abbrev lBehindRefd : Stmt := topS 139
abbrev lAllRefd : Stmt := topS 140
/-- a def that a name holds, and that may raise -/
def tCallLS (i : Nat) (f : Addr) (sp : Sp) (E : L2.St → XK) (t : TA) : TE := fun σ H Q => σ[i]? = some (some (V.ref f)) ∧ t σ H fun vs H1 => sp vs H1 Q (E σ)
theorem pe_callLS {X : Cx} {CX : CXT} {k i : Nat} {f : Addr} {fd : FuncData} {ps : List Str} {sp : Sp} {E : L2.St → XK} {y : Str} {p pos : Pos} {e : Expr} {es : List Expr} {t : TA} (G : FnOk X.prog X.w X.K X.mg X.base CX k f fd ps sp) (hr : Room k X.A) (hy : X.N[i]? = some y) (vis : Vis X.env.scope y) (kp : PySem.W.keepIn X.K (.ref f) = true) (bd : Binds X.K fd ps []) (ex : ∀ σ, PassesAt CX X σ (E σ)) (ar : PA X (e :: es) t)
    (h1 : (y == ("__debug__" : Str)) = false := by decide) (h2 : (y == ("__classdict__" : Str)) = false := by decide) (h3 : starEach (e :: es) X.env = (false, eval e X.env) :: starEach es X.env := by rfl) (h4 : (backTo pos (starEach es X.env)).any (·.1) = false := by rfl) : PE X (.Call (.Name y p) (e :: es) [] pos) (tCallLS i f sp E t) := by
  constructor
  intro pins s σ H Q I hw
  obtain ⟨at0, hw⟩ := hw
  refine wpAny_Call_Name_kw (thn ((pe_var (pos := p) hy vis h1 h2).run pins s σ H (fun v H1 => v = .ref f ∧ H1 = H) I ⟨.ref f, at0, rfl, rfl⟩) fun u s1 got => ?_)
  obtain ⟨v, H1, I1, r1, rfl, rfl⟩ := got
  cases r1
  refine PySem.W.callWith_K (h₀ := X.base) I.ok.mod.kin kp (thn (ar.run pos pins s1 σ _ _ I1 hw) fun us s2 got => ?_) h3 h4
  obtain ⟨vs, H2, I2, r, q⟩ := got
  exact ⟨I2.kIn, run_fnS G hr bd (ex σ) I2 r q⟩
section
variable {P : Program} {wd : World} {K : PySem.W.Frag} {mg : Str → Option Value} {base : Heap} {C : Addr}
/-- raises NoTable of what is no table -/
def NoTab (C CT : Addr) (sp : Sp) : Prop := ∀ {v : V} {u : U} {w : Addr} {H : Hp} {Q : VK} {E : XK}, At w C H v u → Fine u → Sm u → (∃ o, H w = some o) → gTable u = false → (∀ H', Same H H' → E (.ref CT) none H') → sp [v] H Q E
theorem noTab_led {CT : Addr} : NoTab C CT (spLBl C CT) := fun hat fi sm hw g k => ⟨_, _, _, rfl, hat, fi, sm, hw, (fun q => by rw [g] at q; cases q), fun _ => k⟩
theorem noTab_cl {CT : Addr} : NoTab C CT (spCl C CT) := fun hat fi sm hw g k => ⟨_, _, _, rfl, hat, fi, sm, hw, (fun q => by rw [g] at q; cases q), fun _ => k⟩
def spRf (C fA : Addr) : Sp := fun vs H Q _ => ∃ (v : V) (u : U) (w : Addr), vs = [.ref fA, v] ∧ At w C H v u ∧ Fine u ∧ Sm u ∧ (∃ o, H w = some o) ∧ gTable u = false ∧ ∀ H', Same H H' → Q (.bl true) H'
theorem scRfd : FnScope ["ask", "thing", "told"] ["ask", "thing"] (defScope lRefd) := ⟨rfl, rfl, rfl, by decide +kernel, rfl, by decide +kernel, by decide +kernel⟩
theorem ok_refd {f fA CT CH : Addr} {fd dA : FuncData} {sp : Sp} {xA : Str} {stA : Stmt} (F : Fun K "_law_refused" "_law_refused" lRefd f fd) (DA : Df K mg xA stA ["table"] fA dA) (GA : FnOk P wd K mg base (L2.CX P wd) 9 fA dA ["table"] sp) (nt : NoTab C CT sp) (EC : Ec K mg "NoTable" CT) (gH : mg "HomeError" = some (.ref CH)) :
    FnOk P wd K mg base CX0 10 f fd ["ask", "thing"] (spRf C fA) := by
  refine F.ok scRfd (fun vs H Q E h => ?_) (fun cdv A outer s H vs Q E hr h => ?_)
  · obtain ⟨v, u, w, rfl, _⟩ := h
    rfl
  obtain ⟨v, u, w, rfl, hat, fi, sm, hw, g, k⟩ := h
  refine ⟨_, pss_cons (ps_set (i := 2) scRfd.nd rfl (.inl rfl) pe_bl)
      (pss_cons (ps_try_many (tb := fun W => tDrop (tCallLS 0 fA sp (WE W) (tCons (tVar 1) tNil))) (l := [(.ref CT, fun _ _ _ => tAsg (tC (.bl true)) (gName 2)), (.ref CH, fun _ _ _ => tAsg (tC (.bl false)) (gName 2))]) (Wout := fun _ _ _ _ => False) rfl rfl takes0
        (fun W pn xe tk _ => pss_one (ps_expr (pe_callLS (i := 0) GA hr rfl (.inl rfl) DA.F.kp DA.b (fun σ => passAt tk σ) (pa_cons (pv 1) pa_nil))))
        (.cons ⟨rfl, by decide, .inl EC.g⟩ (fun a oe cls d pn _ _ => pss_one (ps_set (i := 2) scRfd.nd rfl (.inl rfl) pe_bl)) (.cons ⟨rfl, by decide, .inl gH⟩ (fun a oe cls d pn _ _ => pss_one (ps_set (i := 2) scRfd.nd rfl (.inl rfl) pe_bl)) .nil)))
      (pss_one (ps_ret (pv 2)))), ?_⟩
  refine ⟨rfl, _, rfl, nt hat fi sm hw g fun H' sm' => ?_⟩
  refine ⟨true, EC.e, fun _ a ha => ?_, fun q => Bool.noConfusion q⟩
  exact ⟨_, rfl, k H' sm'⟩
/-- head_of: no table; no name -/
def spHR (K : PySem.W.Frag) (C : Addr) : Sp := fun vs H Q _ => ∃ (x y : V) (u n : U) (w w2 : Addr), vs = [x, y] ∧ At w C H x u ∧ Fine u ∧ Sm u ∧ (∃ o, H w = some o) ∧ At w2 C H y n ∧ Fine n ∧ ∀ H', Same H H' → Q (.str (if gTable u = true then (if gNam n = true then "let" else "no name") else "no table")) H'
theorem scHRd : FnScope ["thing", "name", "told"] ["thing", "name"] (defScope lHeadRefd) := ⟨rfl, rfl, rfl, by decide +kernel, rfl, by decide +kernel, by decide +kernel⟩
theorem ok_headRefd {f fO CT CN CH : Addr} {fd dO : FuncData} (F : Fun K "_law_head_refused" "_law_head_refused" lHeadRefd f fd) (DO : Df K mg "head_of" sHeadOf ["table", "name"] fO dO) (GO : FnOk P wd K mg base (L2.CX P wd) 9 fO dO ["table", "name"] (spHO K C CT CN)) (EC : Ec K mg "NoTable" CT) (EN : Ec K mg "NoName" CN) (ne : PySem.W.exmOne K (.ref CN) (.ref CT) = some false) (gH : mg "HomeError" = some (.ref CH)) :
    FnOk P wd K mg base CX0 10 f fd ["thing", "name"] (spHR K C) := by
  refine F.ok scHRd (fun vs H Q E h => ?_) (fun cdv A outer s H vs Q E hr h => ?_)
  · obtain ⟨x, y, u, n, w, w2, rfl, _⟩ := h
    rfl
  obtain ⟨x, y, u, n, w, w2, rfl, hx, fi, sm, hw, hy, fn, k⟩ := h
  refine ⟨_, pss_cons (ps_set (i := 2) scHRd.nd rfl (.inl rfl) pe_str)
      (pss_cons (ps_try_many (tb := fun W => tDrop (tCallS (spHO K C CT CN) (WE W) (tCons (tVar 0) (tCons (tVar 1) tNil)))) (l := [(.ref CT, fun _ _ _ => tAsg (tC (.str "no table")) (gName 2)), (.ref CN, fun _ _ _ => tAsg (tC (.str "no name")) (gName 2)), (.ref CH, fun _ _ _ => tAsg (tC (.str "other")) (gName 2))]) (Wout := fun _ _ _ _ => False) rfl rfl takes0
        (fun W pn xe tk _ => pss_one (ps_expr (pe_callS GO hr rfl DO.g DO.F.kp DO.b (fun σ => passAt tk σ) (pa_cons (pv 0) (pa_cons (pv 1) pa_nil)))))
        (.cons ⟨rfl, by decide, .inl EC.g⟩ (fun a oe cls d pn _ _ => pss_one (ps_set (i := 2) scHRd.nd rfl (.inl rfl) pe_str)) (.cons ⟨rfl, by decide, .inl EN.g⟩ (fun a oe cls d pn _ _ => pss_one (ps_set (i := 2) scHRd.nd rfl (.inl rfl) pe_str)) (.cons ⟨rfl, by decide, .inl gH⟩ (fun a oe cls d pn _ _ => pss_one (ps_set (i := 2) scHRd.nd rfl (.inl rfl) pe_str)) .nil))))
      (pss_one (ps_ret (pv 2)))), ?_⟩
  refine ⟨_, rfl, _, rfl, x, y, u, n, w, w2, rfl, hx, fi, sm, hw, hy, fn, fun q z ez q2 v H' sm' _ => ?_, fun q q2 H' sm' => ?_, fun q H' sm' => ?_⟩
  · have := k H' sm'
    rw [if_pos q, if_pos q2] at this
    exact ⟨_, rfl, this⟩
  · have := k H' sm'
    rw [if_pos q, if_neg (by rw [q2]; decide)] at this
    exact ⟨false, ne, fun q => Bool.noConfusion q, fun _ => ⟨true, EN.e, fun _ a ha => ⟨_, rfl, this⟩, fun q => Bool.noConfusion q⟩⟩
  · have := k H' sm'
    rw [if_neg (by rw [q]; decide)] at this
    exact ⟨true, EC.e, fun _ a ha => ⟨_, rfl, this⟩, fun q => Bool.noConfusion q⟩
/-- behind: no table -/
def spBe (C CT : Addr) : Sp := fun vs H Q E => ∃ (x y : V) (u : U) (w : Addr), vs = [x, y] ∧ At w C H x u ∧ Fine u ∧ Sm u ∧ (∃ o, H w = some o) ∧ gTable u = false ∧ ∀ H', Same H H' → E (.ref CT) none H'
abbrev sBehind4 : Stmt := topS 82
theorem scBe : FnScope ["table", "deed"] ["table", "deed"] (defScope sBehind4) := ⟨rfl, rfl, rfl, by decide +kernel, rfl, by decide +kernel, by decide +kernel⟩
theorem ok_behindT {f f1 CT : Addr} {fd d1 : FuncData} (D : Df K mg "behind" sBehind4 ["table", "deed"] f fd) (JT : Jw P wd K mg base C 8 "is_table" "thing" f1 d1 Sm gTable) (EC : Ec K mg "NoTable" CT) : FnOk P wd K mg base (L2.CX P wd) 9 f fd ["table", "deed"] (spBe C CT) := by
  refine D.F.okX scBe (fun vs H Q E h => ?_) (fun cdv A outer s H vs Q E hr h => ?_)
  · obtain ⟨x, y, u, w, rfl, _⟩ := h
    rfl
  obtain ⟨x, y, u, w, rfl, hx, fi, sm, hw, g, k⟩ := h
  refine ⟨_, pss_cons (ps_if (pt_not (pt_val (pe_Jw JT hr (by decide) (by rfl) pass0 (pv 0)))) (pss_one (ps_raise rfl (takes_of rfl rfl rfl rfl) (pmk_own0 PySem.F.excBase_ValueError EC.x EC.g EC.k (raises_own EC.b EC.t) rfl))) pss_nil) pss_dead, ?_⟩
  exact q_when (b := true) (et_is (et_not (et_B (ev_Jw (ev_var rfl) hx fi sm hw))) (by rw [g]; rfl)) (fun q H1 e => k H1 e) (fun q H1 e => by cases q)
def spBR (C : Addr) : Sp := fun vs H Q _ => ∃ (x y : V) (u : U) (w : Addr), vs = [x, y] ∧ At w C H x u ∧ Fine u ∧ Sm u ∧ (∃ o, H w = some o) ∧ gTable u = false ∧ ∀ H', Same H H' → Q (.bl true) H'
theorem scBRd : FnScope ["thing", "deed", "told"] ["thing", "deed"] (defScope lBehindRefd) := ⟨rfl, rfl, rfl, by decide +kernel, rfl, by decide +kernel, by decide +kernel⟩
theorem ok_behindRefd {f fO CT CH : Addr} {fd dO : FuncData} (F : Fun K "_law_behind_refused" "_law_behind_refused" lBehindRefd f fd) (DO : Df K mg "behind" sBehind4 ["table", "deed"] fO dO) (GO : FnOk P wd K mg base (L2.CX P wd) 9 fO dO ["table", "deed"] (spBe C CT)) (EC : Ec K mg "NoTable" CT) (gH : mg "HomeError" = some (.ref CH)) :
    FnOk P wd K mg base CX0 10 f fd ["thing", "deed"] (spBR C) := by
  refine F.ok scBRd (fun vs H Q E h => ?_) (fun cdv A outer s H vs Q E hr h => ?_)
  · obtain ⟨x, y, u, w, rfl, _⟩ := h
    rfl
  obtain ⟨x, y, u, w, rfl, hx, fi, sm, hw, g, k⟩ := h
  refine ⟨_, pss_cons (ps_set (i := 2) scBRd.nd rfl (.inl rfl) pe_bl)
      (pss_cons (ps_try_many (tb := fun W => tDrop (tCallS (spBe C CT) (WE W) (tCons (tVar 0) (tCons (tVar 1) tNil)))) (l := [(.ref CT, fun _ _ _ => tAsg (tC (.bl true)) (gName 2)), (.ref CH, fun _ _ _ => tAsg (tC (.bl false)) (gName 2))]) (Wout := fun _ _ _ _ => False) rfl rfl takes0
        (fun W pn xe tk _ => pss_one (ps_expr (pe_callS GO hr rfl DO.g DO.F.kp DO.b (fun σ => passAt tk σ) (pa_cons (pv 0) (pa_cons (pv 1) pa_nil)))))
        (.cons ⟨rfl, by decide, .inl EC.g⟩ (fun a oe cls d pn _ _ => pss_one (ps_set (i := 2) scBRd.nd rfl (.inl rfl) pe_bl)) (.cons ⟨rfl, by decide, .inl gH⟩ (fun a oe cls d pn _ _ => pss_one (ps_set (i := 2) scBRd.nd rfl (.inl rfl) pe_bl)) .nil)))
      (pss_one (ps_ret (pv 2)))), ?_⟩
  refine ⟨_, rfl, _, rfl, x, y, u, w, rfl, hx, fi, sm, hw, g, fun H' sm' => ?_⟩
  exact ⟨true, EC.e, fun _ a ha => ⟨_, rfl, k H' sm'⟩, fun q => Bool.noConfusion q⟩
end
end Hs
/-! _law_all_refused -/
namespace Hs
open PySem PySem.Spec PyProof.Rows L2 Hu Evl
open Hk (SI ltSI nearOk)
section
variable {P : Program} {wd : World} {K : PySem.W.Frag} {mg : Str → Option Value} {base : Heap} {C : Addr}
theorem jw_sm {k : Nat} {x p : Str} {f : Addr} {fd : FuncData} {g : U → Bool} (J : Jw P wd K mg base C k x p f fd OkT g) : Jw P wd K mg base C k x p f fd Sm g :=
  ⟨J.ok.imp fun vs H Q E ⟨v, u, w, h1, h2, h3, h4, h5⟩ => ⟨v, u, w, h1, h2, h3, ⟨h4⟩, h5⟩, J.g, J.kp, J.b⟩
def spAR (C : Addr) : Sp := fun vs H Q _ => ∃ (x y o : V) (u n uo : U) (w w2 w3 : Addr), vs = [x, y, o] ∧ At w C H x u ∧ Fine u ∧ Sm u ∧ (∃ q, H w = some q) ∧ gTable u = false ∧ At w2 C H y n ∧ Fine n ∧ At w3 C H o uo ∧ Fine uo ∧ ∀ H', Same H H' → Q (.bl true) H'
theorem scAR : FnScope ["thing", "name", "odd"] ["thing", "name", "odd"] (defScope lAllRefd) := ⟨rfl, rfl, rfl, by decide +kernel, rfl, by decide +kernel, by decide +kernel⟩
theorem ok_allRefd {f fR fC fL fB fH : Addr} {fd dR dC dL dB dH : FuncData} (F : Fun K "_law_all_refused" "_law_all_refused" lAllRefd f fd) (DC : Df K mg "is_closed" sClosed ["table"] fC dC) (DL : Df K mg "led_blocks" sLedBlocks ["table"] fL dL)
    (DR : Df K mg "_law_refused" lRefd ["ask", "thing"] fR dR) (GRC : FnOk P wd K mg base CX0 10 fR dR ["ask", "thing"] (spRf C fC)) (GRL : FnOk P wd K mg base CX0 10 fR dR ["ask", "thing"] (spRf C fL)) (DB : Df K mg "_law_behind_refused" lBehindRefd ["thing", "deed"] fB dB) (GB : FnOk P wd K mg base CX0 10 fB dB ["thing", "deed"] (spBR C))
    (DH : Df K mg "_law_head_refused" lHeadRefd ["thing", "name"] fH dH) (GH : FnOk P wd K mg base CX0 10 fH dH ["thing", "name"] (spHR K C)) : FnOk P wd K mg base CX0 11 f fd ["thing", "name", "odd"] (spAR C) := by
  refine F.ok scAR (fun vs H Q E h => ?_) (fun cdv A outer s H vs Q E hr h => ?_)
  · obtain ⟨x, y, o, u, n, uo, w, w2, w3, rfl, _⟩ := h
    rfl
  obtain ⟨x, y, o, u, n, uo, w, w2, w3, rfl, hx, fi, sm, hw, g, hy, fn, ho, fo, k⟩ := h
  refine ⟨_, pss_cons (ps_if (PW.pt (pw_or (pt_not (pt_val (pe_call GRC hr (by rfl) DR.g DR.F.kp DR.b .nil pass0 (pa_cons (pe_glob (v := .ref fC) (by rfl) DC.g rfl) (pa_cons (pv 0) pa_nil))))) (pw_or1 (pt_not (pt_val (pe_call GRL hr (by rfl) DR.g DR.F.kp DR.b .nil pass0 (pa_cons (pe_glob (v := .ref fL) (by rfl) DL.g rfl) (pa_cons (pv 0) pa_nil)))))))) (pss_one (ps_ret pe_bl)) pss_nil)
    (pss_cons (ps_if (PW.pt (pw_or (pt_not (pt_val (pe_call GB hr (by rfl) DB.g DB.F.kp DB.b .nil pass0 (pa_cons (pv 0) (pa_cons (pe_tupF (pa_cons pe_str pa_nil)) pa_nil))))) (pw_or1 (pt_not (pt_val (pe_call GB hr (by rfl) DB.g DB.F.kp DB.b .nil pass0 (pa_cons (pv 0) (pa_cons (pv 2) pa_nil)))))))) (pss_one (ps_ret pe_bl)) pss_nil)
    (pss_one (ps_ret (pe_and (pe_cmpR op_eq (pe_call GH hr (by rfl) DH.g DH.F.kp DH.b .nil pass0 (pa_cons (pv 0) (pa_cons (pv 1) pa_nil))) pe_str (nomark _)) (pe_one (pe_cmpR op_eq (pe_call GH hr (by rfl) DH.g DH.F.kp DH.b .nil pass0 (pa_cons (pv 0) (pa_cons (pv 2) pa_nil))) pe_str (nomark _))))))), ?_⟩
  have hd : ∀ {G : Hp} {q : V} {m : U} {z : Addr} {te : TE}, Ex H G → At z C G q m → Fine m → Ev te [some x, some y, some o] G q → Ev (tCall (spHR K C) [] E0 (tCons (tVar 0) (tCons te tNil))) [some x, some y, some o] G (.str "no table") := fun {G q m z te} e hq fq hv => ev_call (ea_cons (ev_var rfl) (ea_cons hv ea_nil)) fun G1 g1 Q qq E => ⟨x, q, u, m, w, z, rfl, ex_at (e.trans g1) hx, fi, sm, hw.imp fun o z => (e.trans g1) _ _ z, ex_at g1 hq, fq, by rw [if_neg (by rw [g]; decide)]; exact qq⟩
  refine q_when (b := !true || !true) (et_or (et_not (et_B (ev_call (ea_cons ev_c (ea_cons (ev_var rfl) ea_nil)) fun G1 g1 Q qq E => ⟨x, u, w, rfl, ex_at g1 hx, fi, sm, hw.imp fun o z => g1 _ _ z, g, qq⟩))) fun _ => et_not (et_B (ev_call (ea_cons ev_c (ea_cons (ev_var rfl) ea_nil)) fun G1 g1 Q qq E => ⟨x, u, w, rfl, ex_at g1 hx, fi, sm, hw.imp fun o z => g1 _ _ z, g, qq⟩))) (fun q => by cases q) (fun _ H1 e1 => ?_)
  have tick : Ev (tCall (spBR C) [] E0 (tCons (tVar 0) (tCons (tTupF (tCons (tC (.str "tick")) tNil)) tNil))) [some x, some y, some o] H1 (.bl true) := fun G eg Q qq => by
    refine call1X ?_
    refine cons1 ?_
    refine ⟨_, rfl, ?_⟩
    refine cons1 ?_
    refine (ed_tup (C := C) (w := w) (hw.imp fun o z => (e1.trans eg) _ _ z) (eds_cons (ed_ev (te := tC (.str "tick")) ev_c (.str _)) eds_nil) (by decide)) G (Ex.refl G) _ fun q G1 g1 _ => ?_
    have E1 := (e1.trans eg).trans g1
    exact ⟨x, q, u, w, rfl, ex_at E1 hx, fi, sm, hw.imp fun o z => E1 _ _ z, g, fun G2 g2 => qq G2 (g1.trans g2)⟩
  refine q_when (b := !true || !true) (et_or (et_not (et_B tick)) fun _ => et_not (et_B (ev_call (ea_cons (ev_var rfl) (ea_cons (ev_var rfl) ea_nil)) fun G1 g1 Q qq E => ⟨x, o, u, w, rfl, ex_at (e1.trans g1) hx, fi, sm, hw.imp fun o z => (e1.trans g1) _ _ z, g, qq⟩))) (fun q => by cases q) (fun _ H2 e2 => ?_)
  have e12 := e1.trans e2
  exact s_ret (v := .bl (true && true)) (ev_andV (ev_is (ev_op (hd e12 (ex_at e12 hy) fn (ev_var rfl)) ev_c (rv_eq rfl)) (congrArg V.bl (decide_eq_true rfl))) fun _ => ev_is (ev_op (hd e12 (ex_at e12 ho) fo (ev_var rfl)) ev_c (rv_eq rfl)) (congrArg V.bl (decide_eq_true rfl))) fun H3 e3 => k H3 (e12.trans e3)
end
end Hs
/-! what is Hu.shown is short -/
namespace Hs
open PySem PySem.Spec PyProof.Rows L2 Hu Evl
mutual
theorem tidy_small {b : Nat} (hb : b ≤ 100) : ∀ u : U, tidy b u → smallU u
  | .non, _ => by simp only [smallU]
  | .bl _, _ => by simp only [smallU]
  | .int i, h => by
    simp only [tidy] at h
    simp only [smallU]
    exact Nat.lt_of_lt_of_le (PySem.Flt.log2_lt_of (k := 66) (by decide) (by omega)) (by decide)
  | .str z, _ => by simp only [smallU]
  | .tup us, h => by simp only [smallU]; exact tidyL_small hb us (by simpa only [tidy] using h)
  | .lst us, h => by simp only [smallU]; exact tidyL_small hb us (by simpa only [tidy] using h)
  | .dct us, h => by simp only [smallU]; exact tidyL_small hb us (by simpa only [tidy] using h)
  | .exc, _ => by simp only [smallU]
theorem tidyL_small {b : Nat} (hb : b ≤ 100) : ∀ us : List U, tidyL b us → smallL us
  | [], _ => by simp only [smallL]
  | u :: us, h => by simp only [smallL]; exact ⟨tidy_small hb u h.1, tidyL_small hb us h.2⟩
end
def nmT : Str := "NoTable"
theorem line_lt {z : Str} (h : lined z) : ∀ c ∈ z.cps.toList, c < 16 ^ 8 := fun c hc => Nat.lt_trans (lined_lt h c hc) (by decide)
mutual
theorem shown_wt {b : Nat} (hb : b ≤ 100) : ∀ u : U, tidy b u → (Hu.shown nmT u).length ≤ 10 * wt u
  | .non, _ => by simp only [Hu.shown, wt]; decide +kernel
  | .bl x, _ => by cases x <;> simp only [Hu.shown, wt] <;> decide +kernel
  | .int i, h => by
    simp only [tidy] at h
    simp only [Hu.shown, wt]
    have := int_text_length_le (a := i) (k := 66) (by decide) (PySem.Flt.log2_lt_of (k := 66) (by decide) (by omega))
    rw [PySem.ofString_length]
    omega
  | .str z, h => by
    have hz : lined z := by simp only [tidy] at h; exact h
    have := StrLaws.reprText_len z (line_lt hz)
    simp only [Hu.shown, wt]
    omega
  | .tup us, h => by
    have := tupleText_len_le (shownL nmT us)
    have := shownL_wt hb us (by simpa only [tidy] using h)
    simp only [Hu.shown, wt]
    omega
  | .lst us, h => by
    have := listText_len_le (shownL nmT us)
    have := shownL_wt hb us (by simpa only [tidy] using h)
    simp only [Hu.shown, wt]
    omega
  | .dct us, h => by
    have h1 := listText_len_le (shownL nmT us)
    have h2 := shownL_wt hb us (by simpa only [tidy] using h)
    have h3 := dictText_len_le [reprText "a" ++ ": " ++ listText (shownL nmT us), (toString (1 : Int) : Str) ++ ": " ++ "None"]
    simp only [Hu.shown, wt]
    simp only [List.map_cons, List.map_nil, List.sum_cons, List.sum_nil, List.length_cons, List.length_nil] at h3
    have e1 : (reprText "a" ++ ": " ++ listText (shownL nmT us)).length = 5 + (listText (shownL nmT us)).length := by
      rw [len_add, show (reprText "a" ++ ": ").length = 5 by decide +kernel]
    have e2 : ((toString (1 : Int) : Str) ++ ": " ++ "None").length = 7 := by decide +kernel
    rw [e1, e2] at h3
    omega
  | .exc, _ => by simp only [Hu.shown, wt]; decide +kernel
theorem shownL_wt {b : Nat} (hb : b ≤ 100) : ∀ us : List U, tidyL b us → ((shownL nmT us).map (·.length)).sum + 2 * (shownL nmT us).length ≤ 10 * wtL us
  | [], _ => by simp [shownL]
  | u :: us, h => by
    have h1 := shown_wt hb u h.1
    have h2 := shownL_wt hb us h.2
    simp only [shownL, wtL, List.map_cons, List.sum_cons, List.length_cons]
    omega
end
section
variable {σ : L2.St} {H : Hp} {tp : TE} {tu tz : TS} {D : Ends}
end
end Hs
/-! the law -/
namespace Hs
open PySem PySem.Spec PyProof.Rows L2 Hu Evl
open Hk (SI ltSI nearOk)
theorem boot_repr' : bootBuiltins "repr" = some (.builtin "repr") := by decide +kernel
abbrev rRep (C : Addr) : List V → Hp → VK → Prop := fun xs H Q => ∃ (v : V) (u : U) (w : Addr), xs = [v] ∧ At w C H v u ∧ smallU u ∧ dep u ≤ 60 ∧ (Hu.shown nmT u).length ≤ sizeLine ∧ Q (.str (Hu.shown nmT u)) H
section
variable {σ : L2.St} {H : Hp} {te : TE} {v : V} {u : U} {w C : Addr} {t : TT} {tu tw tz : TS} {D : Ends}
theorem ev_repr (h : Ev te σ H v) (hat : At w C H v u) (bd : Bd u 100000 20 2) : Ev (tCB (rRep C) (tCons te tNil)) σ H (.str (Hu.shown nmT u)) :=
  ev_cb (ea_cons h ea_nil) fun H1 e Q q => ⟨v, u, w, rfl, ex_at e hat, tidy_small (by decide) _ bd.c, by have := bd.d; omega, len_fine (by have := shown_wt (b := 2) (by decide) u bd.c; have := bd.w; omega), q H1 (Ex.refl H1)⟩
theorem s_next (h : D.nx σ H) : tNext D σ H := h
end
abbrev nmL : List Str := ["script", "well", "turn", "names", "ids", "table", "thing", "odd", "more", "before", "right", "told"]
section
variable {P : Program} {wd : World} {K : PySem.W.Frag} {mg : Str → Option Value} {base : Heap} {C : Addr} {fD : Addr} {dD : FuncData}
theorem scLaw : FnScope nmL ["script"] (defScope lLaw) := ⟨rfl, rfl, rfl, by decide +kernel, rfl, by decide +kernel, by decide +kernel⟩
theorem law_core {fW fT fJ fL fS fP fN fR fH fF fA : Addr} {dW dT dJ dL dS dP dN dR dH dF dA : FuncData} {A : Around} {outer : List Env} {s : Shared} {H : Hp} {fa : Addr} {cdv : Value} {a : Addr} {ns : List Int} {E : XK} (hS : SqL K H a (ns.map V.int)) (hr : Room 45 (A.deeper (envOfC "law" (defScope lLaw) s.heap.objs.size fa cdv))) (bare : (A.deeper (envOfC "law" (defScope lLaw) s.heap.objs.size fa cdv)).guards = some [])
    (S : Bs K mg C) (D : Dd P wd K mg base fD dD) (DW : Df K mg "_law_well" sWell ["script"] fW dW) (GW : FnOk P wd K mg base CX0 45 fW dW ["script"] (spWell K)) (DS : Df K mg "_law_start" lStart ["well"] fS dS) (GS : FnOk P wd K mg base CX0 45 fS dS ["well"] (spStart C))
    (DT : Df K mg "_law_thing" lThingT ["well", "table"] fT dT) (GT : FnOk P wd K mg base CX0 45 fT dT ["well", "table"] (spThT C)) (DP : Df K mg "_law_spoilt" lSpoilt ["thing", "at", "well"] fP dP) (GP : FnOk P wd K mg base CX0 45 fP dP ["thing", "at", "well"] (spSpoilt C 30)) (DN : Df K mg "_law_name" lName ["well"] fN dN) (GN : FnOk P wd K mg base CX0 45 fN dN ["well"] spName)
    (J : Jw P wd K mg base C 8 "is_table" "thing" fJ dJ Sm gTable) (JL : Jw P wd K mg base C 8 "_law_table_fits" "thing" fL dL Sm gTable) (DR : Df K mg "_law_read_holds" lReadHolds ["table", "names"] fR dR) (GR : FnOk P wd K mg base CX0 45 fR dR ["table", "names"] (spRH K C))
    (DH : Df K mg "_law_head_refused" lHeadRefd ["thing", "name"] fH dH) (GH : FnOk P wd K mg base CX0 45 fH dH ["thing", "name"] (spHR K C)) (JF : Jd P wd K mg base C 2 "_law_name_fits" "thing" fF dF gNam) (DA : Df K mg "_law_all_refused" lAllRefd ["thing", "name", "odd"] fA dA) (GA : FnOk P wd K mg base CX0 45 fA dA ["thing", "name", "odd"] (spAR C)) :
    ∃ t, PSs (cxOf CX0 P wd K mg base nmL "law" (defScope lLaw) fa cdv A outer s H E) (defBody lLaw) t ∧ t { nx := fun _ H' => (fun (v : V) (_ : Hp) => v = .bl true) .non H', rt := fun v _ => v = .bl true } (L2.start nmL [.ref a]) H := by
  have B := S.B
  suffices hh : ∃ t, PSs (cxOf CX0 P wd K mg base nmL "law" (defScope lLaw) fa cdv A outer s H E).nox (defBody lLaw) t ∧ t { nx := fun _ H' => (fun (v : V) (_ : Hp) => v = .bl true) .non H', rt := fun v _ => v = .bl true } (L2.start nmL [.ref a]) H by
    obtain ⟨t, h, q⟩ := hh
    exact ⟨t, h.nox, q⟩
  refine ⟨_, pss_cons (ps_set (i := 1) scLaw.nd rfl (.inl rfl) (pe_call GW hr (by rfl) DW.g DW.F.kp DW.b .nil pass0 (pa_cons (pv 0) pa_nil)))
    (pss_cons (ps_for PassesOwn.never rfl (pi_range1 (by rfl) B.range (pa_cons (pe_op op_add pe_int (pe_draw D hr (by decide) (by rfl) (pv 1) pe_int)) pa_nil)) (pg_name (i := 2) scLaw.nd rfl (Or.inl rfl))
      (pss_cons (ps_asg (pe_call GS hr (by rfl) DS.g DS.F.kp DS.b .nil pass0 (pa_cons (pv 1) pa_nil)) (pg_unl rfl (pgs_cons (pg_name (i := 3) scLaw.nd rfl (Or.inl rfl)) (pgs_cons (pg_name (i := 4) scLaw.nd rfl (Or.inl rfl)) (pgs_cons (pg_name (i := 5) scLaw.nd rfl (Or.inl rfl)) pgs_nil)))))
      (pss_cons (ps_set (i := 6) scLaw.nd rfl (.inl rfl) (pe_call GT hr (by rfl) DT.g DT.F.kp DT.b .nil pass0 (pa_cons (pv 1) (pa_cons (pv 5) pa_nil))))
      (pss_cons (ps_set (i := 7) scLaw.nd rfl (.inl rfl) (pe_call GP hr (by rfl) DP.g DP.F.kp DP.b .nil pass0 (pa_cons (pe_ix ix_list (pv 3) pe_int (fun _ _ => rfl)) (pa_cons pe_int (pa_cons (pv 1) pa_nil)))))
      (pss_cons (ps_set (i := 8) scLaw.nd rfl (.inl rfl) (pe_call GN hr (by rfl) DN.g DN.F.kp DN.b .nil pass0 (pa_cons (pv 1) pa_nil)))
      (pss_cons (ps_set (i := 9) scLaw.nd rfl (.inl rfl) (pe_callB (call_reprU (nm := nmT) hr bare S.E.r) (by rfl) B.rep boot_repr' (pa_cons (pv 6) pa_nil)))
      (pss_cons (ps_set (i := 10) scLaw.nd rfl (.inl rfl) (pe_Jw JL hr (by decide) (by rfl) pass0 (pv 6)))
      (pss_cons (ps_set (i := 11) scLaw.nd rfl (.inl rfl) (pe_Jw J hr (by decide) (by rfl) pass0 (pv 6)))
      (pss_cons (ps_if (PW.pt (pw_or (pt_not (pt_val (pe_isiX S (by rfl) (by rfl) S.B.boo boot_bool' (by decide) (pv 11) (by decide) (by decide)))) (pw_or1 (pt_cmpR op_ne (pv 11) (pv 10) (nomark _))))) (pss_one (ps_ret pe_bl)) pss_nil)
      (pss_cons (ps_if (PW.pt (pw_and (pt_val (pv 10)) (pw_and1 (pt_not (pt_val (pe_call GR hr (by rfl) DR.g DR.F.kp DR.b .nil pass0 (pa_cons (pv 6) (pa_cons (pe_op op_cat (pv 3) (pe_lst (pa_cons (pv 8) pa_nil))) pa_nil)))))))) (pss_one (ps_ret pe_bl)) pss_nil)
      (pss_cons (ps_if (PW.pt (pw_and (pt_val (pv 10)) (pw_and1 (pt_cmpR op_ne (pe_call GH hr (by rfl) DH.g DH.F.kp DH.b .nil pass0 (pa_cons (pv 6) (pa_cons (pv 7) pa_nil))) (pe_ix ix_list (pe_lst (pa_cons pe_str (pa_cons pe_str pa_nil))) (pe_callTy call_int1 (by rfl) B.int boot_int (pa_cons (pe_J JF hr (by decide) (by rfl) pass0 (pv 7)) pa_nil)) (fun _ _ => rfl)) (nomark _))))) (pss_one (ps_ret pe_bl)) pss_nil)
      (pss_cons (ps_if (PW.pt (pw_and (pt_not (pt_val (pv 10))) (pw_and1 (pt_not (pt_val (pe_call GA hr (by rfl) DA.g DA.F.kp DA.b .nil pass0 (pa_cons (pv 6) (pa_cons (pv 8) (pa_cons (pv 7) pa_nil))))))))) (pss_one (ps_ret pe_bl)) pss_nil)
      (pss_one (ps_if (pt_cmpR op_ne (pe_callB (call_reprU (nm := nmT) hr bare S.E.r) (by rfl) B.rep boot_repr' (pa_cons (pv 6) pa_nil)) (pv 9) (nomark _)) (pss_one (ps_ret pe_bl)) pss_nil))))))))))))))
    (pss_one (ps_ret pe_bl))), ?_⟩
  refine ⟨_, rfl, a, ns, rfl, hS, fun wl H1 s1 W => ?_⟩
  refine ⟨_, rfl, wl, 3, rfl, W, by decide, by decide, fun c H2 c0 c1 D2 => ⟨_, _, rfl, rfl, 1 + c, rfl, by omega, by omega, ?_⟩⟩
  refine for_range (lo := 0) (n := (1 + c).toNat) (fun i σ H' => ∃ x2 x3 x4 x5 x6 x7 x8 x9 x10 x11 : Option V, σ = [some (.ref a), some (.ref wl.w), x2, x3, x4, x5, x6, x7, x8, x9, x10, x11] ∧ Well H' wl) ⟨none, none, none, none, none, none, none, none, none, none, rfl, D2.well⟩ ?_ ?_
  · rintro i σ H3 hi ⟨x2, x3, x4, x5, x6, x7, x8, x9, x10, x11, rfl, W3⟩
    refine ⟨_, rfl, wl, rfl, W3, fun p N I zs v T H4 D4 hp hN nN z1 z3 hz tp hv => ⟨p, _, rfl, SqL.of hp, rfl, _, _, rfl, _, _, rfl, _, _, rfl, rfl, ?_⟩⟩
    refine ⟨_, rfl, _, rfl, wl, v, tabU T, rfl, D4.well, hv, tp.bd hz, fun th u H5 D5 hth bu => ?_⟩
    dsimp only [gName]
    have N5 : H5 N = some (.lst (zs.map V.str)) := D5.keep N _ nN hN
    obtain ⟨z0, zr, ez⟩ : ∃ z0 zr, zs = z0 :: zr := by
      cases zs with
      | nil => exact absurd z1 (by decide)
      | cons z0 zr => exact ⟨z0, zr, rfl⟩
    have g0 := hz z0 (by rw [ez]; simp)
    have at0 : atI (zs.map V.str) 0 = some (.str z0) := by rw [ez]; exact atI_nat (j := 0) rfl
    refine asg1 ?_
    refine call1 (ea_cons (ev_op (ev_var rfl) ev_c (rv_ixL (sq_of N5) at0)) (ea_cons ev_c (ea_cons (ev_var rfl) ea_nil))) fun H6 e6 => ⟨wl, .str z0, .str z0, 0, 20, 0, 0, rfl, D5.well.same e6, .str z0, nam_bd g0, by decide, by decide, by simp [dep], by decide, by have := nod_pos (.str z0); omega, fun od uo H7 D7 hod bo => ?_⟩
    have ht7 : At wl.w C H7 th u := At.drawn D7 (ex_at e6 hth)
    refine asg1 ?_
    refine call1 (ea_cons (ev_var rfl) ea_nil) fun H8 e8 => ⟨wl, rfl, D7.well.same e8, fun zm H9 gz D9 => ?_⟩
    have ht : At wl.w C H9 th u := At.drawn D9 (ex_at e8 ht7)
    have ho : At wl.w C H9 od uo := At.drawn D9 (ex_at e8 hod)
    have hN9 : H9 N = some (.lst (zs.map V.str)) := D9.keep N _ nN (e8 _ _ (D7.keep N _ nN (e6 _ _ N5)))
    have hw := D9.well.at
    have fi : Fine u := bu.fine (by omega) (by omega)
    have fo : Fine uo := bo.fine (by omega) (by omega)
    have sm : Sm u := by
      have := bu.w
      show wt u ≤ 160000
      omega
    have fz : ∀ {z : Str}, gNam (.str z) = true → Fine (.str z) := fun {z} h => (nam_bd h).fine (by omega) (by omega)
    show tSeq _ _ _ [some (.ref a), some (.ref wl.w), some (V.int (0 + (i : Nat))), some (.ref N), some (.ref I), some v, some th, some od, some (.str zm), x9, x10, x11] H9
    refine q_asg (ev_repr (C := C) (ev_var rfl) ht bu) fun Ha ea => ?_
    refine q_asg (ev_Jw (ev_var rfl) (ex_at ea ht) fi sm (hw.imp fun o z => ea _ _ z)) fun Hb eb => ?_
    have e9b := ea.trans eb
    refine q_asg (ev_Jw (ev_var rfl) (ex_at e9b ht) fi sm (hw.imp fun o z => e9b _ _ z)) fun Hc ec => ?_
    have e9c := e9b.trans ec
    refine q_when (b := false) (et_is (et_or (et_not (et_B (ev_isi (C := C) (w := wl.w) (u := .bl (gTable u)) (ev_var rfl) (.bl _)))) fun _ => et_test (ev_op (ev_var rfl) (ev_var rfl) (rv_ne rfl))) (by rw [decide_eq_true rfl]; rfl)) (fun z => by cases z) (fun _ Hd ed => ?_)
    have e9d := e9c.trans ed
    have rh : gTable u = true → Ev (tCall (spRH K C) [] E0 (tCons (tVar 6) (tCons (tOp rCat (tVar 3) (tLst (tCons (tVar 8) tNil))) tNil))) [some (.ref a), some (.ref wl.w), some (V.int (0 + (i : Nat))), some (.ref N), some (.ref I), some v, some th, some od, some (.str zm), some (.str (Hu.shown nmT u)), some (.bl (gTable u)), some (.bl (gTable u))] Hd (.bl true) := fun gt G eg Q qq => by
      refine call1X ?_
      refine cons1 ?_
      refine ⟨_, rfl, ?_⟩
      refine cons1 ?_
      refine ⟨_, rfl, ?_⟩
      refine (el_lst (ea_cons (ev_var rfl) ea_nil) (by show (1 : Nat) ≤ 100000; decide)) G (Ex.refl G) _ fun p2 G2 hp2 g2 h2 => ?_
      have E2 := (e9d.trans eg).trans g2
      refine ⟨N, p2, zs.map V.str, [.str zm], rfl, rfl, E2 _ _ hN9, h2, sz_of (by rw [List.length_map]; show zs.length + 1 ≤ 100000; omega), fun r hr0 => ?_⟩
      have E3 : Ex G2 (upd G2 r (.lst (zs.map V.str ++ [.str zm]))) := Ex.new hr0
      refine ⟨th, r, u, zs ++ [zm], wl.w, rfl, ex_at (E2.trans E3) ht, fi, sm, hw.imp fun o z => (E2.trans E3) _ _ z, gt, by rw [upd_same, List.map_append]; rfl, fun z hz' => ?_, fun G4 g4 => qq G4 (g2.trans (E3.trans g4))⟩
      rcases List.mem_append.mp hz' with h | h
      · exact ⟨hz z h, fz (hz z h)⟩
      · rw [List.mem_singleton.mp h]
        exact ⟨gz, fz gz⟩
    refine q_when (b := gTable u && !true) (et_and (et_B (ev_var rfl)) fun q => et_not (et_B (rh q))) (fun q => by simp at q) (fun _ He ee => ?_)
    have e9e := e9d.trans ee
    have pk : Ev (tOp (rIxL K) (tLst (tCons (tC (.str "no name")) (tCons (tC (.str "let")) tNil))) (tCB (fun xs H Q => (∃ i, xs = [V.int i] ∧ Q (.int i) H) ∨ ∃ k, xs = [.bl k] ∧ Q (.int (if k then 1 else 0)) H) (tCons (tCall (spJ C gNam) [] E0 (tCons (tVar 7) tNil)) tNil))) [some (.ref a), some (.ref wl.w), some (V.int (0 + (i : Nat))), some (.ref N), some (.ref I), some v, some th, some od, some (.str zm), some (.str (Hu.shown nmT u)), some (.bl (gTable u)), some (.bl (gTable u))] He (.str (if gNam uo = true then "let" else "no name")) := by
      have fe : Ev (tCall (spJ C gNam) [] E0 (tCons (tVar 7) tNil)) [some (.ref a), some (.ref wl.w), some (V.int (0 + (i : Nat))), some (.ref N), some (.ref I), some v, some th, some od, some (.str zm), some (.str (Hu.shown nmT u)), some (.bl (gTable u)), some (.bl (gTable u))] He (.bl (gNam uo)) := ev_J (ev_var rfl) (ex_at e9e ho) fo
      cases g : gNam uo with
      | true =>
        rw [g] at fe
        exact ev_pick (K := K) (i := 1) (ea_cons ev_c (ea_cons ev_c ea_nil)) (by decide) (ev_cb (ea_cons fe ea_nil) fun H3 e3 Q q => .inr ⟨_, rfl, q H3 (Ex.refl H3)⟩) rfl
      | false =>
        rw [g] at fe
        exact ev_pick (K := K) (i := 0) (ea_cons ev_c (ea_cons ev_c ea_nil)) (by decide) (ev_cb (ea_cons fe ea_nil) fun H3 e3 Q q => .inr ⟨_, rfl, q H3 (Ex.refl H3)⟩) rfl
    have hrd : gTable u = true → Ev (tCall (spHR K C) [] E0 (tCons (tVar 6) (tCons (tVar 7) tNil))) [some (.ref a), some (.ref wl.w), some (V.int (0 + (i : Nat))), some (.ref N), some (.ref I), some v, some th, some od, some (.str zm), some (.str (Hu.shown nmT u)), some (.bl (gTable u)), some (.bl (gTable u))] He (.str (if gNam uo = true then "let" else "no name")) := fun gt => ev_call (ea_cons (ev_var rfl) (ea_cons (ev_var rfl) ea_nil)) fun G1 g1 Q qq E => ⟨th, od, u, uo, wl.w, wl.w, rfl, ex_at (e9e.trans g1) ht, fi, sm, hw.imp fun o z => (e9e.trans g1) _ _ z, ex_at (e9e.trans g1) ho, fo, by rw [if_pos gt]; exact qq⟩
    refine q_when (b := gTable u && false) (et_and (et_B (ev_var rfl)) fun q => et_test (ev_is (ev_op (hrd q) pk (rv_ne rfl)) (by rw [decide_eq_true rfl]; rfl))) (fun q => by simp at q) (fun _ Hf ef => ?_)
    have e9f := e9e.trans ef
    refine q_when (b := !gTable u && !true) (et_and (et_not (et_B (ev_var rfl))) fun q => et_not (et_B (ev_call (ea_cons (ev_var rfl) (ea_cons (ev_var rfl) (ea_cons (ev_var rfl) ea_nil))) fun G1 g1 Q qq E => ⟨th, .str zm, od, u, .str zm, uo, wl.w, wl.w, wl.w, rfl, ex_at (e9f.trans g1) ht, fi, sm, hw.imp fun o z => (e9f.trans g1) _ _ z, by simpa using q, .str zm, fz gz, ex_at (e9f.trans g1) ho, fo, qq⟩))) (fun q => by simp at q) (fun _ Hg eg => ?_)
    have e9g := e9f.trans eg
    exact s_if (b := false) (et_is (et_test (ev_op (ev_repr (C := C) (ev_var rfl) (ex_at e9g ht) bu) (ev_var rfl) (rv_ne rfl))) (by rw [decide_eq_true rfl]; rfl)) (fun z => by cases z) fun _ Hh eh => s_next ⟨_, _, _, _, _, _, _, _, _, _, rfl, D9.well.same (e9g.trans eh)⟩
  · rintro σ H3 ⟨x2, x3, x4, x5, x6, x7, x8, x9, x10, x11, rfl, W3⟩
    exact rfl
end
end Hs
namespace Hs
open PySem PySem.Spec PyProof.Rows L2 Hu Evl
/-- all that the law's run reaches -/
structure La (K : PySem.W.Frag) (w : World) (mg : Str → Option Value) : Prop where
  B : Bt mg
  Z : Bz mg
  N : Cn mg
  N2 : Ct mg
  di : mg "dict" = none
  E : ∃ C CN, Xc K mg "NoTable" C "NoTable" ∧ Eqx K C ∧ Ec K mg "NoTable" C ∧ Ec K mg "NoName" CN ∧ PySem.W.exmOne K (.ref CN) (.ref C) = some false
  H : ∃ CH, mg "HomeError" = some (.ref CH)
  F : ∃ a, Fh K mg a
  dis_integer : ∃ (f : Addr) (d : FuncData), Df K mg "is_integer" sIsInt ["thing"] f d
  dis_from_one : ∃ (f : Addr) (d : FuncData), Df K mg "is_from_one" sFromOne ["thing"] f d
  dis_pair : ∃ (f : Addr) (d : FuncData), Df K mg "is_pair" sPair ["thing"] f d
  dis_signs : ∃ (f : Addr) (d : FuncData), Df K mg "is_signs" sIsSigns ["thing"] f d
  dis_ascending : ∃ (f : Addr) (d : FuncData), Df K mg "is_ascending" sAscending ["things"] f d
  dis_home : ∃ (f : Addr) (d : FuncData), Df K mg "is_home" sHome ["thing"] f d
  dis_hand : ∃ (f : Addr) (d : FuncData), Df K mg "is_hand" sHand ["thing"] f d
  dis_name : ∃ (f : Addr) (d : FuncData), Df K mg "is_name" sName ["thing"] f d
  dis_piece : ∃ (f : Addr) (d : FuncData), Df K mg "is_piece" sPiece ["thing"] f d
  dis_block_id : ∃ (f : Addr) (d : FuncData), Df K mg "is_block_id" sBlockId ["thing"] f d
  dis_row : ∃ (f : Addr) (d : FuncData), Df K mg "is_row" sRow ["thing"] f d
  dis_stamp : ∃ (f : Addr) (d : FuncData), Df K mg "is_stamp" sStamp ["thing"] f d
  dis_members : ∃ (f : Addr) (d : FuncData), Df K mg "is_members" sMembers ["thing"] f d
  dis_count : ∃ (f : Addr) (d : FuncData), Df K mg "is_count" sCount ["thing"] f d
  dis_tuple_of : ∃ (f : Addr) (d : FuncData), Df K mg "is_tuple_of" sTO ["many", "thing"] f d
  dis_ahead : ∃ (f : Addr) (d : FuncData), Df K mg "is_ahead" sAhead ["thing"] f d
  dis_vote : ∃ (f : Addr) (d : FuncData), Df K mg "is_vote" sVote ["thing"] f d
  dis_heads : ∃ (f : Addr) (d : FuncData), Df K mg "is_heads" sHeads ["thing"] f d
  d_is_named_head : ∃ (f : Addr) (d : FuncData), Df K mg "_is_named_head" sNamed ["thing"] f d
  dis_blocks : ∃ (f : Addr) (d : FuncData), Df K mg "is_blocks" sBlocks ["thing"] f d
  d_is_block : ∃ (f : Addr) (d : FuncData), Df K mg "_is_block" sBlk ["thing"] f d
  d_are_leases : ∃ (f : Addr) (d : FuncData), Df K mg "_are_leases" sLeases ["thing"] f d
  d_is_lease : ∃ (f : Addr) (d : FuncData), Df K mg "_is_lease" sLease ["thing"] f d
  d_are_kept : ∃ (f : Addr) (d : FuncData), Df K mg "_are_kept" sKept ["parts"] f d
  dis_table : ∃ (f : Addr) (d : FuncData), Df K mg "is_table" sTable ["thing"] f d
  dheads_by_name : ∃ (f : Addr) (d : FuncData), Df K mg "heads_by_name" sHeadsBy ["heads"] f d
  dled_ids : ∃ (f : Addr) (d : FuncData), Df K mg "led_ids" sLedIds ["heads"] f d
  dled_by : ∃ (f : Addr) (d : FuncData), Df K mg "led_by" sLedBy ["heads", "blocks"] f d
  dbehind : ∃ (f : Addr) (d : FuncData), Df K mg "behind" sBehind ["table", "deed"] f d
  dis_closed : ∃ (f : Addr) (d : FuncData), Df K mg "is_closed" sClosed ["table"] f d
  dhead_at : ∃ (f : Addr) (d : FuncData), Df K mg "head_at" sHeadAt ["table", "name"] f d
  dhead_of : ∃ (f : Addr) (d : FuncData), Df K mg "head_of" sHeadOf ["table", "name"] f d
  dled_blocks : ∃ (f : Addr) (d : FuncData), Df K mg "led_blocks" sLedBlocks ["table"] f d
  d_law_mixed : ∃ (f : Addr) (d : FuncData), Df K mg "_law_mixed" sMixed ["number"] f d
  d_law_well : ∃ (f : Addr) (d : FuncData), Df K mg "_law_well" sWell ["script"] f d
  d_law_filled : ∃ (f : Addr) (d : FuncData), Df K mg "_law_filled" sFilled ["well"] f d
  d_law_draw : ∃ (f : Addr) (d : FuncData), Df K mg "_law_draw" sDraw ["well", "many"] f d
  d_law_number : ∃ (f : Addr) (d : FuncData), Df K mg "_law_number" lNumber ["well"] f d
  d_law_signs : ∃ (f : Addr) (d : FuncData), Df K mg "_law_signs" sSigns [] f d
  d_law_string : ∃ (f : Addr) (d : FuncData), Df K mg "_law_string" sString ["well", "many"] f d
  d_law_name : ∃ (f : Addr) (d : FuncData), Df K mg "_law_name" lName ["well"] f d
  d_law_unlike : ∃ (f : Addr) (d : FuncData), Df K mg "_law_unlike" lUnlike ["things"] f d
  d_law_any : ∃ (f : Addr) (d : FuncData), Df K mg "_law_any" lAny ["well", "deep"] f d
  d_law_nodes : ∃ (f : Addr) (d : FuncData), Df K mg "_law_nodes" lNodes ["thing"] f d
  d_law_changed : ∃ (f : Addr) (d : FuncData), Df K mg "_law_changed" lChanged ["thing", "well"] f d
  d_law_spoilt : ∃ (f : Addr) (d : FuncData), Df K mg "_law_spoilt" lSpoilt ["thing", "at", "well"] f d
  d_law_id : ∃ (f : Addr) (d : FuncData), Df K mg "_law_id" lId ["well"] f d
  d_law_stamp : ∃ (f : Addr) (d : FuncData), Df K mg "_law_stamp" lStamp ["well"] f d
  d_law_row : ∃ (f : Addr) (d : FuncData), Df K mg "_law_row" lRow ["well", "ids"] f d
  d_law_members : ∃ (f : Addr) (d : FuncData), Df K mg "_law_members" lMembers ["well"] f d
  d_law_heads : ∃ (f : Addr) (d : FuncData), Df K mg "_law_heads" lHeads ["well", "names", "ids"] f d
  d_law_blocks : ∃ (f : Addr) (d : FuncData), Df K mg "_law_blocks" lBlocks ["well", "ids", "share"] f d
  d_law_leases : ∃ (f : Addr) (d : FuncData), Df K mg "_law_leases" lLeases ["well", "names", "clock"] f d
  d_law_vote : ∃ (f : Addr) (d : FuncData), Df K mg "_law_vote" lVote ["well"] f d
  d_law_table : ∃ (f : Addr) (d : FuncData), Df K mg "_law_table" lTable ["well", "names", "ids"] f d
  d_law_start : ∃ (f : Addr) (d : FuncData), Df K mg "_law_start" lStart ["well"] f d
  d_law_count : ∃ (f : Addr) (d : FuncData), Df K mg "_law_count" lCount ["thing"] f d
  d_law_long : ∃ (f : Addr) (d : FuncData), Df K mg "_law_long" lLong ["thing", "many"] f d
  d_law_rising : ∃ (f : Addr) (d : FuncData), Df K mg "_law_rising" lRising ["things"] f d
  d_law_name_fits : ∃ (f : Addr) (d : FuncData), Df K mg "_law_name_fits" lNameFits ["thing"] f d
  d_law_hand_fits : ∃ (f : Addr) (d : FuncData), Df K mg "_law_hand_fits" lHandFits ["thing"] f d
  d_law_signs_fit : ∃ (f : Addr) (d : FuncData), Df K mg "_law_signs_fit" lSignsFit ["thing", "least", "most"] f d
  d_law_id_fits : ∃ (f : Addr) (d : FuncData), Df K mg "_law_id_fits" lIdFits ["thing"] f d
  d_law_stamp_fits : ∃ (f : Addr) (d : FuncData), Df K mg "_law_stamp_fits" lStampFits ["thing"] f d
  d_law_row_fits : ∃ (f : Addr) (d : FuncData), Df K mg "_law_row_fits" lRowFits ["thing"] f d
  d_law_members_fit : ∃ (f : Addr) (d : FuncData), Df K mg "_law_members_fit" lMembersFit ["thing"] f d
  d_law_heads_fit : ∃ (f : Addr) (d : FuncData), Df K mg "_law_heads_fit" lHeadsFit ["thing"] f d
  d_law_head_fits : ∃ (f : Addr) (d : FuncData), Df K mg "_law_head_fits" lHeadFits ["thing"] f d
  d_law_block_fits : ∃ (f : Addr) (d : FuncData), Df K mg "_law_block_fits" lBlockFits ["thing"] f d
  d_law_blocks_fit : ∃ (f : Addr) (d : FuncData), Df K mg "_law_blocks_fit" lBlocksFit ["thing"] f d
  d_law_lease_fits : ∃ (f : Addr) (d : FuncData), Df K mg "_law_lease_fits" lLeaseFits ["thing"] f d
  d_law_leases_fit : ∃ (f : Addr) (d : FuncData), Df K mg "_law_leases_fit" lLeasesFit ["thing"] f d
  d_law_vote_fits : ∃ (f : Addr) (d : FuncData), Df K mg "_law_vote_fits" lVoteFits ["thing"] f d
  d_law_ahead_fits : ∃ (f : Addr) (d : FuncData), Df K mg "_law_ahead_fits" lAheadFits ["thing"] f d
  d_law_table_fits : ∃ (f : Addr) (d : FuncData), Df K mg "_law_table_fits" lTableFits ["thing"] f d
  d_law_alike : ∃ (f : Addr) (d : FuncData), Df K mg "_law_alike" lAlike ["told", "due"] f d
  d_law_ids_led : ∃ (f : Addr) (d : FuncData), Df K mg "_law_ids_led" lIdsLed ["table"] f d
  d_law_head_due : ∃ (f : Addr) (d : FuncData), Df K mg "_law_head_due" lHeadDue ["table", "name"] f d
  d_law_read_holds : ∃ (f : Addr) (d : FuncData), Df K mg "_law_read_holds" lReadHolds ["table", "names"] f d
  d_law_thing : ∃ (f : Addr) (d : FuncData), Df K mg "_law_thing" lThing ["well", "table"] f d
  d_law_refused : ∃ (f : Addr) (d : FuncData), Df K mg "_law_refused" lRefd ["ask", "thing"] f d
  d_law_head_refused : ∃ (f : Addr) (d : FuncData), Df K mg "_law_head_refused" lHeadRefd ["thing", "name"] f d
  d_law_behind_refused : ∃ (f : Addr) (d : FuncData), Df K mg "_law_behind_refused" lBehindRefd ["thing", "deed"] f d
  d_law_all_refused : ∃ (f : Addr) (d : FuncData), Df K mg "_law_all_refused" lAllRefd ["thing", "name", "odd"] f d
section
variable {P : Program} {wd : World} {K : PySem.W.Frag} {mg : Str → Option Value} {base : Heap}
set_option maxHeartbeats 4000000 in
theorem law_body (L : La K wd mg) {A : Around} {outer : List Env} {s : Shared} {H : Hp} {fa : Addr} {cdv : Value} {a : Addr} {ns : List Int} {E : XK} (hS : SqL K H a (ns.map V.int)) (hr : Room 45 (A.deeper (envOfC "law" (defScope lLaw) s.heap.objs.size fa cdv))) (bare : (A.deeper (envOfC "law" (defScope lLaw) s.heap.objs.size fa cdv)).guards = some []) :
    ∃ t, PSs (cxOf CX0 P wd K mg base nmL "law" (defScope lLaw) fa cdv A outer s H E) (defBody lLaw) t ∧ t { nx := fun _ H' => (fun (v : V) (_ : Hp) => v = .bl true) .non H', rt := fun v _ => v = .bl true } (L2.start nmL [.ref a]) H := by
  obtain ⟨f_is_integer, d_is_integer, D_is_integer⟩ := L.dis_integer
  have F_is_integer := D_is_integer.F
  obtain ⟨f_is_from_one, d_is_from_one, D_is_from_one⟩ := L.dis_from_one
  have F_is_from_one := D_is_from_one.F
  obtain ⟨f_is_pair, d_is_pair, D_is_pair⟩ := L.dis_pair
  have F_is_pair := D_is_pair.F
  obtain ⟨f_is_signs, d_is_signs, D_is_signs⟩ := L.dis_signs
  have F_is_signs := D_is_signs.F
  obtain ⟨f_is_ascending, d_is_ascending, D_is_ascending⟩ := L.dis_ascending
  have F_is_ascending := D_is_ascending.F
  obtain ⟨f_is_home, d_is_home, D_is_home⟩ := L.dis_home
  have F_is_home := D_is_home.F
  obtain ⟨f_is_hand, d_is_hand, D_is_hand⟩ := L.dis_hand
  have F_is_hand := D_is_hand.F
  obtain ⟨f_is_name, d_is_name, D_is_name⟩ := L.dis_name
  have F_is_name := D_is_name.F
  obtain ⟨f_is_piece, d_is_piece, D_is_piece⟩ := L.dis_piece
  have F_is_piece := D_is_piece.F
  obtain ⟨f_is_block_id, d_is_block_id, D_is_block_id⟩ := L.dis_block_id
  have F_is_block_id := D_is_block_id.F
  obtain ⟨f_is_row, d_is_row, D_is_row⟩ := L.dis_row
  have F_is_row := D_is_row.F
  obtain ⟨f_is_stamp, d_is_stamp, D_is_stamp⟩ := L.dis_stamp
  have F_is_stamp := D_is_stamp.F
  obtain ⟨f_is_members, d_is_members, D_is_members⟩ := L.dis_members
  have F_is_members := D_is_members.F
  obtain ⟨f_is_count, d_is_count, D_is_count⟩ := L.dis_count
  have F_is_count := D_is_count.F
  obtain ⟨f_is_tuple_of, d_is_tuple_of, D_is_tuple_of⟩ := L.dis_tuple_of
  have F_is_tuple_of := D_is_tuple_of.F
  obtain ⟨f_is_ahead, d_is_ahead, D_is_ahead⟩ := L.dis_ahead
  have F_is_ahead := D_is_ahead.F
  obtain ⟨f_is_vote, d_is_vote, D_is_vote⟩ := L.dis_vote
  have F_is_vote := D_is_vote.F
  obtain ⟨f_is_heads, d_is_heads, D_is_heads⟩ := L.dis_heads
  have F_is_heads := D_is_heads.F
  obtain ⟨f__is_named_head, d__is_named_head, D__is_named_head⟩ := L.d_is_named_head
  have F__is_named_head := D__is_named_head.F
  obtain ⟨f_is_blocks, d_is_blocks, D_is_blocks⟩ := L.dis_blocks
  have F_is_blocks := D_is_blocks.F
  obtain ⟨f__is_block, d__is_block, D__is_block⟩ := L.d_is_block
  have F__is_block := D__is_block.F
  obtain ⟨f__are_leases, d__are_leases, D__are_leases⟩ := L.d_are_leases
  have F__are_leases := D__are_leases.F
  obtain ⟨f__is_lease, d__is_lease, D__is_lease⟩ := L.d_is_lease
  have F__is_lease := D__is_lease.F
  obtain ⟨f__are_kept, d__are_kept, D__are_kept⟩ := L.d_are_kept
  have F__are_kept := D__are_kept.F
  obtain ⟨f_is_table, d_is_table, D_is_table⟩ := L.dis_table
  have F_is_table := D_is_table.F
  obtain ⟨f_heads_by_name, d_heads_by_name, D_heads_by_name⟩ := L.dheads_by_name
  have F_heads_by_name := D_heads_by_name.F
  obtain ⟨f_led_ids, d_led_ids, D_led_ids⟩ := L.dled_ids
  have F_led_ids := D_led_ids.F
  obtain ⟨f_led_by, d_led_by, D_led_by⟩ := L.dled_by
  have F_led_by := D_led_by.F
  obtain ⟨f_behind, d_behind, D_behind⟩ := L.dbehind
  have F_behind := D_behind.F
  obtain ⟨f_is_closed, d_is_closed, D_is_closed⟩ := L.dis_closed
  have F_is_closed := D_is_closed.F
  obtain ⟨f_head_at, d_head_at, D_head_at⟩ := L.dhead_at
  have F_head_at := D_head_at.F
  obtain ⟨f_head_of, d_head_of, D_head_of⟩ := L.dhead_of
  have F_head_of := D_head_of.F
  obtain ⟨f_led_blocks, d_led_blocks, D_led_blocks⟩ := L.dled_blocks
  have F_led_blocks := D_led_blocks.F
  obtain ⟨f__law_mixed, d__law_mixed, D__law_mixed⟩ := L.d_law_mixed
  have F__law_mixed := D__law_mixed.F
  obtain ⟨f__law_well, d__law_well, D__law_well⟩ := L.d_law_well
  have F__law_well := D__law_well.F
  obtain ⟨f__law_filled, d__law_filled, D__law_filled⟩ := L.d_law_filled
  have F__law_filled := D__law_filled.F
  obtain ⟨f__law_draw, d__law_draw, D__law_draw⟩ := L.d_law_draw
  have F__law_draw := D__law_draw.F
  obtain ⟨f__law_number, d__law_number, D__law_number⟩ := L.d_law_number
  have F__law_number := D__law_number.F
  obtain ⟨f__law_signs, d__law_signs, D__law_signs⟩ := L.d_law_signs
  have F__law_signs := D__law_signs.F
  obtain ⟨f__law_string, d__law_string, D__law_string⟩ := L.d_law_string
  have F__law_string := D__law_string.F
  obtain ⟨f__law_name, d__law_name, D__law_name⟩ := L.d_law_name
  have F__law_name := D__law_name.F
  obtain ⟨f__law_unlike, d__law_unlike, D__law_unlike⟩ := L.d_law_unlike
  have F__law_unlike := D__law_unlike.F
  obtain ⟨f__law_any, d__law_any, D__law_any⟩ := L.d_law_any
  have F__law_any := D__law_any.F
  obtain ⟨f__law_nodes, d__law_nodes, D__law_nodes⟩ := L.d_law_nodes
  have F__law_nodes := D__law_nodes.F
  obtain ⟨f__law_changed, d__law_changed, D__law_changed⟩ := L.d_law_changed
  have F__law_changed := D__law_changed.F
  obtain ⟨f__law_spoilt, d__law_spoilt, D__law_spoilt⟩ := L.d_law_spoilt
  have F__law_spoilt := D__law_spoilt.F
  obtain ⟨f__law_id, d__law_id, D__law_id⟩ := L.d_law_id
  have F__law_id := D__law_id.F
  obtain ⟨f__law_stamp, d__law_stamp, D__law_stamp⟩ := L.d_law_stamp
  have F__law_stamp := D__law_stamp.F
  obtain ⟨f__law_row, d__law_row, D__law_row⟩ := L.d_law_row
  have F__law_row := D__law_row.F
  obtain ⟨f__law_members, d__law_members, D__law_members⟩ := L.d_law_members
  have F__law_members := D__law_members.F
  obtain ⟨f__law_heads, d__law_heads, D__law_heads⟩ := L.d_law_heads
  have F__law_heads := D__law_heads.F
  obtain ⟨f__law_blocks, d__law_blocks, D__law_blocks⟩ := L.d_law_blocks
  have F__law_blocks := D__law_blocks.F
  obtain ⟨f__law_leases, d__law_leases, D__law_leases⟩ := L.d_law_leases
  have F__law_leases := D__law_leases.F
  obtain ⟨f__law_vote, d__law_vote, D__law_vote⟩ := L.d_law_vote
  have F__law_vote := D__law_vote.F
  obtain ⟨f__law_table, d__law_table, D__law_table⟩ := L.d_law_table
  have F__law_table := D__law_table.F
  obtain ⟨f__law_start, d__law_start, D__law_start⟩ := L.d_law_start
  have F__law_start := D__law_start.F
  obtain ⟨f__law_count, d__law_count, D__law_count⟩ := L.d_law_count
  have F__law_count := D__law_count.F
  obtain ⟨f__law_long, d__law_long, D__law_long⟩ := L.d_law_long
  have F__law_long := D__law_long.F
  obtain ⟨f__law_rising, d__law_rising, D__law_rising⟩ := L.d_law_rising
  have F__law_rising := D__law_rising.F
  obtain ⟨f__law_name_fits, d__law_name_fits, D__law_name_fits⟩ := L.d_law_name_fits
  have F__law_name_fits := D__law_name_fits.F
  obtain ⟨f__law_hand_fits, d__law_hand_fits, D__law_hand_fits⟩ := L.d_law_hand_fits
  have F__law_hand_fits := D__law_hand_fits.F
  obtain ⟨f__law_signs_fit, d__law_signs_fit, D__law_signs_fit⟩ := L.d_law_signs_fit
  have F__law_signs_fit := D__law_signs_fit.F
  obtain ⟨f__law_id_fits, d__law_id_fits, D__law_id_fits⟩ := L.d_law_id_fits
  have F__law_id_fits := D__law_id_fits.F
  obtain ⟨f__law_stamp_fits, d__law_stamp_fits, D__law_stamp_fits⟩ := L.d_law_stamp_fits
  have F__law_stamp_fits := D__law_stamp_fits.F
  obtain ⟨f__law_row_fits, d__law_row_fits, D__law_row_fits⟩ := L.d_law_row_fits
  have F__law_row_fits := D__law_row_fits.F
  obtain ⟨f__law_members_fit, d__law_members_fit, D__law_members_fit⟩ := L.d_law_members_fit
  have F__law_members_fit := D__law_members_fit.F
  obtain ⟨f__law_heads_fit, d__law_heads_fit, D__law_heads_fit⟩ := L.d_law_heads_fit
  have F__law_heads_fit := D__law_heads_fit.F
  obtain ⟨f__law_head_fits, d__law_head_fits, D__law_head_fits⟩ := L.d_law_head_fits
  have F__law_head_fits := D__law_head_fits.F
  obtain ⟨f__law_block_fits, d__law_block_fits, D__law_block_fits⟩ := L.d_law_block_fits
  have F__law_block_fits := D__law_block_fits.F
  obtain ⟨f__law_blocks_fit, d__law_blocks_fit, D__law_blocks_fit⟩ := L.d_law_blocks_fit
  have F__law_blocks_fit := D__law_blocks_fit.F
  obtain ⟨f__law_lease_fits, d__law_lease_fits, D__law_lease_fits⟩ := L.d_law_lease_fits
  have F__law_lease_fits := D__law_lease_fits.F
  obtain ⟨f__law_leases_fit, d__law_leases_fit, D__law_leases_fit⟩ := L.d_law_leases_fit
  have F__law_leases_fit := D__law_leases_fit.F
  obtain ⟨f__law_vote_fits, d__law_vote_fits, D__law_vote_fits⟩ := L.d_law_vote_fits
  have F__law_vote_fits := D__law_vote_fits.F
  obtain ⟨f__law_ahead_fits, d__law_ahead_fits, D__law_ahead_fits⟩ := L.d_law_ahead_fits
  have F__law_ahead_fits := D__law_ahead_fits.F
  obtain ⟨f__law_table_fits, d__law_table_fits, D__law_table_fits⟩ := L.d_law_table_fits
  have F__law_table_fits := D__law_table_fits.F
  obtain ⟨f__law_alike, d__law_alike, D__law_alike⟩ := L.d_law_alike
  have F__law_alike := D__law_alike.F
  obtain ⟨f__law_ids_led, d__law_ids_led, D__law_ids_led⟩ := L.d_law_ids_led
  have F__law_ids_led := D__law_ids_led.F
  obtain ⟨f__law_head_due, d__law_head_due, D__law_head_due⟩ := L.d_law_head_due
  have F__law_head_due := D__law_head_due.F
  obtain ⟨f__law_read_holds, d__law_read_holds, D__law_read_holds⟩ := L.d_law_read_holds
  have F__law_read_holds := D__law_read_holds.F
  obtain ⟨f__law_thing, d__law_thing, D__law_thing⟩ := L.d_law_thing
  have F__law_thing := D__law_thing.F
  obtain ⟨f__law_refused, d__law_refused, D__law_refused⟩ := L.d_law_refused
  have F__law_refused := D__law_refused.F
  obtain ⟨f__law_head_refused, d__law_head_refused, D__law_head_refused⟩ := L.d_law_head_refused
  have F__law_head_refused := D__law_head_refused.F
  obtain ⟨f__law_behind_refused, d__law_behind_refused, D__law_behind_refused⟩ := L.d_law_behind_refused
  have F__law_behind_refused := D__law_behind_refused.F
  obtain ⟨f__law_all_refused, d__law_all_refused, D__law_all_refused⟩ := L.d_law_all_refused
  have F__law_all_refused := D__law_all_refused.F
  obtain ⟨C, CN, XE, XQ, EC, EN, ne⟩ := L.E
  obtain ⟨CH, gH⟩ := L.H
  obtain ⟨aF, FF⟩ := L.F
  have B := L.B
  have Z := L.Z
  have N := L.N
  have N2 := L.N2
  have S : Bs K mg C := ⟨B, XE, XQ⟩
  have JI : Jd P wd K mg base C 1 "is_integer" "thing" f_is_integer d_is_integer gInt := jd_int D_is_integer S
  have JF := jd_from D_is_from_one S JI
  have JH := jd_home D_is_home S N JI
  have JHa := jd_hand D_is_hand S N JI
  have JP : Jd P wd K mg base C 1 "is_pair" "thing" f_is_pair d_is_pair gPair := jd_pair D_is_pair S
  have JS : Jd P wd K mg base C 1 "is_signs" "thing" f_is_signs d_is_signs gSigns := jd_signs D_is_signs S
  have JPc := jd_piece D_is_piece S N JS
  have JN : Jd P wd K mg base C 2 "is_name" "thing" f_is_name d_is_name gNam := jd_name D_is_name S N
  have JId := jd_id D_is_block_id S JP JHa JF
  have JR := jd_row D_is_row S N JId
  have JSt := jd_stamp D_is_stamp S JP JI JF JHa
  have JM := jd_members D_is_members S N JH D_is_ascending
  have JC := jd_cnt D_is_count S JI
  have JT : JTO P wd K mg base C f_is_tuple_of d_is_tuple_of := ⟨D_is_tuple_of, ok_TO D_is_tuple_of S⟩
  have JA := jw_ahead D_is_ahead S JM
  have JV := jd_vote D_is_vote S JP JSt JM
  have JNd := jd_named D__is_named_head S JT JN JSt JR
  have JBk := jd_blk D__is_block S JP JId JPc
  have JHs := jw_heads D_is_heads S JNd D_is_ascending
  have JBs := jw_blocks D_is_blocks S JBk D_is_ascending
  have JLe := jd_lease D__is_lease S JT JN JHa JC
  have JLs := jw_leases D__are_leases S JLe D_is_ascending
  have JK := jw_kept D__are_kept S JM JA JHs JBs
  have JTb0 := jw_table D_is_table S N2 JT JC JLs JSt JV JM JK
  have JTb := jw_sm JTb0
  have GLB := ok_ledBlocks D_led_blocks B N2 JTb D_led_by D_led_ids EC
  have GCl := ok_closed D_is_closed B N2 L.di JTb D_led_ids EC
  have GHO := ok_headOf D_head_of N2 FF JTb JN D_head_at D_heads_by_name EC EN
  have GBe := ok_behindT D_behind JTb EC
  -- the law's own judges
  have LC : Jd P wd K mg base C 1 "_law_count" "thing" f__law_count d__law_count gCount := jl_count D__law_count S
  have LN : Jd P wd K mg base C 2 "_law_name_fits" "thing" f__law_name_fits d__law_name_fits gNam := jl_name D__law_name_fits S
  have LH : Jd P wd K mg base C 2 "_law_hand_fits" "thing" f__law_hand_fits d__law_hand_fits gHand := jl_hand D__law_hand_fits S LC
  have LI : Jd P wd K mg base C 3 "_law_id_fits" "thing" f__law_id_fits d__law_id_fits gId := jl_id D__law_id_fits S D__law_long LH LC
  have LS : Jd P wd K mg base C 3 "_law_stamp_fits" "thing" f__law_stamp_fits d__law_stamp_fits gStamp := jl_stamp D__law_stamp_fits S D__law_long LH LC
  have LR : Jd P wd K mg base C 4 "_law_row_fits" "thing" f__law_row_fits d__law_row_fits gRow := jl_row D__law_row_fits S LI
  have LM : Jd P wd K mg base C 4 "_law_members_fit" "thing" f__law_members_fit d__law_members_fit gMembers := jl_members D__law_members_fit S LC D__law_rising
  have JLo' : JLo P wd K mg base C f__law_long d__law_long := ⟨D__law_long, ok_longM D__law_long.F S⟩
  have LHd : Jw P wd K mg base C 5 "_law_head_fits" "thing" f__law_head_fits d__law_head_fits g3 gH3 := jl_headF D__law_head_fits S LN LS LR
  have LHs : Jw P wd K mg base C 6 "_law_heads_fit" "thing" f__law_heads_fit d__law_heads_fit Sm gHeads := jl_headsF D__law_heads_fit S LHd JLo' D__law_rising
  have LBk : Jd P wd K mg base C 5 "_law_block_fits" "thing" f__law_block_fits d__law_block_fits gBlk := jl_blkF D__law_block_fits S D__law_long LI D__law_signs_fit D__law_signs
  have LBs : Jw P wd K mg base C 6 "_law_blocks_fit" "thing" f__law_blocks_fit d__law_blocks_fit Sm gBlocks := jl_blocksF D__law_blocks_fit S LBk D__law_rising
  have LV : Jd P wd K mg base C 5 "_law_vote_fits" "thing" f__law_vote_fits d__law_vote_fits gV2 := jl_voteF D__law_vote_fits S D__law_long LS LM
  have LA' : Jd P wd K mg base C 5 "_law_ahead_fits" "thing" f__law_ahead_fits d__law_ahead_fits gAhead := jl_aheadF D__law_ahead_fits S JLo' LM
  have LLe := jl_leaseF D__law_lease_fits S JLo' LN LH LC
  have LLs : Jw P wd K mg base C 6 "_law_leases_fit" "thing" f__law_leases_fit d__law_leases_fit Sm gLeases := jl_leasesF D__law_leases_fit S LLe D__law_rising
  have LTb0 := jl_tableF D__law_table_fits S JLo' LA' LC LHs LBs LLs LS LV LM
  have LTb := jw_sm LTb0
  have GRH := ok_readHolds D__law_read_holds.F S D__law_ids_led D__law_alike D_led_blocks GLB D_is_closed GCl D_head_of GHO D__law_head_due
  have GRC := ok_refd D__law_refused.F D_is_closed GCl noTab_cl EC gH
  have GRL := ok_refd D__law_refused.F D_led_blocks GLB noTab_led EC gH
  have GHR := ok_headRefd D__law_head_refused.F D_head_of GHO EC EN ne gH
  have GBR := ok_behindRefd D__law_behind_refused.F D_behind GBe EC gH
  have GAR := ok_allRefd D__law_all_refused.F D_is_closed D_led_blocks D__law_refused GRC GRL D__law_behind_refused GBR D__law_head_refused GHR
  -- the makers
  have R : Dr P wd K mg base f__law_mixed f__law_filled f__law_draw f__law_signs f__law_string d__law_mixed d__law_filled d__law_draw d__law_signs d__law_string := ⟨D__law_mixed, D__law_filled, D__law_draw, D__law_signs, D__law_string, B⟩
  have D : Dd P wd K mg base f__law_draw d__law_draw := ⟨ok_draw D__law_draw.F B D__law_mixed D__law_filled, D__law_draw.g, D__law_draw.F.kp, D__law_draw.b⟩
  have GT : FnOk P wd K mg base CX0 4 f__law_string d__law_string ["well", "many"] spString := ok_string R
  have GId := ok_idL D__law_id.F D D__law_number
  have GSt := ok_stampL D__law_stamp.F D D__law_number
  have GMe := ok_mem D__law_members.F B D
  have GNm := ok_name D__law_name.F B D
  have GRw := ok_rowL (C := C) D__law_row.F B D
  have GHs := ok_headsL D__law_heads.F B D D__law_stamp GSt D__law_row GRw
  have GBl := ok_blocksL (C := C) (kS := 4) D__law_blocks.F B D D__law_string (GT.mono (by decide))
  have GLs := ok_leasesL (C := C) D__law_leases.F B Z D
  have GVo := ok_voteL (C := C) D__law_vote.F D D__law_stamp GSt D__law_members GMe
  have GTab := ok_tableL D__law_table.F D D__law_number D__law_leases GLs D__law_stamp GSt D__law_vote GVo D__law_members GMe D__law_heads GHs D__law_blocks GBl
  have GStart := ok_startL D__law_start.F B D D__law_unlike (ok_unS D__law_unlike.F Z) (ok_unP D__law_unlike.F Z) D__law_name GNm D__law_id GId D__law_table GTab
  have GAny : ∀ n, FnOk P wd K mg base CX0 (4 + n + 1) f__law_any d__law_any ["well", "deep"] (spAny C n) := ok_anys D__law_any S D D__law_number D__law_name D__law_string GT
  have GCh : FnOk P wd K mg base CX0 7 f__law_changed d__law_changed ["thing", "well"] (spChanged C) := ok_lchanged D__law_changed.F S D D__law_any (GAny 1)
  have GSp : FnOk P wd K mg base CX0 37 f__law_spoilt d__law_spoilt ["thing", "at", "well"] (spSpoilt C 30) := ok_spoilt D__law_spoilt S D__law_changed GCh D__law_nodes 30
  have GNo : FnOk P wd K mg base CX0 30 f__law_nodes d__law_nodes ["thing"] (spNodes C 30) := ok_nodes D__law_nodes S 30
  have GTh : FnOk P wd K mg base CX0 40 f__law_thing d__law_thing ["well", "table"] (spThT C) := ok_thingT D__law_thing.F B D D__law_any ((GAny 3).mono (by decide)) D__law_spoilt (GSp.mono (by decide)) D__law_nodes (GNo.mono (by decide))
  have GW := ok_well (P := P) (w := wd) (base := base) D__law_well.F B
  exact law_core hS hr bare S D D__law_well (GW.mono (by decide)) D__law_start (GStart.mono (by decide)) D__law_thing (GTh.mono (by decide)) D__law_spoilt (GSp.mono (by decide)) D__law_name (GNm.mono (by decide)) JTb LTb D__law_read_holds (GRH.mono (by decide)) D__law_head_refused (GHR.mono (by decide)) LN D__law_all_refused (GAR.mono (by decide))
end
end Hs
namespace Hs
open PySem PySem.Spec PyProof.Rows L2
section
variable {K : PySem.W.Frag} {h : Heap} {mg : Str → Option Value}
theorem df_mk {x : Str} {st : Stmt} {ps : List Str} {f : Addr} {oc : Value} {od an : Option Addr} {sl : Array (Option Value)} {kV dc pm cd ct : Value} (X : K.In h) (G : h.Ns mainGlobals mg)
    (a : PySem.W.nsIn K mainGlobals x = some (some (.ref f))) (l : K.lookup f = some ⟨oc, od, .func (PySem.W.fnOf x x (defArgs st) (defBody st) (defScope st) .none kV dc pm an cd ct), sl⟩) (c : PySem.W.codeIn K cd x = true) (k : PySem.W.keepIn K (.ref f) = true)
    (b : ∀ (kV doc pm : Value) (an : Option Addr) (cdv ct : Value) (us : List Value), us.length = ps.length → bindArgs (PySem.W.fnOf x x (defArgs st) (defBody st) (defScope st) .none kV doc pm an cdv ct) ⟨us, []⟩ = pure (ps.zip us)) :
    Df K mg x st ps f (PySem.W.fnOf x x (defArgs st) (defBody st) (defScope st) .none kV dc pm an cd ct) := by
  have F := fun_mk (st := st) l c k
  exact ⟨F, F.binds b, PySem.W.mg_of X G a⟩
theorem exm_self {S : Addr} (h1 : PySem.W.subIn K (.ref S) (.type "BaseException") = some true) (h2 : PySem.W.isClsIn K S = true) (h3 : PySem.W.typeIn K (.ref S) = some (.type "type")) (h4 : PySem.W.subIn K (.ref S) (.ref S) = some true) :
    PySem.W.exmOne K (.ref S) (.ref S) = some true := by
  have e1 : (PySem.W.subIn K (.ref S) (.type "BaseException") == some true) = true := by rw [h1] <;> rfl
  have e2 : ((PySem.W.clsIn K S).isSome && PySem.W.typeIn K (.ref S) == some (.type "type")) = true := by
    have h2' : (PySem.W.clsIn K S).isSome = true := h2
    rw [h2', h3] <;> rfl
  show (if (PySem.W.subIn K (.ref S) (.type "BaseException") == some true) = true then (if ((PySem.W.clsIn K S).isSome && PySem.W.typeIn K (.ref S) == some (.type "type")) = true then PySem.W.subIn K (.ref S) (.ref S) else none) else none) = some true
  rw [if_pos e1, if_pos e2]
  exact h4
theorem gh_mk {x : Str} {C : Addr} (X : K.In h) (G : h.Ns mainGlobals mg) (a : PySem.W.nsIn K mainGlobals x = some (some (.ref C))) : mg x = some (.ref C) := PySem.W.mg_of X G a
theorem gi_mk {x : Str} {n : Int} {t : Tok} (X : K.In h) (G : h.Ns mainGlobals mg) (a : PySem.W.nsIn K mainGlobals x = some (some (.int n t))) : ∃ t, mg x = some (.int n t) := ⟨t, PySem.W.mg_of X G a⟩
theorem gn_mk {x : Str} (X : K.In h) (G : h.Ns mainGlobals mg) (a : PySem.W.nsIn K mainGlobals x = some none) : mg x = none := PySem.W.mg_none_of X G a
theorem ec_mk {x : Str} {C : Addr} (X : K.In h) (G : h.Ns mainGlobals mg) (a : PySem.W.nsIn K mainGlobals x = some (some (.ref C)))
    (q : PySem.W.excIn K C [.type "ValueError", .type "Exception", .type "BaseException", .type "object"] "ValueError.__new__" = true) (k : PySem.W.keepIn K (.ref C) = true) (b : PySem.W.subIn K (.ref C) (.type "BaseException") = some true)
    (t : PySem.W.typeIn K (.ref C) = some (.type "type")) (i : PySem.W.isClsIn K C = true) (s : PySem.W.subIn K (.ref C) (.ref C) = some true) : Ec K mg x C := ⟨PySem.W.mg_of X G a, q, k, b, t, exm_self b i t s⟩

theorem xc_mk {x : Str} {C : Addr} {nm : Str} {oc : Obj} {cd : ClassData} (X : K.In h) (G : h.Ns mainGlobals mg) (a : PySem.W.nsIn K mainGlobals x = some (some (.ref C)))
    (q : PySem.W.excIn K C [.type "ValueError", .type "Exception", .type "BaseException", .type "object"] "ValueError.__new__" = true) (k : PySem.W.keepIn K (.ref C) = true)
    (c1 : PySem.W.findIn K (.ref C) "__getattribute__" = some (some (.builtin "BaseException.__getattribute__"))) (c2 : PySem.W.findIn K (.ref C) "__getattr__" = some none) (c3 : PySem.W.subIn K (.ref C) (.type "BaseException") = some true) (c4 : PySem.W.hasDictIn K C = true)
    (c5 : PySem.W.findIn K (.ref C) "__class__" = some (some (.builtin "object.__class__"))) (c6 : PySem.W.specialIn K (.builtin "object.__class__") "__get__" = some (some (.builtin "getset_descriptor.__get__"))) (c7 : PySem.W.takesIn K (.builtin "object.__class__") = some true) (c8 : PySem.W.mroIn K C (.type "object") = some true)
    (r1 : K.lookup C = some oc) (r2 : oc.data = .cls cd) (r3 : Str.ofString ((cd.name.toString.cutAt '.').getLastD "") = nm) (r4 : PySem.W.findIn K (.ref C) "__repr__" = some (some (.builtin "BaseException.__repr__")))
    (ki : PySem.W.kitOne K (.ref C) (.type "int") = some false) (kb : PySem.W.kitOne K (.ref C) (.type "bool") = some false) (ks : PySem.W.kitOne K (.ref C) (.type "str") = some false) (kt : PySem.W.kitOne K (.ref C) (.type "tuple") = some false) : Hu.Xc K mg x C nm :=
  ⟨PySem.W.mg_of X G a, q, k, ⟨c1, c2, c3, c4, c5, c6, c7, c8⟩, ⟨⟨oc, cd, r1, r2, r3⟩, r4, c3⟩, ki, kb, ks, kt⟩
theorem eqx_mk {C : Addr} (X : K.In h) (m : PySem.W.mroIn K C (.type "object") = some true) (e : PySem.W.findIn K (.ref C) "__eq__" = some (some (.builtin "object.__eq__"))) (t : PySem.W.subIn K (.ref C) (.type "tuple") = some false) : Eqx K C := ⟨m, e, t⟩
theorem exm_no {S T : Addr} (X : K.In h) (h1 : PySem.W.subIn K (.ref T) (.type "BaseException") = some true) (h2 : PySem.W.isClsIn K T = true) (h3 : PySem.W.typeIn K (.ref T) = some (.type "type")) (h4 : PySem.W.subIn K (.ref S) (.ref T) = some false) : PySem.W.exmOne K (.ref S) (.ref T) = some false := by
  have e1 : (PySem.W.subIn K (.ref T) (.type "BaseException") == some true) = true := by rw [h1] <;> rfl
  have e2 : ((PySem.W.clsIn K T).isSome && PySem.W.typeIn K (.ref T) == some (.type "type")) = true := by
    have h2' : (PySem.W.clsIn K T).isSome = true := h2
    rw [h2', h3] <;> rfl
  show (if (PySem.W.subIn K (.ref T) (.type "BaseException") == some true) = true then (if ((PySem.W.clsIn K T).isSome && PySem.W.typeIn K (.ref T) == some (.type "type")) = true then PySem.W.subIn K (.ref S) (.ref T) else none) else none) = some false
  rw [if_pos e1, if_pos e2]
  exact h4
theorem fh_mk {p q : Addr} {od od2 : Option Addr} {t1 t2 : Tok} {n n2 : Nat} {sl sl2 : Array (Option Value)} (X : K.In h) (G : h.Ns mainGlobals mg) (g : PySem.W.nsIn K mainGlobals "FIRST_HEAD" = some (some (.ref p))) (l : K.lookup p = some ⟨.type "tuple", od, .seq #[.ref q, .none] n, sl⟩) (l2 : K.lookup q = some ⟨.type "tuple", od2, .seq #[.int 0 t1, .int 0 t2] n2, sl2⟩) : ∃ a, Fh K mg a := by
  refine ⟨p, PySem.W.mg_of X G g, fun H => ?_⟩
  have s2 : SqT K H q [.int 0, .int 0] := .inr ⟨_, _, _, l2, rfl, rfl, by show (2 : Nat) ≤ sizeLine; decide, .cons ⟨_, rfl⟩ (.cons ⟨_, rfl⟩ .nil)⟩
  have k2 : Lk K H (.ref q) (.tup [.int 0, .int 0]) := .tup s2 rfl fun i x u h1 h2 => by
    match i, h1, h2 with
    | 0, h1, h2 => cases h1; cases h2; exact .int 0
    | 1, h1, h2 => cases h1; cases h2; exact .int 0
  have s1 : SqT K H p [.ref q, .non] := .inr ⟨_, _, _, l, rfl, rfl, by show (2 : Nat) ≤ sizeLine; decide, .cons rfl (.cons rfl .nil)⟩
  exact .tup s1 rfl fun i x u h1 h2 => by
    match i, h1, h2 with
    | 0, h1, h2 => cases h1; cases h2; exact k2
    | 1, h1, h2 => cases h1; cases h2; exact .non
theorem law_run {l : PySem.W.OpenLaw} {w : World} {f fa : Addr} {oc : Value} {od an : Option Addr} {sl : Array (Option Value)} {kV dc pm cd ct : Value} (X : K.In h) (G : h.Ns mainGlobals mg) (hfa : mg "law" = some (.ref fa))
    (a : PySem.W.nsIn K mainGlobals "law" = some (some (.ref f))) (lk : K.lookup f = some ⟨oc, od, .func (PySem.W.fnOf "law" "law" (defArgs lLaw) (defBody lLaw) (defScope lLaw) .none kV dc pm an cd ct), sl⟩) (c : PySem.W.codeIn K cd "law" = true)
    (A0 : La K w mg) : ∀ (s : Shared) (a : Addr) (ns : List Int) (base : Heap) (H : Hp), K.In base → base.Ns mainGlobals mg → Env0 l.prog w K mg base callerA [] s H → SqL K H a (ns.map V.int) →
        codeAny (model l.prog w) callerA (.call (.ref fa) ⟨[.ref a], []⟩) (CR CX0 [] l.prog w H s (fun v _ => v = .bl true) (fun _ _ _ => False)) s := by
  have e := hfa.symm.trans (PySem.W.mg_of X G a)
  cases e
  exact fun s a ns base H kb gb ev hS => Gd.run_at (k := 45) (us := [.ref a]) (vs := [.ref a]) lk c scLaw ⟨rfl, by decide, by decide⟩ ev (.of_eq rfl) (.cons rfl .nil) rfl (fun room => law_body A0 hS room rfl)
end
end Hs
open PySem PySem.W PyProof.Rows
set_option maxRecDepth 100000 in
set_option maxHeartbeats 0 in
theorem PySem.Challenge.cw_homeshold_k04_tables_judged_and_read_holds : PySem.Challenge.rw_homeshold_k04_tables_judged_and_read.Holds := by
  w_on; o_law; k_head; (case hw => w_witness2)
  k_fill
  refine Gd.walk_at (l := PySem.Challenge.rw_homeshold_k04_tables_judged_and_read) (n := 63) rfl (by decide) rfl (fun w h Y => PySem.W.kIn_of Y) ?F
  case F =>
    intro w mg fa h KX G hmg
    obtain his_integer : ∃ f fd, Hs.Df _ mg "is_integer" Hs.sIsInt ["thing"] f fd := by
      refine' ⟨_, _, Hs.df_mk KX G ?a ?l ?c ?k (fun _ _ _ _ _ _ us hl => match us, hl with | [_], _ => rfl)⟩
      (case a => k_is); (case l => k_is); (case c => k_is); (case k => k_is)
    obtain his_from_one : ∃ f fd, Hs.Df _ mg "is_from_one" Hs.sFromOne ["thing"] f fd := by
      refine' ⟨_, _, Hs.df_mk KX G ?a ?l ?c ?k (fun _ _ _ _ _ _ us hl => match us, hl with | [_], _ => rfl)⟩
      (case a => k_is); (case l => k_is); (case c => k_is); (case k => k_is)
    obtain his_pair : ∃ f fd, Hs.Df _ mg "is_pair" Hs.sPair ["thing"] f fd := by
      refine' ⟨_, _, Hs.df_mk KX G ?a ?l ?c ?k (fun _ _ _ _ _ _ us hl => match us, hl with | [_], _ => rfl)⟩
      (case a => k_is); (case l => k_is); (case c => k_is); (case k => k_is)
    obtain his_signs : ∃ f fd, Hs.Df _ mg "is_signs" Hs.sIsSigns ["thing"] f fd := by
      refine' ⟨_, _, Hs.df_mk KX G ?a ?l ?c ?k (fun _ _ _ _ _ _ us hl => match us, hl with | [_], _ => rfl)⟩
      (case a => k_is); (case l => k_is); (case c => k_is); (case k => k_is)
    obtain his_ascending : ∃ f fd, Hs.Df _ mg "is_ascending" Hs.sAscending ["things"] f fd := by
      refine' ⟨_, _, Hs.df_mk KX G ?a ?l ?c ?k (fun _ _ _ _ _ _ us hl => match us, hl with | [_], _ => rfl)⟩
      (case a => k_is); (case l => k_is); (case c => k_is); (case k => k_is)
    obtain his_home : ∃ f fd, Hs.Df _ mg "is_home" Hs.sHome ["thing"] f fd := by
      refine' ⟨_, _, Hs.df_mk KX G ?a ?l ?c ?k (fun _ _ _ _ _ _ us hl => match us, hl with | [_], _ => rfl)⟩
      (case a => k_is); (case l => k_is); (case c => k_is); (case k => k_is)
    obtain his_hand : ∃ f fd, Hs.Df _ mg "is_hand" Hs.sHand ["thing"] f fd := by
      refine' ⟨_, _, Hs.df_mk KX G ?a ?l ?c ?k (fun _ _ _ _ _ _ us hl => match us, hl with | [_], _ => rfl)⟩
      (case a => k_is); (case l => k_is); (case c => k_is); (case k => k_is)
    obtain his_name : ∃ f fd, Hs.Df _ mg "is_name" Hs.sName ["thing"] f fd := by
      refine' ⟨_, _, Hs.df_mk KX G ?a ?l ?c ?k (fun _ _ _ _ _ _ us hl => match us, hl with | [_], _ => rfl)⟩
      (case a => k_is); (case l => k_is); (case c => k_is); (case k => k_is)
    obtain his_piece : ∃ f fd, Hs.Df _ mg "is_piece" Hs.sPiece ["thing"] f fd := by
      refine' ⟨_, _, Hs.df_mk KX G ?a ?l ?c ?k (fun _ _ _ _ _ _ us hl => match us, hl with | [_], _ => rfl)⟩
      (case a => k_is); (case l => k_is); (case c => k_is); (case k => k_is)
    obtain his_block_id : ∃ f fd, Hs.Df _ mg "is_block_id" Hs.sBlockId ["thing"] f fd := by
      refine' ⟨_, _, Hs.df_mk KX G ?a ?l ?c ?k (fun _ _ _ _ _ _ us hl => match us, hl with | [_], _ => rfl)⟩
      (case a => k_is); (case l => k_is); (case c => k_is); (case k => k_is)
    obtain his_row : ∃ f fd, Hs.Df _ mg "is_row" Hs.sRow ["thing"] f fd := by
      refine' ⟨_, _, Hs.df_mk KX G ?a ?l ?c ?k (fun _ _ _ _ _ _ us hl => match us, hl with | [_], _ => rfl)⟩
      (case a => k_is); (case l => k_is); (case c => k_is); (case k => k_is)
    obtain his_stamp : ∃ f fd, Hs.Df _ mg "is_stamp" Hs.sStamp ["thing"] f fd := by
      refine' ⟨_, _, Hs.df_mk KX G ?a ?l ?c ?k (fun _ _ _ _ _ _ us hl => match us, hl with | [_], _ => rfl)⟩
      (case a => k_is); (case l => k_is); (case c => k_is); (case k => k_is)
    obtain his_members : ∃ f fd, Hs.Df _ mg "is_members" Hs.sMembers ["thing"] f fd := by
      refine' ⟨_, _, Hs.df_mk KX G ?a ?l ?c ?k (fun _ _ _ _ _ _ us hl => match us, hl with | [_], _ => rfl)⟩
      (case a => k_is); (case l => k_is); (case c => k_is); (case k => k_is)
    obtain his_count : ∃ f fd, Hs.Df _ mg "is_count" Hs.sCount ["thing"] f fd := by
      refine' ⟨_, _, Hs.df_mk KX G ?a ?l ?c ?k (fun _ _ _ _ _ _ us hl => match us, hl with | [_], _ => rfl)⟩
      (case a => k_is); (case l => k_is); (case c => k_is); (case k => k_is)
    obtain his_tuple_of : ∃ f fd, Hs.Df _ mg "is_tuple_of" Hs.sTO ["many", "thing"] f fd := by
      refine' ⟨_, _, Hs.df_mk KX G ?a ?l ?c ?k (fun _ _ _ _ _ _ us hl => match us, hl with | [_, _], _ => rfl)⟩
      (case a => k_is); (case l => k_is); (case c => k_is); (case k => k_is)
    obtain his_ahead : ∃ f fd, Hs.Df _ mg "is_ahead" Hs.sAhead ["thing"] f fd := by
      refine' ⟨_, _, Hs.df_mk KX G ?a ?l ?c ?k (fun _ _ _ _ _ _ us hl => match us, hl with | [_], _ => rfl)⟩
      (case a => k_is); (case l => k_is); (case c => k_is); (case k => k_is)
    obtain his_vote : ∃ f fd, Hs.Df _ mg "is_vote" Hs.sVote ["thing"] f fd := by
      refine' ⟨_, _, Hs.df_mk KX G ?a ?l ?c ?k (fun _ _ _ _ _ _ us hl => match us, hl with | [_], _ => rfl)⟩
      (case a => k_is); (case l => k_is); (case c => k_is); (case k => k_is)
    obtain his_heads : ∃ f fd, Hs.Df _ mg "is_heads" Hs.sHeads ["thing"] f fd := by
      refine' ⟨_, _, Hs.df_mk KX G ?a ?l ?c ?k (fun _ _ _ _ _ _ us hl => match us, hl with | [_], _ => rfl)⟩
      (case a => k_is); (case l => k_is); (case c => k_is); (case k => k_is)
    obtain h_is_named_head : ∃ f fd, Hs.Df _ mg "_is_named_head" Hs.sNamed ["thing"] f fd := by
      refine' ⟨_, _, Hs.df_mk KX G ?a ?l ?c ?k (fun _ _ _ _ _ _ us hl => match us, hl with | [_], _ => rfl)⟩
      (case a => k_is); (case l => k_is); (case c => k_is); (case k => k_is)
    obtain his_blocks : ∃ f fd, Hs.Df _ mg "is_blocks" Hs.sBlocks ["thing"] f fd := by
      refine' ⟨_, _, Hs.df_mk KX G ?a ?l ?c ?k (fun _ _ _ _ _ _ us hl => match us, hl with | [_], _ => rfl)⟩
      (case a => k_is); (case l => k_is); (case c => k_is); (case k => k_is)
    obtain h_is_block : ∃ f fd, Hs.Df _ mg "_is_block" Hs.sBlk ["thing"] f fd := by
      refine' ⟨_, _, Hs.df_mk KX G ?a ?l ?c ?k (fun _ _ _ _ _ _ us hl => match us, hl with | [_], _ => rfl)⟩
      (case a => k_is); (case l => k_is); (case c => k_is); (case k => k_is)
    obtain h_are_leases : ∃ f fd, Hs.Df _ mg "_are_leases" Hs.sLeases ["thing"] f fd := by
      refine' ⟨_, _, Hs.df_mk KX G ?a ?l ?c ?k (fun _ _ _ _ _ _ us hl => match us, hl with | [_], _ => rfl)⟩
      (case a => k_is); (case l => k_is); (case c => k_is); (case k => k_is)
    obtain h_is_lease : ∃ f fd, Hs.Df _ mg "_is_lease" Hs.sLease ["thing"] f fd := by
      refine' ⟨_, _, Hs.df_mk KX G ?a ?l ?c ?k (fun _ _ _ _ _ _ us hl => match us, hl with | [_], _ => rfl)⟩
      (case a => k_is); (case l => k_is); (case c => k_is); (case k => k_is)
    obtain h_are_kept : ∃ f fd, Hs.Df _ mg "_are_kept" Hs.sKept ["parts"] f fd := by
      refine' ⟨_, _, Hs.df_mk KX G ?a ?l ?c ?k (fun _ _ _ _ _ _ us hl => match us, hl with | [_], _ => rfl)⟩
      (case a => k_is); (case l => k_is); (case c => k_is); (case k => k_is)
    obtain his_table : ∃ f fd, Hs.Df _ mg "is_table" Hs.sTable ["thing"] f fd := by
      refine' ⟨_, _, Hs.df_mk KX G ?a ?l ?c ?k (fun _ _ _ _ _ _ us hl => match us, hl with | [_], _ => rfl)⟩
      (case a => k_is); (case l => k_is); (case c => k_is); (case k => k_is)
    obtain hheads_by_name : ∃ f fd, Hs.Df _ mg "heads_by_name" Hs.sHeadsBy ["heads"] f fd := by
      refine' ⟨_, _, Hs.df_mk KX G ?a ?l ?c ?k (fun _ _ _ _ _ _ us hl => match us, hl with | [_], _ => rfl)⟩
      (case a => k_is); (case l => k_is); (case c => k_is); (case k => k_is)
    obtain hled_ids : ∃ f fd, Hs.Df _ mg "led_ids" Hs.sLedIds ["heads"] f fd := by
      refine' ⟨_, _, Hs.df_mk KX G ?a ?l ?c ?k (fun _ _ _ _ _ _ us hl => match us, hl with | [_], _ => rfl)⟩
      (case a => k_is); (case l => k_is); (case c => k_is); (case k => k_is)
    obtain hled_by : ∃ f fd, Hs.Df _ mg "led_by" Hs.sLedBy ["heads", "blocks"] f fd := by
      refine' ⟨_, _, Hs.df_mk KX G ?a ?l ?c ?k (fun _ _ _ _ _ _ us hl => match us, hl with | [_, _], _ => rfl)⟩
      (case a => k_is); (case l => k_is); (case c => k_is); (case k => k_is)
    obtain hbehind : ∃ f fd, Hs.Df _ mg "behind" Hs.sBehind ["table", "deed"] f fd := by
      refine' ⟨_, _, Hs.df_mk KX G ?a ?l ?c ?k (fun _ _ _ _ _ _ us hl => match us, hl with | [_, _], _ => rfl)⟩
      (case a => k_is); (case l => k_is); (case c => k_is); (case k => k_is)
    obtain his_closed : ∃ f fd, Hs.Df _ mg "is_closed" Hs.sClosed ["table"] f fd := by
      refine' ⟨_, _, Hs.df_mk KX G ?a ?l ?c ?k (fun _ _ _ _ _ _ us hl => match us, hl with | [_], _ => rfl)⟩
      (case a => k_is); (case l => k_is); (case c => k_is); (case k => k_is)
    obtain hhead_at : ∃ f fd, Hs.Df _ mg "head_at" Hs.sHeadAt ["table", "name"] f fd := by
      refine' ⟨_, _, Hs.df_mk KX G ?a ?l ?c ?k (fun _ _ _ _ _ _ us hl => match us, hl with | [_, _], _ => rfl)⟩
      (case a => k_is); (case l => k_is); (case c => k_is); (case k => k_is)
    obtain hhead_of : ∃ f fd, Hs.Df _ mg "head_of" Hs.sHeadOf ["table", "name"] f fd := by
      refine' ⟨_, _, Hs.df_mk KX G ?a ?l ?c ?k (fun _ _ _ _ _ _ us hl => match us, hl with | [_, _], _ => rfl)⟩
      (case a => k_is); (case l => k_is); (case c => k_is); (case k => k_is)
    obtain hled_blocks : ∃ f fd, Hs.Df _ mg "led_blocks" Hs.sLedBlocks ["table"] f fd := by
      refine' ⟨_, _, Hs.df_mk KX G ?a ?l ?c ?k (fun _ _ _ _ _ _ us hl => match us, hl with | [_], _ => rfl)⟩
      (case a => k_is); (case l => k_is); (case c => k_is); (case k => k_is)
    obtain h_law_mixed : ∃ f fd, Hs.Df _ mg "_law_mixed" Hs.sMixed ["number"] f fd := by
      refine' ⟨_, _, Hs.df_mk KX G ?a ?l ?c ?k (fun _ _ _ _ _ _ us hl => match us, hl with | [_], _ => rfl)⟩
      (case a => k_is); (case l => k_is); (case c => k_is); (case k => k_is)
    obtain h_law_well : ∃ f fd, Hs.Df _ mg "_law_well" Hs.sWell ["script"] f fd := by
      refine' ⟨_, _, Hs.df_mk KX G ?a ?l ?c ?k (fun _ _ _ _ _ _ us hl => match us, hl with | [_], _ => rfl)⟩
      (case a => k_is); (case l => k_is); (case c => k_is); (case k => k_is)
    obtain h_law_filled : ∃ f fd, Hs.Df _ mg "_law_filled" Hs.sFilled ["well"] f fd := by
      refine' ⟨_, _, Hs.df_mk KX G ?a ?l ?c ?k (fun _ _ _ _ _ _ us hl => match us, hl with | [_], _ => rfl)⟩
      (case a => k_is); (case l => k_is); (case c => k_is); (case k => k_is)
    obtain h_law_draw : ∃ f fd, Hs.Df _ mg "_law_draw" Hs.sDraw ["well", "many"] f fd := by
      refine' ⟨_, _, Hs.df_mk KX G ?a ?l ?c ?k (fun _ _ _ _ _ _ us hl => match us, hl with | [_, _], _ => rfl)⟩
      (case a => k_is); (case l => k_is); (case c => k_is); (case k => k_is)
    obtain h_law_number : ∃ f fd, Hs.Df _ mg "_law_number" Hs.lNumber ["well"] f fd := by
      refine' ⟨_, _, Hs.df_mk KX G ?a ?l ?c ?k (fun _ _ _ _ _ _ us hl => match us, hl with | [_], _ => rfl)⟩
      (case a => k_is); (case l => k_is); (case c => k_is); (case k => k_is)
    obtain h_law_signs : ∃ f fd, Hs.Df _ mg "_law_signs" Hs.sSigns [] f fd := by
      refine' ⟨_, _, Hs.df_mk KX G ?a ?l ?c ?k (fun _ _ _ _ _ _ us hl => match us, hl with | [], _ => rfl)⟩
      (case a => k_is); (case l => k_is); (case c => k_is); (case k => k_is)
    obtain h_law_string : ∃ f fd, Hs.Df _ mg "_law_string" Hs.sString ["well", "many"] f fd := by
      refine' ⟨_, _, Hs.df_mk KX G ?a ?l ?c ?k (fun _ _ _ _ _ _ us hl => match us, hl with | [_, _], _ => rfl)⟩
      (case a => k_is); (case l => k_is); (case c => k_is); (case k => k_is)
    obtain h_law_name : ∃ f fd, Hs.Df _ mg "_law_name" Hs.lName ["well"] f fd := by
      refine' ⟨_, _, Hs.df_mk KX G ?a ?l ?c ?k (fun _ _ _ _ _ _ us hl => match us, hl with | [_], _ => rfl)⟩
      (case a => k_is); (case l => k_is); (case c => k_is); (case k => k_is)
    obtain h_law_unlike : ∃ f fd, Hs.Df _ mg "_law_unlike" Hs.lUnlike ["things"] f fd := by
      refine' ⟨_, _, Hs.df_mk KX G ?a ?l ?c ?k (fun _ _ _ _ _ _ us hl => match us, hl with | [_], _ => rfl)⟩
      (case a => k_is); (case l => k_is); (case c => k_is); (case k => k_is)
    obtain h_law_any : ∃ f fd, Hs.Df _ mg "_law_any" Hs.lAny ["well", "deep"] f fd := by
      refine' ⟨_, _, Hs.df_mk KX G ?a ?l ?c ?k (fun _ _ _ _ _ _ us hl => match us, hl with | [_, _], _ => rfl)⟩
      (case a => k_is); (case l => k_is); (case c => k_is); (case k => k_is)
    obtain h_law_nodes : ∃ f fd, Hs.Df _ mg "_law_nodes" Hs.lNodes ["thing"] f fd := by
      refine' ⟨_, _, Hs.df_mk KX G ?a ?l ?c ?k (fun _ _ _ _ _ _ us hl => match us, hl with | [_], _ => rfl)⟩
      (case a => k_is); (case l => k_is); (case c => k_is); (case k => k_is)
    obtain h_law_changed : ∃ f fd, Hs.Df _ mg "_law_changed" Hs.lChanged ["thing", "well"] f fd := by
      refine' ⟨_, _, Hs.df_mk KX G ?a ?l ?c ?k (fun _ _ _ _ _ _ us hl => match us, hl with | [_, _], _ => rfl)⟩
      (case a => k_is); (case l => k_is); (case c => k_is); (case k => k_is)
    obtain h_law_spoilt : ∃ f fd, Hs.Df _ mg "_law_spoilt" Hs.lSpoilt ["thing", "at", "well"] f fd := by
      refine' ⟨_, _, Hs.df_mk KX G ?a ?l ?c ?k (fun _ _ _ _ _ _ us hl => match us, hl with | [_, _, _], _ => rfl)⟩
      (case a => k_is); (case l => k_is); (case c => k_is); (case k => k_is)
    obtain h_law_id : ∃ f fd, Hs.Df _ mg "_law_id" Hs.lId ["well"] f fd := by
      refine' ⟨_, _, Hs.df_mk KX G ?a ?l ?c ?k (fun _ _ _ _ _ _ us hl => match us, hl with | [_], _ => rfl)⟩
      (case a => k_is); (case l => k_is); (case c => k_is); (case k => k_is)
    obtain h_law_stamp : ∃ f fd, Hs.Df _ mg "_law_stamp" Hs.lStamp ["well"] f fd := by
      refine' ⟨_, _, Hs.df_mk KX G ?a ?l ?c ?k (fun _ _ _ _ _ _ us hl => match us, hl with | [_], _ => rfl)⟩
      (case a => k_is); (case l => k_is); (case c => k_is); (case k => k_is)
    obtain h_law_row : ∃ f fd, Hs.Df _ mg "_law_row" Hs.lRow ["well", "ids"] f fd := by
      refine' ⟨_, _, Hs.df_mk KX G ?a ?l ?c ?k (fun _ _ _ _ _ _ us hl => match us, hl with | [_, _], _ => rfl)⟩
      (case a => k_is); (case l => k_is); (case c => k_is); (case k => k_is)
    obtain h_law_members : ∃ f fd, Hs.Df _ mg "_law_members" Hs.lMembers ["well"] f fd := by
      refine' ⟨_, _, Hs.df_mk KX G ?a ?l ?c ?k (fun _ _ _ _ _ _ us hl => match us, hl with | [_], _ => rfl)⟩
      (case a => k_is); (case l => k_is); (case c => k_is); (case k => k_is)
    obtain h_law_heads : ∃ f fd, Hs.Df _ mg "_law_heads" Hs.lHeads ["well", "names", "ids"] f fd := by
      refine' ⟨_, _, Hs.df_mk KX G ?a ?l ?c ?k (fun _ _ _ _ _ _ us hl => match us, hl with | [_, _, _], _ => rfl)⟩
      (case a => k_is); (case l => k_is); (case c => k_is); (case k => k_is)
    obtain h_law_blocks : ∃ f fd, Hs.Df _ mg "_law_blocks" Hs.lBlocks ["well", "ids", "share"] f fd := by
      refine' ⟨_, _, Hs.df_mk KX G ?a ?l ?c ?k (fun _ _ _ _ _ _ us hl => match us, hl with | [_, _, _], _ => rfl)⟩
      (case a => k_is); (case l => k_is); (case c => k_is); (case k => k_is)
    obtain h_law_leases : ∃ f fd, Hs.Df _ mg "_law_leases" Hs.lLeases ["well", "names", "clock"] f fd := by
      refine' ⟨_, _, Hs.df_mk KX G ?a ?l ?c ?k (fun _ _ _ _ _ _ us hl => match us, hl with | [_, _, _], _ => rfl)⟩
      (case a => k_is); (case l => k_is); (case c => k_is); (case k => k_is)
    obtain h_law_vote : ∃ f fd, Hs.Df _ mg "_law_vote" Hs.lVote ["well"] f fd := by
      refine' ⟨_, _, Hs.df_mk KX G ?a ?l ?c ?k (fun _ _ _ _ _ _ us hl => match us, hl with | [_], _ => rfl)⟩
      (case a => k_is); (case l => k_is); (case c => k_is); (case k => k_is)
    obtain h_law_table : ∃ f fd, Hs.Df _ mg "_law_table" Hs.lTable ["well", "names", "ids"] f fd := by
      refine' ⟨_, _, Hs.df_mk KX G ?a ?l ?c ?k (fun _ _ _ _ _ _ us hl => match us, hl with | [_, _, _], _ => rfl)⟩
      (case a => k_is); (case l => k_is); (case c => k_is); (case k => k_is)
    obtain h_law_start : ∃ f fd, Hs.Df _ mg "_law_start" Hs.lStart ["well"] f fd := by
      refine' ⟨_, _, Hs.df_mk KX G ?a ?l ?c ?k (fun _ _ _ _ _ _ us hl => match us, hl with | [_], _ => rfl)⟩
      (case a => k_is); (case l => k_is); (case c => k_is); (case k => k_is)
    obtain h_law_count : ∃ f fd, Hs.Df _ mg "_law_count" Hs.lCount ["thing"] f fd := by
      refine' ⟨_, _, Hs.df_mk KX G ?a ?l ?c ?k (fun _ _ _ _ _ _ us hl => match us, hl with | [_], _ => rfl)⟩
      (case a => k_is); (case l => k_is); (case c => k_is); (case k => k_is)
    obtain h_law_long : ∃ f fd, Hs.Df _ mg "_law_long" Hs.lLong ["thing", "many"] f fd := by
      refine' ⟨_, _, Hs.df_mk KX G ?a ?l ?c ?k (fun _ _ _ _ _ _ us hl => match us, hl with | [_, _], _ => rfl)⟩
      (case a => k_is); (case l => k_is); (case c => k_is); (case k => k_is)
    obtain h_law_rising : ∃ f fd, Hs.Df _ mg "_law_rising" Hs.lRising ["things"] f fd := by
      refine' ⟨_, _, Hs.df_mk KX G ?a ?l ?c ?k (fun _ _ _ _ _ _ us hl => match us, hl with | [_], _ => rfl)⟩
      (case a => k_is); (case l => k_is); (case c => k_is); (case k => k_is)
    obtain h_law_name_fits : ∃ f fd, Hs.Df _ mg "_law_name_fits" Hs.lNameFits ["thing"] f fd := by
      refine' ⟨_, _, Hs.df_mk KX G ?a ?l ?c ?k (fun _ _ _ _ _ _ us hl => match us, hl with | [_], _ => rfl)⟩
      (case a => k_is); (case l => k_is); (case c => k_is); (case k => k_is)
    obtain h_law_hand_fits : ∃ f fd, Hs.Df _ mg "_law_hand_fits" Hs.lHandFits ["thing"] f fd := by
      refine' ⟨_, _, Hs.df_mk KX G ?a ?l ?c ?k (fun _ _ _ _ _ _ us hl => match us, hl with | [_], _ => rfl)⟩
      (case a => k_is); (case l => k_is); (case c => k_is); (case k => k_is)
    obtain h_law_signs_fit : ∃ f fd, Hs.Df _ mg "_law_signs_fit" Hs.lSignsFit ["thing", "least", "most"] f fd := by
      refine' ⟨_, _, Hs.df_mk KX G ?a ?l ?c ?k (fun _ _ _ _ _ _ us hl => match us, hl with | [_, _, _], _ => rfl)⟩
      (case a => k_is); (case l => k_is); (case c => k_is); (case k => k_is)
    obtain h_law_id_fits : ∃ f fd, Hs.Df _ mg "_law_id_fits" Hs.lIdFits ["thing"] f fd := by
      refine' ⟨_, _, Hs.df_mk KX G ?a ?l ?c ?k (fun _ _ _ _ _ _ us hl => match us, hl with | [_], _ => rfl)⟩
      (case a => k_is); (case l => k_is); (case c => k_is); (case k => k_is)
    obtain h_law_stamp_fits : ∃ f fd, Hs.Df _ mg "_law_stamp_fits" Hs.lStampFits ["thing"] f fd := by
      refine' ⟨_, _, Hs.df_mk KX G ?a ?l ?c ?k (fun _ _ _ _ _ _ us hl => match us, hl with | [_], _ => rfl)⟩
      (case a => k_is); (case l => k_is); (case c => k_is); (case k => k_is)
    obtain h_law_row_fits : ∃ f fd, Hs.Df _ mg "_law_row_fits" Hs.lRowFits ["thing"] f fd := by
      refine' ⟨_, _, Hs.df_mk KX G ?a ?l ?c ?k (fun _ _ _ _ _ _ us hl => match us, hl with | [_], _ => rfl)⟩
      (case a => k_is); (case l => k_is); (case c => k_is); (case k => k_is)
    obtain h_law_members_fit : ∃ f fd, Hs.Df _ mg "_law_members_fit" Hs.lMembersFit ["thing"] f fd := by
      refine' ⟨_, _, Hs.df_mk KX G ?a ?l ?c ?k (fun _ _ _ _ _ _ us hl => match us, hl with | [_], _ => rfl)⟩
      (case a => k_is); (case l => k_is); (case c => k_is); (case k => k_is)
    obtain h_law_heads_fit : ∃ f fd, Hs.Df _ mg "_law_heads_fit" Hs.lHeadsFit ["thing"] f fd := by
      refine' ⟨_, _, Hs.df_mk KX G ?a ?l ?c ?k (fun _ _ _ _ _ _ us hl => match us, hl with | [_], _ => rfl)⟩
      (case a => k_is); (case l => k_is); (case c => k_is); (case k => k_is)
    obtain h_law_head_fits : ∃ f fd, Hs.Df _ mg "_law_head_fits" Hs.lHeadFits ["thing"] f fd := by
      refine' ⟨_, _, Hs.df_mk KX G ?a ?l ?c ?k (fun _ _ _ _ _ _ us hl => match us, hl with | [_], _ => rfl)⟩
      (case a => k_is); (case l => k_is); (case c => k_is); (case k => k_is)
    obtain h_law_block_fits : ∃ f fd, Hs.Df _ mg "_law_block_fits" Hs.lBlockFits ["thing"] f fd := by
      refine' ⟨_, _, Hs.df_mk KX G ?a ?l ?c ?k (fun _ _ _ _ _ _ us hl => match us, hl with | [_], _ => rfl)⟩
      (case a => k_is); (case l => k_is); (case c => k_is); (case k => k_is)
    obtain h_law_blocks_fit : ∃ f fd, Hs.Df _ mg "_law_blocks_fit" Hs.lBlocksFit ["thing"] f fd := by
      refine' ⟨_, _, Hs.df_mk KX G ?a ?l ?c ?k (fun _ _ _ _ _ _ us hl => match us, hl with | [_], _ => rfl)⟩
      (case a => k_is); (case l => k_is); (case c => k_is); (case k => k_is)
    obtain h_law_lease_fits : ∃ f fd, Hs.Df _ mg "_law_lease_fits" Hs.lLeaseFits ["thing"] f fd := by
      refine' ⟨_, _, Hs.df_mk KX G ?a ?l ?c ?k (fun _ _ _ _ _ _ us hl => match us, hl with | [_], _ => rfl)⟩
      (case a => k_is); (case l => k_is); (case c => k_is); (case k => k_is)
    obtain h_law_leases_fit : ∃ f fd, Hs.Df _ mg "_law_leases_fit" Hs.lLeasesFit ["thing"] f fd := by
      refine' ⟨_, _, Hs.df_mk KX G ?a ?l ?c ?k (fun _ _ _ _ _ _ us hl => match us, hl with | [_], _ => rfl)⟩
      (case a => k_is); (case l => k_is); (case c => k_is); (case k => k_is)
    obtain h_law_vote_fits : ∃ f fd, Hs.Df _ mg "_law_vote_fits" Hs.lVoteFits ["thing"] f fd := by
      refine' ⟨_, _, Hs.df_mk KX G ?a ?l ?c ?k (fun _ _ _ _ _ _ us hl => match us, hl with | [_], _ => rfl)⟩
      (case a => k_is); (case l => k_is); (case c => k_is); (case k => k_is)
    obtain h_law_ahead_fits : ∃ f fd, Hs.Df _ mg "_law_ahead_fits" Hs.lAheadFits ["thing"] f fd := by
      refine' ⟨_, _, Hs.df_mk KX G ?a ?l ?c ?k (fun _ _ _ _ _ _ us hl => match us, hl with | [_], _ => rfl)⟩
      (case a => k_is); (case l => k_is); (case c => k_is); (case k => k_is)
    obtain h_law_table_fits : ∃ f fd, Hs.Df _ mg "_law_table_fits" Hs.lTableFits ["thing"] f fd := by
      refine' ⟨_, _, Hs.df_mk KX G ?a ?l ?c ?k (fun _ _ _ _ _ _ us hl => match us, hl with | [_], _ => rfl)⟩
      (case a => k_is); (case l => k_is); (case c => k_is); (case k => k_is)
    obtain h_law_alike : ∃ f fd, Hs.Df _ mg "_law_alike" Hs.lAlike ["told", "due"] f fd := by
      refine' ⟨_, _, Hs.df_mk KX G ?a ?l ?c ?k (fun _ _ _ _ _ _ us hl => match us, hl with | [_, _], _ => rfl)⟩
      (case a => k_is); (case l => k_is); (case c => k_is); (case k => k_is)
    obtain h_law_ids_led : ∃ f fd, Hs.Df _ mg "_law_ids_led" Hs.lIdsLed ["table"] f fd := by
      refine' ⟨_, _, Hs.df_mk KX G ?a ?l ?c ?k (fun _ _ _ _ _ _ us hl => match us, hl with | [_], _ => rfl)⟩
      (case a => k_is); (case l => k_is); (case c => k_is); (case k => k_is)
    obtain h_law_head_due : ∃ f fd, Hs.Df _ mg "_law_head_due" Hs.lHeadDue ["table", "name"] f fd := by
      refine' ⟨_, _, Hs.df_mk KX G ?a ?l ?c ?k (fun _ _ _ _ _ _ us hl => match us, hl with | [_, _], _ => rfl)⟩
      (case a => k_is); (case l => k_is); (case c => k_is); (case k => k_is)
    obtain h_law_read_holds : ∃ f fd, Hs.Df _ mg "_law_read_holds" Hs.lReadHolds ["table", "names"] f fd := by
      refine' ⟨_, _, Hs.df_mk KX G ?a ?l ?c ?k (fun _ _ _ _ _ _ us hl => match us, hl with | [_, _], _ => rfl)⟩
      (case a => k_is); (case l => k_is); (case c => k_is); (case k => k_is)
    obtain h_law_thing : ∃ f fd, Hs.Df _ mg "_law_thing" Hs.lThing ["well", "table"] f fd := by
      refine' ⟨_, _, Hs.df_mk KX G ?a ?l ?c ?k (fun _ _ _ _ _ _ us hl => match us, hl with | [_, _], _ => rfl)⟩
      (case a => k_is); (case l => k_is); (case c => k_is); (case k => k_is)
    obtain h_law_refused : ∃ f fd, Hs.Df _ mg "_law_refused" Hs.lRefd ["ask", "thing"] f fd := by
      refine' ⟨_, _, Hs.df_mk KX G ?a ?l ?c ?k (fun _ _ _ _ _ _ us hl => match us, hl with | [_, _], _ => rfl)⟩
      (case a => k_is); (case l => k_is); (case c => k_is); (case k => k_is)
    obtain h_law_head_refused : ∃ f fd, Hs.Df _ mg "_law_head_refused" Hs.lHeadRefd ["thing", "name"] f fd := by
      refine' ⟨_, _, Hs.df_mk KX G ?a ?l ?c ?k (fun _ _ _ _ _ _ us hl => match us, hl with | [_, _], _ => rfl)⟩
      (case a => k_is); (case l => k_is); (case c => k_is); (case k => k_is)
    obtain h_law_behind_refused : ∃ f fd, Hs.Df _ mg "_law_behind_refused" Hs.lBehindRefd ["thing", "deed"] f fd := by
      refine' ⟨_, _, Hs.df_mk KX G ?a ?l ?c ?k (fun _ _ _ _ _ _ us hl => match us, hl with | [_, _], _ => rfl)⟩
      (case a => k_is); (case l => k_is); (case c => k_is); (case k => k_is)
    obtain h_law_all_refused : ∃ f fd, Hs.Df _ mg "_law_all_refused" Hs.lAllRefd ["thing", "name", "odd"] f fd := by
      refine' ⟨_, _, Hs.df_mk KX G ?a ?l ?c ?k (fun _ _ _ _ _ _ us hl => match us, hl with | [_, _, _], _ => rfl)⟩
      (case a => k_is); (case l => k_is); (case c => k_is); (case k => k_is)
    obtain eX : ∃ C CN, Hu.Xc _ mg "NoTable" C "NoTable" ∧ Hs.Eqx _ C ∧ Hs.Ec _ mg "NoTable" C ∧ Hs.Ec _ mg "NoName" CN ∧ PySem.W.exmOne _ (.ref CN) (.ref C) = some false := by
      refine' ⟨_, _, Hs.xc_mk KX G ?a ?xq ?k ?c1 ?c2 ?c3 ?c4 ?c5 ?c6 ?c7 ?c8 ?r1 ?r2 ?r3 ?r4 ?ki ?kb ?ks ?kt, Hs.eqx_mk KX ?q1 ?q2 ?q3, Hs.ec_mk KX G ?a2 ?x2 ?k2 ?b2 ?t2 ?i2 ?s2, Hs.ec_mk KX G ?a3 ?x3 ?k3 ?b3 ?t3 ?i3 ?s3, Hs.exm_no KX ?n1 ?n2 ?n3 ?n4⟩
      (case a => k_is)
      (case xq => k_exc)
      (case k => k_is)
      (case c1 => first | k_is)
      (case c2 => first | k_is)
      (case c3 => first | k_is)
      (case c4 => first | k_is)
      (case c5 => first | k_is)
      (case c6 => first | k_is)
      (case c7 => first | k_is)
      (case c8 => first | k_is)
      (case r1 => first | k_is)
      (case r2 => first | rfl)
      (case r3 => first | decide +kernel | rfl)
      (case r4 => first | k_is)
      (case ki => first | k_is | rfl | decide +kernel)
      (case kb => first | k_is | rfl | decide +kernel)
      (case ks => first | k_is | rfl | decide +kernel)
      (case kt => first | k_is | rfl | decide +kernel)
      (case q1 => first | k_is)
      (case q2 => first | k_is)
      (case q3 => first | k_is)
      (case a2 => k_is); (case x2 => k_exc); (case k2 => k_is); (case b2 => k_is); (case t2 => k_is); (case i2 => k_is); (case s2 => first | rfl | k_is)
      (case a3 => k_is); (case x3 => k_exc); (case k3 => k_is); (case b3 => k_is); (case t3 => k_is); (case i3 => k_is); (case s3 => first | rfl | k_is)
      (case n1 => k_is); (case n2 => k_is); (case n3 => k_is); (case n4 => first | k_is | rfl | decide +kernel)
    have eH : ∃ C, mg "HomeError" = some (.ref C) := by
      refine' ⟨_, Hs.gh_mk KX G ?a⟩
      (case a => k_is)
    obtain eF : ∃ a, Hs.Fh _ mg a := by
      refine' Hs.fh_mk KX G ?g ?l ?l2
      (case g => k_is); (case l => k_is); (case l2 => k_is)
    have nMOST_HOMES : ∃ t, mg "MOST_HOMES" = some (.int 9 t) := by
      refine' Hs.gi_mk KX G ?a
      (case a => k_is)
    have nMOST_HANDS : ∃ t, mg "MOST_HANDS" = some (.int 99 t) := by
      refine' Hs.gi_mk KX G ?a
      (case a => k_is)
    have nMOST_PIECES : ∃ t, mg "MOST_PIECES" = some (.int 12 t) := by
      refine' Hs.gi_mk KX G ?a
      (case a => k_is)
    have nPIECE_SIGNS : ∃ t, mg "PIECE_SIGNS" = some (.int 8 t) := by
      refine' Hs.gi_mk KX G ?a
      (case a => k_is)
    have nNAME_SIGNS : ∃ t, mg "NAME_SIGNS" = some (.int 8 t) := by
      refine' Hs.gi_mk KX G ?a
      (case a => k_is)
    have nEPOCH : ∃ t, mg "EPOCH" = some (.int 0 t) := by
      refine' Hs.gi_mk KX G ?a
      (case a => k_is)
    have nMEMBERS : ∃ t, mg "MEMBERS" = some (.int 1 t) := by
      refine' Hs.gi_mk KX G ?a
      (case a => k_is)
    have nAHEAD : ∃ t, mg "AHEAD" = some (.int 2 t) := by
      refine' Hs.gi_mk KX G ?a
      (case a => k_is)
    have nCLOCK : ∃ t, mg "CLOCK" = some (.int 3 t) := by
      refine' Hs.gi_mk KX G ?a
      (case a => k_is)
    have nHEADS : ∃ t, mg "HEADS" = some (.int 4 t) := by
      refine' Hs.gi_mk KX G ?a
      (case a => k_is)
    have nBLOCKS : ∃ t, mg "BLOCKS" = some (.int 5 t) := by
      refine' Hs.gi_mk KX G ?a
      (case a => k_is)
    have nLEASES : ∃ t, mg "LEASES" = some (.int 6 t) := by
      refine' Hs.gi_mk KX G ?a
      (case a => k_is)
    have nPROMISE : ∃ t, mg "PROMISE" = some (.int 7 t) := by
      refine' Hs.gi_mk KX G ?a
      (case a => k_is)
    have nVOTED : ∃ t, mg "VOTED" = some (.int 8 t) := by
      refine' Hs.gi_mk KX G ?a
      (case a => k_is)
    have nNEXT : ∃ t, mg "NEXT" = some (.int 9 t) := by
      refine' Hs.gi_mk KX G ?a
      (case a => k_is)
    have nMANY_PARTS : ∃ t, mg "MANY_PARTS" = some (.int 10 t) := by
      refine' Hs.gi_mk KX G ?a
      (case a => k_is)
    have nLEASE_TICKS : ∃ t, mg "LEASE_TICKS" = some (.int 8 t) := by
      refine' Hs.gi_mk KX G ?a
      (case a => k_is)
    have b_int : mg "int" = none := by
      refine' Hs.gn_mk KX G ?a
      (case a => k_is)
    have b_len : mg "len" = none := by
      refine' Hs.gn_mk KX G ?a
      (case a => k_is)
    have b_range : mg "range" = none := by
      refine' Hs.gn_mk KX G ?a
      (case a => k_is)
    have b_all : mg "all" = none := by
      refine' Hs.gn_mk KX G ?a
      (case a => k_is)
    have b_isinstance : mg "isinstance" = none := by
      refine' Hs.gn_mk KX G ?a
      (case a => k_is)
    have b_tuple : mg "tuple" = none := by
      refine' Hs.gn_mk KX G ?a
      (case a => k_is)
    have b_list : mg "list" = none := by
      refine' Hs.gn_mk KX G ?a
      (case a => k_is)
    have b_str : mg "str" = none := by
      refine' Hs.gn_mk KX G ?a
      (case a => k_is)
    have b_max : mg "max" = none := by
      refine' Hs.gn_mk KX G ?a
      (case a => k_is)
    have b_bool : mg "bool" = none := by
      refine' Hs.gn_mk KX G ?a
      (case a => k_is)
    have b_sum : mg "sum" = none := by
      refine' Hs.gn_mk KX G ?a
      (case a => k_is)
    have b_repr : mg "repr" = none := by
      refine' Hs.gn_mk KX G ?a
      (case a => k_is)
    have b_sorted : mg "sorted" = none := by
      refine' Hs.gn_mk KX G ?a
      (case a => k_is)
    have b_zip : mg "zip" = none := by
      refine' Hs.gn_mk KX G ?a
      (case a => k_is)
    have b_dict : mg "dict" = none := by
      refine' Hs.gn_mk KX G ?a
      (case a => k_is)
    have B : Hs.Bt mg := ⟨b_int, b_len, b_range, b_all, b_isinstance, b_tuple, b_list, b_str, b_max, b_bool, b_sum, b_repr⟩
    refine' Hs.law_run KX G hmg ?a ?l ?c ⟨B, ⟨b_sorted, b_zip⟩, ⟨nMOST_HOMES, nMOST_HANDS, nMOST_PIECES, nPIECE_SIGNS, nNAME_SIGNS⟩, ⟨nEPOCH, nMEMBERS, nAHEAD, nCLOCK, nHEADS, nBLOCKS, nLEASES, nPROMISE, nVOTED, nNEXT, nMANY_PARTS, nLEASE_TICKS⟩, b_dict, eX, eH, eF, his_integer, his_from_one, his_pair, his_signs, his_ascending, his_home, his_hand, his_name, his_piece, his_block_id, his_row, his_stamp, his_members, his_count, his_tuple_of, his_ahead, his_vote, his_heads, h_is_named_head, his_blocks, h_is_block, h_are_leases, h_is_lease, h_are_kept, his_table, hheads_by_name, hled_ids, hled_by, hbehind, his_closed, hhead_at, hhead_of, hled_blocks, h_law_mixed, h_law_well, h_law_filled, h_law_draw, h_law_number, h_law_signs, h_law_string, h_law_name, h_law_unlike, h_law_any, h_law_nodes, h_law_changed, h_law_spoilt, h_law_id, h_law_stamp, h_law_row, h_law_members, h_law_heads, h_law_blocks, h_law_leases, h_law_vote, h_law_table, h_law_start, h_law_count, h_law_long, h_law_rising, h_law_name_fits, h_law_hand_fits, h_law_signs_fit, h_law_id_fits, h_law_stamp_fits, h_law_row_fits, h_law_members_fit, h_law_heads_fit, h_law_head_fits, h_law_block_fits, h_law_blocks_fit, h_law_lease_fits, h_law_leases_fit, h_law_vote_fits, h_law_ahead_fits, h_law_table_fits, h_law_alike, h_law_ids_led, h_law_head_due, h_law_read_holds, h_law_thing, h_law_refused, h_law_head_refused, h_law_behind_refused, h_law_all_refused⟩
    (case a => k_is); (case l => k_is); (case c => k_is)
