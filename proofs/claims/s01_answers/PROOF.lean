import PyProof.Rows.All
import Wide.All
import OpenK.AllK
import Wide.FinOn
import Open.SpecLaws
import KE.OsGo
import HandS.ForSpec
import HandS.ForMost
import HandS.Walk
import HandS.Evl
import HandS.Codes
import HandS.WideBits
import HandS.CallLocal
import HandS.Rev
import HandS.Conv
import PySem.Challenge.RW_bitdevice_s01_answers
set_option Elab.async false
set_option linter.all false
set_option maxRecDepth 100000
set_option maxHeartbeats 2000000
/-! Rules of my own: a list's item read by values, a written dict with whole numbers for keys, a call of what an expression gives. -/
namespace Bd
open PySem PySem.Spec PyProof.Rows L2
section
variable {X : Cx}
/-- xs[i] by values, for xs[i] op= e; no sign below 0 -/
def gIxL (K : PySem.W.Frag) : V → V → Hp → VK → Prop := fun x y H Q => ∃ p xs i v, x = .ref p ∧ y = .int i ∧ 0 ≤ i ∧ SqL K H p xs ∧ xs[i.toNat]? = some v ∧ Q v H
theorem get_list : PGet X (gIxL X.K) := by
  intro pins s σ H x y v u Q I rx ry h
  obtain ⟨p, xs, i, z, rfl, rfl, h0, hq, he, q⟩ := h
  cases rx
  obtain ⟨t, rfl⟩ := ry
  obtain ⟨its, r, pl, hz⟩ := I.list hq
  obtain ⟨w, ew, rw'⟩ := r.get he
  have hl := r.length
  have hn := line63
  have hlt : i.toNat < xs.length := (List.getElem?_eq_some_iff.mp he).1
  exact wpAny_getItem_list pl.isList h0 (by omega) (by simpa using ew) ⟨z, H, I, rw', q⟩
end
/-- a written dict's pairs, all keys whole numbers -/
def tabOf (es : List DictEntry) : Option (List (Int × Value)) := match es with
  | [] => some []
  | e :: r => match e.key with
    | .int k _ => if e.hash = hashInt k then (tabOf r).map fun l => (k, e.val) :: l else none
    | _ => none
def pickT {α : Type} (kvs : List (Int × α)) (k : Int) : Option α := match kvs with
  | [] => none
  | (j, v) :: r => if j = k then some v else pickT r k
/-- at d: a written dict of these pairs -/
structure KTab (K : PySem.W.Frag) (d : Addr) (kvs : List (Int × Value)) : Prop where
  ex : ∃ (es : Array DictEntry) (n : Nat), K.lookup d = some ⟨.type "dict", none, .dict es n, #[]⟩ ∧ tabOf es.toList = some kvs
  low : (d == sysModules) = false
theorem tabOf_keys : ∀ {es : List DictEntry} {kvs : List (Int × Value)}, tabOf es = some kvs → ∀ e ∈ es, ∃ k t, e.key = .int k t ∧ e.hash = hashInt k
  | [], _, _, e, he => absurd he (by simp)
  | d :: r, kvs, h, e, he => by
    unfold tabOf at h
    split at h
    · rename_i k t hk
      split at h
      · rename_i hh
        cases hr : tabOf r with
        | none => rw [hr] at h; cases h
        | some l =>
          rcases List.mem_cons.mp he with rfl | m
          · exact ⟨k, t, hk, hh⟩
          · exact tabOf_keys hr e m
      · cases h
    · cases h
theorem tabOf_find : ∀ {es : List DictEntry} {kvs : List (Int × Value)} (k : Int), tabOf es = some kvs → (es.find? fun e => Value.isInt k e.key).map (·.val) = pickT kvs k
  | [], kvs, k, h => by
    cases h
    rfl
  | d :: r, kvs, k, h => by
    unfold tabOf at h
    split at h
    · rename_i j t hk
      split at h
      · rename_i hh
        cases hr : tabOf r with
        | none => rw [hr] at h; cases h
        | some l =>
          rw [hr] at h
          cases h
          have ih := tabOf_find k hr
          rw [List.find?_cons, hk]
          unfold pickT
          by_cases e : j = k
          · subst e
            simp [Value.isInt]
          · have e1 : Value.isInt k (Value.int j t) = false := by simp [Value.isInt]; first | omega | exact fun q => e q.symm | exact e
            rw [e1, if_neg e]
            exact ih
      · cases h
    · cases h
theorem KTab.map {K : PySem.W.Frag} {d : Addr} {kvs : List (Int × Value)} {prog : Program} {w : World} {h : Heap} (T : KTab K d kvs) (KX : K.In h) : h.MapOf (intKind prog w) d (fun k => pickT kvs k) := by
  obtain ⟨es, n, hl, ht⟩ := T.ex
  refine ⟨_, es, n, KX _ _ hl, ⟨rfl, rfl, rfl⟩, rfl, fun e he => ?_, fun k => ?_⟩
  · obtain ⟨k, t, h1, h2⟩ := tabOf_keys ht e (Array.mem_toList_iff.mpr he)
    exact ⟨k, by rw [h1]; exact intKind_is prog w k t, h2⟩
  · have q := tabOf_find k ht
    obtain ⟨l⟩ := es
    unfold findBy
    rw [List.find?_toArray]
    exact q
section
variable {X : Cx}
/-- d[k], d a written dict -/
def rIxK (K : PySem.W.Frag) : R2 := fun x y H Q => ∃ d kvs k u v, x = .ref d ∧ y = .int k ∧ KTab K d kvs ∧ pickT kvs k = some u ∧ RelV v u ∧ Q v H
theorem ix_ktab : IxR X (rIxK X.K) := by
  intro value slice pins s σ H x y v u Q I rx ry h hs
  obtain ⟨d, kvs, k, u0, v0, rfl, rfl, T, hp, ru, q⟩ := h
  obtain rfl : v = Value.ref d := rx
  obtain ⟨t, rfl⟩ := ry
  have hm := T.map (prog := X.prog) (w := X.w) I.kIn
  exact tail_any hm.typeIs slot_dict_getitem.lookup (wpAny_getItem_of (intKind_is X.prog X.w k t) hm hp ⟨v0, H, I.tok _, ru, q⟩) hs
/-- k in d -/
def rInK (K : PySem.W.Frag) : R2 := fun x y H Q => ∃ d kvs k, x = .int k ∧ y = .ref d ∧ KTab K d kvs ∧ Q (.bl (pickT kvs k).isSome) H
theorem op_in_ktab : OpR X (compareOp .In) (rInK X.K) := by
  intro pins s σ H x y v u Q I rx ry h
  obtain ⟨d, kvs, k, rfl, rfl, T, q⟩ := h
  obtain ⟨t, rfl⟩ := rx
  cases ry
  exact wpAny_in_of (intKind_is X.prog X.w k t) T.low (T.map (prog := X.prog) (w := X.w) I.kIn) ⟨.bl _, H, I.tok _, rfl, q⟩
/-- a call of what an expression gives: a def whose promise goes with its address -/
def tCallE (P : Program) (w : World) (K : PySem.W.Frag) (mg : Str → Option Value) (base : Heap) (k : Nat) (tf : TE) (t : TA) : TE := fun σ H Q =>
  tf σ H fun x H1 => ∃ f sp, x = .ref f ∧ Held P w K mg base k f sp ∧ t σ H1 fun vs H2 => sp vs H2 Q (fun _ _ _ => False)
theorem pe_callE {k : Nat} {o i e : Expr} {es : List Expr} {tf : TE} {t : TA} {p pos : Pos} (hr : Room k X.A) (hf : PE X (.Subscript o i p) tf) (ha : PA X (e :: es) t)
    (he : starEach (e :: es) X.env = (false, eval e X.env) :: starEach es X.env := by rfl)
    (hpl : (backTo pos (starEach es X.env)).any (·.1) = false := by rfl) : PE X (.Call (.Subscript o i p) (e :: es) [] pos) (tCallE X.prog X.w X.K X.mg X.base k tf t) := by
  refine ⟨fun pins s σ H Q I h => ?_⟩
  have arm : eval (.Call (.Subscript o i p) (e :: es) [] pos) X.env = (do
    callWith pos (← eval (.Subscript o i p) X.env) [] (backTo pos (starEach (e :: es) X.env)) (backToKw pos (keywordEach [] X.env))) := rfl
  rw [arm]
  refine wpAny_bind (thn (hf.run pins s σ H _ I h) fun u s1 ⟨x, H1, I1, rx, f, sp, ex, hS, ht⟩ => ?_)
  subst ex
  obtain rfl : u = Value.ref f := rx
  obtain ⟨fd, ps, F, hk, hb⟩ := hS.ex
  refine PySem.W.callWith_K (h₀ := X.base) I.ok.mod.kin hk (thn (ha.run pos pins s1 σ _ _ I1 ht) fun us s2 ⟨vs, H2, I2, r, q⟩ => ⟨I2.kIn, ?_⟩) he hpl
  refine run_fn (dvs := []) (E := fun _ _ _ => False) F hr hb .nil (fun _ _ _ _ _ _ _ z => z.elim) I2 r ?_
  rw [List.append_nil]
  exact q
end
theorem held_up {P : Program} {w : World} {K : PySem.W.Frag} {mg : Str → Option Value} {base : Heap} {j k : Nat} {f : Addr} {sp : Sp} (h : Held P w K mg base j f sp) (l : j ≤ k) : Held P w K mg base k f sp := by
  obtain ⟨fd, ps, F, hk, hb⟩ := h.ex
  exact ⟨fd, ps, F.mono l, hk, hb⟩
/-! ### defs and methods as they are called: C8's bundles, filled from a def's own promise -/
section
variable {P : Program} {w : World} {K : PySem.W.Frag} {mg : Str → Option Value} {base : Heap} {k : Nat} {sp : Sp} {f : Addr} {fd : FuncData} {ps : List Str} {st : Stmt}
theorem cal_mk {x q : Str} (F : Fun K x q st f fd) (g : mg x = some (.ref f)) (b : Binds K fd ps []) (h : FnOk P w K mg base CX0 k f fd ps sp) :
    C8.Cal P w K mg base k x sp [] := ⟨f, fd, ps, [], h, g, F.kp, b, .nil⟩
theorem met_mk {C : Addr} {m q : Str} (c : Cls K C) (me : Meth K C m f) (b : Binds K fd ps []) (h : FnOk P w K mg base CX0 k f fd ps sp) :
    C8.Met P w K mg base k C m sp [] := ⟨f, fd, ps, [], c, me, h, b, .nil⟩
theorem mak_mk {C : Addr} {x : Str} (M : Mk K C f) (g : mg x = some (.ref C)) (b : Binds K fd ps []) (h : FnOk P w K mg base CX0 k f fd ps sp) :
    C8.Mak P w K mg base k x C sp [] := ⟨f, fd, ps, [], M, h, g, b, .nil⟩
theorem held_mk {x q : Str} (F : Fun K x q st f fd) (b : Binds K fd ps []) (h : FnOk P w K mg base CX0 k f fd ps sp) :
    Held P w K mg base k f sp := ⟨fd, ps, h, F.kp, b⟩
end
theorem pe_new0 {X : Cx} {k j : Nat} {C : Addr} {x : Str} {sp : Sp} {p pos : Pos} (c : C8.Mak X.prog X.w X.K X.mg X.base k x C sp [])
    (hr : Room j X.A) (hk : k + 1 ≤ j) (hg : Gl X x) (hq : (x == ("__debug__" : Str)) = false := by decide) :
    PE X (.Call (.Name x p) [] [] pos) (tMake C sp [] E0 tNil) := by
  obtain ⟨f, fd, ps, ds, M, F, hm, b, d⟩ := c.ex
  exact pe_make0 M F (hr.mono hk) hg hm b d pass0 hq
end Bd

set_option Elab.async false
set_option linter.all false
set_option maxRecDepth 100000
set_option maxHeartbeats 2000000
/-! list(reversed(xs)) -/
namespace Bd
open PySem PySem.Spec PyProof.Rows L2
section
variable {prog : Program} {w : World} {A : Around} {E : Value → Shared → Prop} {s : Shared}
/-- what the new list S takes from the walk back over l -/
theorem ext_rev {R : Result → Shared → Prop} {I l S : Addr} {its : Array Value} (hh : A.handled = none) (hI : s.heap.IsRevIter I l ((its.size : Int) - 1))
    (hl : s.heap.IsList l its) (hlI : l ≠ I) (hn : its.size ≤ sizeLine) (nI : S ≠ I) (nl : S ≠ l) (hS : s.heap.get? S = some { cls := .type "list", data := .seq #[] })
    (hR : ∀ (h' : Heap) (tk : Nat) (acc : Array Value) (c : Nat), (∀ b o, b ≠ S → b ≠ I → s.heap.get? b = some o → h'.get? b = some o) →
      h'.get? S = some { cls := .type "list", dict := none, data := .seq acc c, slots := #[] } → ItemsOf (fun i v => its[its.size - 1 - i]? = some v) acc its.size →
      R (.ok (.ret .none)) { s with heap := h', toks := tk }) :
    wpAny (model prog w) A.in1 (Builtin.List.listExtendWith (.ref S) (.ref I) .none)
      (fun fin s' => match fin with | .done f => R (.ok f) s' | .again c' => c'.quiet = true ∧ codeAny (model prog w) A c' R s') (fun e s' => R (.error e) s') s := by
  have W := (Walks.listRev (prog := prog) (w := w) (A := A.in1) hh I l hlI its).toS
  have hSf : S ∉ [I, l] := by
    simp only [List.mem_cons, List.not_mem_nil, or_false, not_or]
    exact ⟨nI, nl⟩
  have hT : s.TypeIs (.ref I) "list_reverseiterator" := hI.typeIs
  have no : Builtin.List.listSameRef (.ref S) (.ref I) = false := by simp [Builtin.List.listSameRef, nI]
  unfold Builtin.List.listExtendWith
  refine wpAny_bind (wpAny_typeOf hT ?_)
  rw [if_neg (by rw [no]; decide)]
  refine wpAny_bind (wpAny_pyIter_revIter hI (wpAny_bind (wpAny_holding ?_)))
  unfold Builtin.List.listLengthHint
  refine wpAny_bind (wpAny_specialOf hT RT.nolen_lri ?_)
  show wpAny _ A.in1 (specialOf (Value.ref I) (Str.ofString "__length_hint__") >>= _) _ _ s
  refine wpAny_bind (wpAny_specialOf hT RT.hint_lri ?_)
  generalize hz : ("list_reverseiterator.__length_hint__" : String) = z
  wp_delta
  rw [show splitId z = some ("list_reverseiterator", "__length_hint__") by subst hz; decide +kernel]
  subst hz
  refine wpAny_bind (wpAny_isInstance (b := true) hT (by rw [isSubtype_type]; kernel_rfl) (wpAny_pure ?_))
  rw [if_neg (by decide)]
  have st : s.heap.IsRevIter I l ((its.size : Int) - 1 - ((0 : Nat) : Int)) := by
    rw [show ((its.size : Nat) : Int) - 1 - ((0 : Nat) : Int) = (its.size : Int) - 1 by omega]
    exact hI
  refine wpAny_pure ⟨plainId_quiet F.plain_extend_loop _, codeAny_extend_loopS W hn _ hSf _ its.size 0 _ _ _ rfl (Nat.zero_le _) ⟨Nat.zero_le _, st, hl⟩ hS (ItemsOf.nil _) fun s' acc c hm hS' hacc => ?_⟩
  rw [Moved.eq_with hm]
  refine hR s'.heap s'.toks acc c (fun b o n1 n2 e => hm.heap b o (fun m => ?_) e) hS' hacc
  rcases List.mem_cons.mp m with k | k
  · exact n1 k
  · exact n2 (List.mem_singleton.mp k)
theorem call_list_rev {I l : Addr} {its : Array Value} {Q : Value → Shared → Prop} (hh : A.handled = none) (hI : s.heap.IsRevIter I l ((its.size : Int) - 1))
    (hl : s.heap.IsList l its) (hlI : l ≠ I) (hn : its.size ≤ sizeLine)
    (hQ : ∀ (h' : Heap) (tk : Nat) (acc : Array Value) (c : Nat), (∀ b o, b ≠ I → s.heap.get? b = some o → h'.get? b = some o) →
      h'.get? s.heap.objs.size = some { cls := .type "list", dict := none, data := .seq acc c, slots := #[] } → ItemsOf (fun i v => its[its.size - 1 - i]? = some v) acc its.size →
      Q (.ref s.heap.objs.size) { s with heap := h', toks := tk }) : wpAny (model prog w) A (call (.type "list") [.ref I]) Q E s := by
  have hIlt : I < s.heap.objs.size := by
    obtain ⟨o, ho, _⟩ := id hI
    exact Heap.lt_size ho
  have hllt : l < s.heap.objs.size := by
    obtain ⟨o, ho, _⟩ := id hl
    exact Heap.lt_size ho
  refine callType_codes (Q₁ := fun obj s₁ => obj = .ref s.heap.objs.size ∧ s₁ = { s with heap := s.heap.push { cls := .type "list", data := .seq #[] } })
    F.called_list (F.typeCall_list_1 _) F.entry_list_init (code_list_new _ ⟨rfl, rfl⟩) fun obj s₁ h₁ => ?_
  obtain ⟨rfl, rfl⟩ := h₁
  have hS : (s.heap.push { cls := .type "list", data := .seq #[] }).get? s.heap.objs.size = some { cls := .type "list", data := .seq #[] } :=
    Heap.get?_push_size _ rfl
  refine ⟨⟨_, hS, rfl⟩, F.args_list_init_2 _ _, ?_⟩
  show wpAny _ _ (do
    let old ← Builtin.List.listItems (.ref s.heap.objs.size)
    Builtin.List.listUpdate (.ref s.heap.objs.size) (fun _ => #[])
    letGo old.toList.reverse
    Builtin.List.listExtendWith (.ref s.heap.objs.size) (.ref I) .none) _ _ _
  refine wpAny_bind ?_
  unfold Builtin.List.listItems
  refine wpAny_bind (wpAny_seqItems hS rfl (wpAny_pure ?_))
  show wpAny _ _ (updateSeq s.heap.objs.size (fun _ => #[]) >>= fun _ =>
    letGo (#[] : Array Value).toList.reverse >>= fun _ => Builtin.List.listExtendWith (.ref s.heap.objs.size) (.ref I) .none) _ _ _
  refine wpAny_bind (wpAny_updateSeq hS rfl ?_)
  have hS2 := Heap.get?_update_self (Obj.mapSeq (fun _ => (#[] : Array Value))) hS rfl
  have oth : ∀ b o, b ≠ s.heap.objs.size → s.heap.get? b = some o →
      ((s.heap.push { cls := .type "list", data := .seq #[] }).update s.heap.objs.size (Obj.mapSeq (fun _ => (#[] : Array Value)))).get? b = some o :=
    fun b o hb e => (Heap.get?_update_other _ _ (Ne.symm hb)).trans (Heap.get?_push_of_some _ e)
  refine wpAny_bind (wpAny_letGo ?_)
  refine ext_rev (A := A.in1) hh (hI.at fun o e => oth I o (Nat.ne_of_lt hIlt) e) (by
    obtain ⟨o, ho, r⟩ := id hl
    exact ⟨o, oth l o (Nat.ne_of_lt hllt) ho, r⟩) hlI hn (Nat.ne_of_gt hIlt) (Nat.ne_of_gt hllt) hS2 fun h' tk acc c hk hS' hacc => ?_
  exact ⟨rfl, hQ h' tk acc c (fun b o nI e => hk b o (Nat.ne_of_lt (Heap.lt_size e)) nI (oth b o (Nat.ne_of_lt (Heap.lt_size e)) e)) hS' hacc⟩
end
def tListRev (K : PySem.W.Frag) (te : TE) : TE := fun σ H Q => te σ H fun x H1 => ∃ a xs, x = .ref a ∧ SqL K H1 a xs ∧ ∀ p, H1 p = none → Q (.ref p) (upd H1 p (.lst xs.reverse))
theorem pe_listRev {X : Cx} {e : Expr} {te : TE} {p p2 pos pos2 : Pos} (hc : X.calm = true) (hg : Gl X "list") (hm : X.mg "list" = none) (hg2 : Gl X "reversed") (hm2 : X.mg "reversed" = none) (he : PE X e te)
    (na : starEach [.Call (.Name "reversed" p2) [e] [] pos2] X.env = (false, eval (.Call (.Name "reversed" p2) [e] [] pos2) X.env) :: starEach [] X.env := by rfl)
    (nb : starEach [e] X.env = (false, eval e X.env) :: starEach [] X.env := by rfl) :
    PE X (.Call (.Name "list" p) [.Call (.Name "reversed" p2) [e] [] pos2] [] pos) (tListRev X.K te) := by
  refine ⟨fun pins s σ H Q I h => ?_⟩
  refine Call_ (ld_blt I hg hm boot_list (PyProof.Rows.callWith_type1 (args_cons ?_ na) na))
  refine Call_ (ld_blt I hg2 hm2 boot_reversed (PyProof.Rows.callWith_type1 (args_cons (thn (he.run pins s σ H _ I h) fun u s1 ⟨x, H1, I1, rx, a, xs, ex, hs, q⟩ => args_nil ?_) nb) nb))
  subst ex
  obtain rfl : u = Value.ref a := rx
  obtain ⟨its, rv, pl, hz⟩ := I1.list hs
  have hl := rv.length
  refine call_reversed_list pl.isList ?_
  refine args_nil ?_
  have k0 : ∀ b o, s1.heap.get? b = some o → (s1.heap.push (revObj a ((its.toArray.size : Int) - 1))).get? b = some o := fun b o e => Heap.get?_push_of_some _ e
  have alt : a ≠ s1.heap.objs.size := by
    obtain ⟨o, ho, _⟩ := pl.isList
    exact Nat.ne_of_lt (Heap.lt_size ho)
  refine call_list_rev (its := its.toArray) (l := a) (I := s1.heap.objs.size) (I1.ok.hd hc) ⟨_, Heap.get?_push_size _ rfl, rfl, rfl⟩ (pl.isList.push _) alt (by simp only [List.size_toArray]; omega) fun h' tk acc c hk e' hi => ?_
  have kp : ∀ b o, s1.heap.get? b = some o → h'.get? b = some o := fun b o e => hk b o (Nat.ne_of_lt (Heap.lt_size e)) (k0 b o e)
  have big : s1.heap.objs.size ≤ (s1.heap.push (revObj a ((its.toArray.size : Int) - 1))).objs.size := by
    show _ ≤ (s1.heap.objs.push _).size
    rw [Array.size_push]
    exact Nat.le_succ _
  refine ⟨.ref (s1.heap.push (revObj a ((its.toArray.size : Int) - 1))).objs.size, upd H1 (s1.heap.push (revObj a ((its.toArray.size : Int) - 1))).objs.size (.lst xs.reverse),
    I1.laid (t' := tk) kp big (show ObjOk X.prog X.w _ _ _ (.lst xs.reverse) from ⟨?_, acc.toList, c, ?_, ?_⟩), rfl, q _ (I1.hok.fresh big)⟩
  · rw [List.length_reverse]
    exact hz
  · obtain ⟨n1, n2⟩ := hi
    have la : acc.toList.length = xs.length := by
      simp only [Array.length_toList, n1, List.size_toArray]
      exact hl.symm
    refine vals_of_at (by rw [List.length_reverse]; exact la.symm) fun j x u hx hu => ?_
    have hj : j < xs.length := by
      have := (List.getElem?_eq_some_iff.mp hx).1
      rwa [List.length_reverse] at this
    rw [List.getElem?_reverse hj] at hx
    have h2 := n2 j u (by rw [← hu, Array.getElem?_toList])
    have h3 : its[xs.length - 1 - j]? = some u := by
      rw [← h2]
      simp [hl]
    obtain ⟨w', hw, rw'⟩ := rv.get hx
    rw [h3] at hw
    rw [Option.some.inj hw]
    exact rw'
  · rw [Array.toArray_toList]
    exact e'
end Bd

set_option Elab.async false
set_option linter.all false
set_option maxRecDepth 100000
set_option maxHeartbeats 2000000
namespace Bd
open PySem PySem.Spec PyProof.Rows L2
/-- a module's whole number -/
def GI (mg : Str → Option Value) (x : Str) (i : Int) : Prop := ∃ t, mg x = some (.int i t)
theorem pe_gi {X : Cx} {x : Str} {i : Int} {pos : Pos} (hg : Gl X x) (h : GI X.mg x i) (hd : (x == ("__debug__" : Str)) = false := by decide) : PE X (.Name x pos) (tC (.int i)) := by
  obtain ⟨t, e⟩ := h
  exact pe_glob hg e ⟨t, rfl⟩ hd
/-- a module's object -/
theorem pe_gr {X : Cx} {x : Str} {a : Addr} {pos : Pos} (hg : Gl X x) (h : X.mg x = some (.ref a)) (hd : (x == ("__debug__" : Str)) = false := by decide) : PE X (.Name x pos) (tC (.ref a)) := pe_glob (v := .ref a) hg h rfl hd
/-- the i-th statement of the text -/
def topS (i : Nat) : Stmt := PySem.Challenge.pw_bitdevice_s01_answers.main.body.getD i (.Pass ⟨0, 0, 0, 0⟩)
abbrev s___init__ : Stmt := inClass (topS 14) 0
abbrev n___init__ : List Str := ["self"]
theorem sc___init__ : FnScope n___init__ ["self"] (defScope s___init__) := ⟨rfl, rfl, rfl, by decide +kernel, rfl, by decide +kernel, by decide +kernel⟩
abbrev s_begin : Stmt := inClass (topS 14) 1
abbrev n_begin : List Str := ["self", "unit", "sizes", "size"]
theorem sc_begin : FnScope n_begin ["self", "unit", "sizes"] (defScope s_begin) := ⟨rfl, rfl, rfl, by decide +kernel, rfl, by decide +kernel, by decide +kernel⟩
abbrev s_has_places : Stmt := inClass (topS 14) 2
abbrev n_has_places : List Str := ["self", "table", "place", "many"]
theorem sc_has_places : FnScope n_has_places ["self", "table", "place", "many"] (defScope s_has_places) := ⟨rfl, rfl, rfl, by decide +kernel, rfl, by decide +kernel, by decide +kernel⟩
abbrev s_set_value : Stmt := inClass (topS 14) 3
abbrev n_set_value : List Str := ["self", "table", "place", "value"]
theorem sc_set_value : FnScope n_set_value ["self", "table", "place", "value"] (defScope s_set_value) := ⟨rfl, rfl, rfl, by decide +kernel, rfl, by decide +kernel, by decide +kernel⟩
abbrev s_get_value : Stmt := inClass (topS 14) 4
abbrev n_get_value : List Str := ["self", "table", "place"]
theorem sc_get_value : FnScope n_get_value ["self", "table", "place"] (defScope s_get_value) := ⟨rfl, rfl, rfl, by decide +kernel, rfl, by decide +kernel, by decide +kernel⟩
abbrev s_row_at : Stmt := inClass (topS 14) 5
abbrev n_row_at : List Str := ["self", "table", "place", "many"]
theorem sc_row_at : FnScope n_row_at ["self", "table", "place", "many"] (defScope s_row_at) := ⟨rfl, rfl, rfl, by decide +kernel, rfl, by decide +kernel, by decide +kernel⟩
abbrev s_put_row : Stmt := inClass (topS 14) 6
abbrev n_put_row : List Str := ["self", "table", "place", "fresh", "k", "value"]
theorem sc_put_row : FnScope n_put_row ["self", "table", "place", "fresh"] (defScope s_put_row) := ⟨rfl, rfl, rfl, by decide +kernel, rfl, by decide +kernel, by decide +kernel⟩
abbrev s_tally : Stmt := inClass (topS 14) 7
abbrev n_tally : List Str := ["self", "which"]
theorem sc_tally : FnScope n_tally ["self", "which"] (defScope s_tally) := ⟨rfl, rfl, rfl, by decide +kernel, rfl, by decide +kernel, by decide +kernel⟩
abbrev s_clear_tallies : Stmt := inClass (topS 14) 8
abbrev n_clear_tallies : List Str := ["self"]
theorem sc_clear_tallies : FnScope n_clear_tallies ["self"] (defScope s_clear_tallies) := ⟨rfl, rfl, rfl, by decide +kernel, rfl, by decide +kernel, by decide +kernel⟩
abbrev s_number_at : Stmt := topS 16
abbrev n_number_at : List Str := ["row", "k"]
theorem sc_number_at : FnScope n_number_at ["row", "k"] (defScope s_number_at) := ⟨rfl, rfl, rfl, by decide +kernel, rfl, by decide +kernel, by decide +kernel⟩
abbrev s_bytes_of_numbers : Stmt := topS 17
abbrev n_bytes_of_numbers : List Str := ["numbers", "row", "number"]
theorem sc_bytes_of_numbers : FnScope n_bytes_of_numbers ["numbers"] (defScope s_bytes_of_numbers) := ⟨rfl, rfl, rfl, by decide +kernel, rfl, by decide +kernel, by decide +kernel⟩
abbrev s_numbers_of_bytes : Stmt := topS 18
abbrev n_numbers_of_bytes : List Str := ["row", "k"]
theorem sc_numbers_of_bytes : FnScope n_numbers_of_bytes ["row"] (defScope s_numbers_of_bytes) := ⟨rfl, rfl, rfl, by decide +kernel, rfl, by decide +kernel, by decide +kernel⟩
abbrev s_counted : Stmt := topS 19
abbrev n_counted : List Str := ["row"]
theorem sc_counted : FnScope n_counted ["row"] (defScope s_counted) := ⟨rfl, rfl, rfl, by decide +kernel, rfl, by decide +kernel, by decide +kernel⟩
abbrev s_bytes_for_bits : Stmt := topS 20
abbrev n_bytes_for_bits : List Str := ["many"]
theorem sc_bytes_for_bits : FnScope n_bytes_for_bits ["many"] (defScope s_bytes_for_bits) := ⟨rfl, rfl, rfl, by decide +kernel, rfl, by decide +kernel, by decide +kernel⟩
abbrev s_bytes_of_bits : Stmt := topS 21
abbrev n_bytes_of_bits : List Str := ["bits", "row", "k", "bit"]
theorem sc_bytes_of_bits : FnScope n_bytes_of_bits ["bits"] (defScope s_bytes_of_bits) := ⟨rfl, rfl, rfl, by decide +kernel, rfl, by decide +kernel, by decide +kernel⟩
abbrev s_bits_of_bytes : Stmt := topS 22
abbrev n_bits_of_bytes : List Str := ["row", "many", "k"]
theorem sc_bits_of_bytes : FnScope n_bits_of_bytes ["row", "many"] (defScope s_bits_of_bytes) := ⟨rfl, rfl, rfl, by decide +kernel, rfl, by decide +kernel, by decide +kernel⟩
abbrev s_is_read_of_bits : Stmt := topS 38
abbrev n_is_read_of_bits : List Str := ["request"]
theorem sc_is_read_of_bits : FnScope n_is_read_of_bits ["request"] (defScope s_is_read_of_bits) := ⟨rfl, rfl, rfl, by decide +kernel, rfl, by decide +kernel, by decide +kernel⟩
abbrev s_is_read_of_numbers : Stmt := topS 39
abbrev n_is_read_of_numbers : List Str := ["request"]
theorem sc_is_read_of_numbers : FnScope n_is_read_of_numbers ["request"] (defScope s_is_read_of_numbers) := ⟨rfl, rfl, rfl, by decide +kernel, rfl, by decide +kernel, by decide +kernel⟩
abbrev s_is_write_of_coil : Stmt := topS 40
abbrev n_is_write_of_coil : List Str := ["request"]
theorem sc_is_write_of_coil : FnScope n_is_write_of_coil ["request"] (defScope s_is_write_of_coil) := ⟨rfl, rfl, rfl, by decide +kernel, rfl, by decide +kernel, by decide +kernel⟩
abbrev s_is_write_of_kept : Stmt := topS 41
abbrev n_is_write_of_kept : List Str := ["request"]
theorem sc_is_write_of_kept : FnScope n_is_write_of_kept ["request"] (defScope s_is_write_of_kept) := ⟨rfl, rfl, rfl, by decide +kernel, rfl, by decide +kernel, by decide +kernel⟩
abbrev s_is_mask_of_kept : Stmt := topS 42
abbrev n_is_mask_of_kept : List Str := ["request"]
theorem sc_is_mask_of_kept : FnScope n_is_mask_of_kept ["request"] (defScope s_is_mask_of_kept) := ⟨rfl, rfl, rfl, by decide +kernel, rfl, by decide +kernel, by decide +kernel⟩
abbrev s_is_alone : Stmt := topS 43
abbrev n_is_alone : List Str := ["request"]
theorem sc_is_alone : FnScope n_is_alone ["request"] (defScope s_is_alone) := ⟨rfl, rfl, rfl, by decide +kernel, rfl, by decide +kernel, by decide +kernel⟩
abbrev s_ends_with_row : Stmt := topS 44
abbrev n_ends_with_row : List Str := ["request", "k", "size"]
theorem sc_ends_with_row : FnScope n_ends_with_row ["request", "k", "size"] (defScope s_ends_with_row) := ⟨rfl, rfl, rfl, by decide +kernel, rfl, by decide +kernel, by decide +kernel⟩
abbrev s_is_write_of_coils : Stmt := topS 45
abbrev n_is_write_of_coils : List Str := ["request", "many"]
theorem sc_is_write_of_coils : FnScope n_is_write_of_coils ["request"] (defScope s_is_write_of_coils) := ⟨rfl, rfl, rfl, by decide +kernel, rfl, by decide +kernel, by decide +kernel⟩
abbrev s_is_write_of_kept_row : Stmt := topS 46
abbrev n_is_write_of_kept_row : List Str := ["request", "many"]
theorem sc_is_write_of_kept_row : FnScope n_is_write_of_kept_row ["request"] (defScope s_is_write_of_kept_row) := ⟨rfl, rfl, rfl, by decide +kernel, rfl, by decide +kernel, by decide +kernel⟩
abbrev s_is_write_and_read : Stmt := topS 47
abbrev n_is_write_and_read : List Str := ["request", "written"]
theorem sc_is_write_and_read : FnScope n_is_write_and_read ["request"] (defScope s_is_write_and_read) := ⟨rfl, rfl, rfl, by decide +kernel, rfl, by decide +kernel, by decide +kernel⟩
abbrev s_is_known_check : Stmt := topS 48
abbrev n_is_known_check : List Str := ["check"]
theorem sc_is_known_check : FnScope n_is_known_check ["check"] (defScope s_is_known_check) := ⟨rfl, rfl, rfl, by decide +kernel, rfl, by decide +kernel, by decide +kernel⟩
abbrev s_is_check : Stmt := topS 49
abbrev n_is_check : List Str := ["request"]
theorem sc_is_check : FnScope n_is_check ["request"] (defScope s_is_check) := ⟨rfl, rfl, rfl, by decide +kernel, rfl, by decide +kernel, by decide +kernel⟩
abbrev s_is_known : Stmt := topS 51
abbrev n_is_known : List Str := ["request"]
theorem sc_is_known : FnScope n_is_known ["request"] (defScope s_is_known) := ⟨rfl, rfl, rfl, by decide +kernel, rfl, by decide +kernel, by decide +kernel⟩
abbrev s_has_right_form : Stmt := topS 52
abbrev n_has_right_form : List Str := ["request"]
theorem sc_has_right_form : FnScope n_has_right_form ["request"] (defScope s_has_right_form) := ⟨rfl, rfl, rfl, by decide +kernel, rfl, by decide +kernel, by decide +kernel⟩
abbrev s_table_read_by : Stmt := topS 53
abbrev n_table_read_by : List Str := ["function"]
theorem sc_table_read_by : FnScope n_table_read_by ["function"] (defScope s_table_read_by) := ⟨rfl, rfl, rfl, by decide +kernel, rfl, by decide +kernel, by decide +kernel⟩
abbrev s_spans_of : Stmt := topS 54
abbrev n_spans_of : List Str := ["request", "function"]
theorem sc_spans_of : FnScope n_spans_of ["request"] (defScope s_spans_of) := ⟨rfl, rfl, rfl, by decide +kernel, rfl, by decide +kernel, by decide +kernel⟩
abbrev s_reason_against : Stmt := topS 55
abbrev n_reason_against : List Str := ["device", "request", "span"]
theorem sc_reason_against : FnScope n_reason_against ["device", "request"] (defScope s_reason_against) := ⟨rfl, rfl, rfl, by decide +kernel, rfl, by decide +kernel, by decide +kernel⟩
abbrev s_count_bounds : Stmt := topS 60
abbrev n_count_bounds : List Str := ["function", "bounds"]
theorem sc_count_bounds : FnScope n_count_bounds ["function"] (defScope s_count_bounds) := ⟨rfl, rfl, rfl, by decide +kernel, rfl, by decide +kernel, by decide +kernel⟩
abbrev s_places_reached : Stmt := topS 61
abbrev n_places_reached : List Str := ["function", "count"]
theorem sc_places_reached : FnScope n_places_reached ["function", "count"] (defScope s_places_reached) := ⟨rfl, rfl, rfl, by decide +kernel, rfl, by decide +kernel, by decide +kernel⟩
abbrev s_may_be_asked : Stmt := topS 62
abbrev n_may_be_asked : List Str := ["function", "at", "count", "bounds"]
theorem sc_may_be_asked : FnScope n_may_be_asked ["function", "at", "count"] (defScope s_may_be_asked) := ⟨rfl, rfl, rfl, by decide +kernel, rfl, by decide +kernel, by decide +kernel⟩
abbrev s_numbers_behind_place : Stmt := topS 63
abbrev n_numbers_behind_place : List Str := ["function", "count", "values"]
theorem sc_numbers_behind_place : FnScope n_numbers_behind_place ["function", "count", "values"] (defScope s_numbers_behind_place) := ⟨rfl, rfl, rfl, by decide +kernel, rfl, by decide +kernel, by decide +kernel⟩
abbrev s_row_behind_numbers : Stmt := topS 64
abbrev n_row_behind_numbers : List Str := ["function", "values", "value"]
theorem sc_row_behind_numbers : FnScope n_row_behind_numbers ["function", "values"] (defScope s_row_behind_numbers) := ⟨rfl, rfl, rfl, by decide +kernel, rfl, by decide +kernel, by decide +kernel⟩
abbrev s_ask : Stmt := topS 65
abbrev n_ask : List Str := ["function", "at", "count", "values", "numbers"]
theorem sc_ask : FnScope n_ask ["function", "at", "count", "values"] (defScope s_ask) := ⟨rfl, rfl, rfl, by decide +kernel, rfl, by decide +kernel, by decide +kernel⟩
abbrev s_tells_refusal : Stmt := topS 66
abbrev n_tells_refusal : List Str := ["request", "answer"]
theorem sc_tells_refusal : FnScope n_tells_refusal ["request", "answer"] (defScope s_tells_refusal) := ⟨rfl, rfl, rfl, by decide +kernel, rfl, by decide +kernel, by decide +kernel⟩
abbrev s_read_values : Stmt := topS 67
abbrev n_read_values : List Str := ["request", "answer", "many", "of_bits", "size", "row"]
theorem sc_read_values : FnScope n_read_values ["request", "answer"] (defScope s_read_values) := ⟨rfl, rfl, rfl, by decide +kernel, rfl, by decide +kernel, by decide +kernel⟩
abbrev s_is_confirmed : Stmt := topS 68
abbrev n_is_confirmed : List Str := ["request", "answer"]
theorem sc_is_confirmed : FnScope n_is_confirmed ["request", "answer"] (defScope s_is_confirmed) := ⟨rfl, rfl, rfl, by decide +kernel, rfl, by decide +kernel, by decide +kernel⟩
abbrev s_read : Stmt := topS 69
abbrev n_read : List Str := ["request", "answer"]
theorem sc_read : FnScope n_read ["request", "answer"] (defScope s_read) := ⟨rfl, rfl, rfl, by decide +kernel, rfl, by decide +kernel, by decide +kernel⟩
abbrev s_read_bits : Stmt := topS 72
abbrev n_read_bits : List Str := ["device", "request", "bits"]
theorem sc_read_bits : FnScope n_read_bits ["device", "request"] (defScope s_read_bits) := ⟨rfl, rfl, rfl, by decide +kernel, rfl, by decide +kernel, by decide +kernel⟩
abbrev s_answer_with_numbers : Stmt := topS 73
abbrev n_answer_with_numbers : List Str := ["device", "request", "table", "numbers"]
theorem sc_answer_with_numbers : FnScope n_answer_with_numbers ["device", "request", "table"] (defScope s_answer_with_numbers) := ⟨rfl, rfl, rfl, by decide +kernel, rfl, by decide +kernel, by decide +kernel⟩
abbrev s_read_numbers : Stmt := topS 74
abbrev n_read_numbers : List Str := ["device", "request"]
theorem sc_read_numbers : FnScope n_read_numbers ["device", "request"] (defScope s_read_numbers) := ⟨rfl, rfl, rfl, by decide +kernel, rfl, by decide +kernel, by decide +kernel⟩
abbrev s_write_coil : Stmt := topS 75
abbrev n_write_coil : List Str := ["device", "request", "bit"]
theorem sc_write_coil : FnScope n_write_coil ["device", "request"] (defScope s_write_coil) := ⟨rfl, rfl, rfl, by decide +kernel, rfl, by decide +kernel, by decide +kernel⟩
abbrev s_write_kept : Stmt := topS 76
abbrev n_write_kept : List Str := ["device", "request"]
theorem sc_write_kept : FnScope n_write_kept ["device", "request"] (defScope s_write_kept) := ⟨rfl, rfl, rfl, by decide +kernel, rfl, by decide +kernel, by decide +kernel⟩
abbrev s_mask_kept : Stmt := topS 77
abbrev n_mask_kept : List Str := ["device", "request", "place", "stay", "fresh", "old"]
theorem sc_mask_kept : FnScope n_mask_kept ["device", "request"] (defScope s_mask_kept) := ⟨rfl, rfl, rfl, by decide +kernel, rfl, by decide +kernel, by decide +kernel⟩
abbrev s_write_coils : Stmt := topS 78
abbrev n_write_coils : List Str := ["device", "request", "bits"]
theorem sc_write_coils : FnScope n_write_coils ["device", "request"] (defScope s_write_coils) := ⟨rfl, rfl, rfl, by decide +kernel, rfl, by decide +kernel, by decide +kernel⟩
abbrev s_write_kept_row : Stmt := topS 79
abbrev n_write_kept_row : List Str := ["device", "request"]
theorem sc_write_kept_row : FnScope n_write_kept_row ["device", "request"] (defScope s_write_kept_row) := ⟨rfl, rfl, rfl, by decide +kernel, rfl, by decide +kernel, by decide +kernel⟩
abbrev s_write_and_read : Stmt := topS 80
abbrev n_write_and_read : List Str := ["device", "request"]
theorem sc_write_and_read : FnScope n_write_and_read ["device", "request"] (defScope s_write_and_read) := ⟨rfl, rfl, rfl, by decide +kernel, rfl, by decide +kernel, by decide +kernel⟩
abbrev s_read_status : Stmt := topS 81
abbrev n_read_status : List Str := ["device", "request", "coils", "k", "bit"]
theorem sc_read_status : FnScope n_read_status ["device", "request"] (defScope s_read_status) := ⟨rfl, rfl, rfl, by decide +kernel, rfl, by decide +kernel, by decide +kernel⟩
abbrev s_read_went_well : Stmt := topS 82
abbrev n_read_went_well : List Str := ["device", "request"]
theorem sc_read_went_well : FnScope n_read_went_well ["device", "request"] (defScope s_read_went_well) := ⟨rfl, rfl, rfl, by decide +kernel, rfl, by decide +kernel, by decide +kernel⟩
abbrev s_check_device : Stmt := topS 83
abbrev n_check_device : List Str := ["device", "request", "check"]
theorem sc_check_device : FnScope n_check_device ["device", "request"] (defScope s_check_device) := ⟨rfl, rfl, rfl, by decide +kernel, rfl, by decide +kernel, by decide +kernel⟩
abbrev s_carry_out : Stmt := topS 85
abbrev n_carry_out : List Str := ["device", "request", "reason", "answer"]
theorem sc_carry_out : FnScope n_carry_out ["device", "request"] (defScope s_carry_out) := ⟨rfl, rfl, rfl, by decide +kernel, rfl, by decide +kernel, by decide +kernel⟩
abbrev s_crc : Stmt := topS 87
abbrev n_crc : List Str := ["row", "total", "part", "turn", "lost"]
theorem sc_crc : FnScope n_crc ["row"] (defScope s_crc) := ⟨rfl, rfl, rfl, by decide +kernel, rfl, by decide +kernel, by decide +kernel⟩
abbrev s_lrc : Stmt := topS 88
abbrev n_lrc : List Str := ["row"]
theorem sc_lrc : FnScope n_lrc ["row"] (defScope s_lrc) := ⟨rfl, rfl, rfl, by decide +kernel, rfl, by decide +kernel, by decide +kernel⟩
abbrev s_take_request : Stmt := topS 96
abbrev n_take_request : List Str := ["device", "unit", "request"]
theorem sc_take_request : FnScope n_take_request ["device", "unit", "request"] (defScope s_take_request) := ⟨rfl, rfl, rfl, by decide +kernel, rfl, by decide +kernel, by decide +kernel⟩
abbrev s_crc_bytes : Stmt := topS 97
abbrev n_crc_bytes : List Str := ["row"]
theorem sc_crc_bytes : FnScope n_crc_bytes ["row"] (defScope s_crc_bytes) := ⟨rfl, rfl, rfl, by decide +kernel, rfl, by decide +kernel, by decide +kernel⟩
abbrev s_rtu_frame : Stmt := topS 98
abbrev n_rtu_frame : List Str := ["row"]
theorem sc_rtu_frame : FnScope n_rtu_frame ["row"] (defScope s_rtu_frame) := ⟨rfl, rfl, rfl, by decide +kernel, rfl, by decide +kernel, by decide +kernel⟩
abbrev s_is_rtu_frame : Stmt := topS 99
abbrev n_is_rtu_frame : List Str := ["frame"]
theorem sc_is_rtu_frame : FnScope n_is_rtu_frame ["frame"] (defScope s_is_rtu_frame) := ⟨rfl, rfl, rfl, by decide +kernel, rfl, by decide +kernel, by decide +kernel⟩
abbrev s_answer_rtu : Stmt := topS 100
abbrev n_answer_rtu : List Str := ["device", "frame", "answer"]
theorem sc_answer_rtu : FnScope n_answer_rtu ["device", "frame"] (defScope s_answer_rtu) := ⟨rfl, rfl, rfl, by decide +kernel, rfl, by decide +kernel, by decide +kernel⟩
abbrev s_digit_value : Stmt := topS 101
abbrev n_digit_value : List Str := ["sign"]
theorem sc_digit_value : FnScope n_digit_value ["sign"] (defScope s_digit_value) := ⟨rfl, rfl, rfl, by decide +kernel, rfl, by decide +kernel, by decide +kernel⟩
abbrev s_digit_sign : Stmt := topS 102
abbrev n_digit_sign : List Str := ["value"]
theorem sc_digit_sign : FnScope n_digit_sign ["value"] (defScope s_digit_sign) := ⟨rfl, rfl, rfl, by decide +kernel, rfl, by decide +kernel, by decide +kernel⟩
abbrev s_ascii_frame : Stmt := topS 103
abbrev n_ascii_frame : List Str := ["row", "signs", "part"]
theorem sc_ascii_frame : FnScope n_ascii_frame ["row"] (defScope s_ascii_frame) := ⟨rfl, rfl, rfl, by decide +kernel, rfl, by decide +kernel, by decide +kernel⟩
abbrev s_bytes_of_digits : Stmt := topS 104
abbrev n_bytes_of_digits : List Str := ["signs", "sign", "digits", "k"]
theorem sc_bytes_of_digits : FnScope n_bytes_of_digits ["signs"] (defScope s_bytes_of_digits) := ⟨rfl, rfl, rfl, by decide +kernel, rfl, by decide +kernel, by decide +kernel⟩
abbrev s_bytes_of_line : Stmt := topS 105
abbrev n_bytes_of_line : List Str := ["signs"]
theorem sc_bytes_of_line : FnScope n_bytes_of_line ["signs"] (defScope s_bytes_of_line) := ⟨rfl, rfl, rfl, by decide +kernel, rfl, by decide +kernel, by decide +kernel⟩
abbrev s_answer_ascii : Stmt := topS 106
abbrev n_answer_ascii : List Str := ["device", "signs", "row", "answer"]
theorem sc_answer_ascii : FnScope n_answer_ascii ["device", "signs"] (defScope s_answer_ascii) := ⟨rfl, rfl, rfl, by decide +kernel, rfl, by decide +kernel, by decide +kernel⟩
abbrev s_is_tcp_frame : Stmt := topS 107
abbrev n_is_tcp_frame : List Str := ["frame"]
theorem sc_is_tcp_frame : FnScope n_is_tcp_frame ["frame"] (defScope s_is_tcp_frame) := ⟨rfl, rfl, rfl, by decide +kernel, rfl, by decide +kernel, by decide +kernel⟩
abbrev s_answer_tcp : Stmt := topS 108
abbrev n_answer_tcp : List Str := ["device", "frame", "unit", "body"]
theorem sc_answer_tcp : FnScope n_answer_tcp ["device", "frame"] (defScope s_answer_tcp) := ⟨rfl, rfl, rfl, by decide +kernel, rfl, by decide +kernel, by decide +kernel⟩
abbrev s_call_begin : Stmt := topS 111
abbrev n_call_begin : List Str := ["device", "numbers", "rows"]
theorem sc_call_begin : FnScope n_call_begin ["device", "numbers", "rows"] (defScope s_call_begin) := ⟨rfl, rfl, rfl, by decide +kernel, rfl, by decide +kernel, by decide +kernel⟩
abbrev s_call_set : Stmt := topS 112
abbrev n_call_set : List Str := ["device", "numbers", "rows"]
theorem sc_call_set : FnScope n_call_set ["device", "numbers", "rows"] (defScope s_call_set) := ⟨rfl, rfl, rfl, by decide +kernel, rfl, by decide +kernel, by decide +kernel⟩
abbrev s_call_get : Stmt := topS 113
abbrev n_call_get : List Str := ["device", "numbers", "rows"]
theorem sc_call_get : FnScope n_call_get ["device", "numbers", "rows"] (defScope s_call_get) := ⟨rfl, rfl, rfl, by decide +kernel, rfl, by decide +kernel, by decide +kernel⟩
abbrev s_call_pdu : Stmt := topS 114
abbrev n_call_pdu : List Str := ["device", "numbers", "rows"]
theorem sc_call_pdu : FnScope n_call_pdu ["device", "numbers", "rows"] (defScope s_call_pdu) := ⟨rfl, rfl, rfl, by decide +kernel, rfl, by decide +kernel, by decide +kernel⟩
abbrev s_call_rtu : Stmt := topS 115
abbrev n_call_rtu : List Str := ["device", "numbers", "rows"]
theorem sc_call_rtu : FnScope n_call_rtu ["device", "numbers", "rows"] (defScope s_call_rtu) := ⟨rfl, rfl, rfl, by decide +kernel, rfl, by decide +kernel, by decide +kernel⟩
abbrev s_call_ascii : Stmt := topS 116
abbrev n_call_ascii : List Str := ["device", "numbers", "rows"]
theorem sc_call_ascii : FnScope n_call_ascii ["device", "numbers", "rows"] (defScope s_call_ascii) := ⟨rfl, rfl, rfl, by decide +kernel, rfl, by decide +kernel, by decide +kernel⟩
abbrev s_call_tcp : Stmt := topS 117
abbrev n_call_tcp : List Str := ["device", "numbers", "rows"]
theorem sc_call_tcp : FnScope n_call_tcp ["device", "numbers", "rows"] (defScope s_call_tcp) := ⟨rfl, rfl, rfl, by decide +kernel, rfl, by decide +kernel, by decide +kernel⟩
abbrev s_call_counts : Stmt := topS 118
abbrev n_call_counts : List Str := ["device", "numbers", "rows"]
theorem sc_call_counts : FnScope n_call_counts ["device", "numbers", "rows"] (defScope s_call_counts) := ⟨rfl, rfl, rfl, by decide +kernel, rfl, by decide +kernel, by decide +kernel⟩
abbrev s_call_crc : Stmt := topS 119
abbrev n_call_crc : List Str := ["device", "numbers", "rows"]
theorem sc_call_crc : FnScope n_call_crc ["device", "numbers", "rows"] (defScope s_call_crc) := ⟨rfl, rfl, rfl, by decide +kernel, rfl, by decide +kernel, by decide +kernel⟩
abbrev s_call_lrc : Stmt := topS 120
abbrev n_call_lrc : List Str := ["device", "numbers", "rows"]
theorem sc_call_lrc : FnScope n_call_lrc ["device", "numbers", "rows"] (defScope s_call_lrc) := ⟨rfl, rfl, rfl, by decide +kernel, rfl, by decide +kernel, by decide +kernel⟩
abbrev s_call_ask : Stmt := topS 121
abbrev n_call_ask : List Str := ["device", "numbers", "rows"]
theorem sc_call_ask : FnScope n_call_ask ["device", "numbers", "rows"] (defScope s_call_ask) := ⟨rfl, rfl, rfl, by decide +kernel, rfl, by decide +kernel, by decide +kernel⟩
abbrev s_call_read : Stmt := topS 122
abbrev n_call_read : List Str := ["device", "numbers", "rows"]
theorem sc_call_read : FnScope n_call_read ["device", "numbers", "rows"] (defScope s_call_read) := ⟨rfl, rfl, rfl, by decide +kernel, rfl, by decide +kernel, by decide +kernel⟩
abbrev s_rows_from : Stmt := topS 125
abbrev n_rows_from : List Str := ["calls", "at", "many", "rows", "start", "end"]
theorem sc_rows_from : FnScope n_rows_from ["calls", "at", "many"] (defScope s_rows_from) := ⟨rfl, rfl, rfl, by decide +kernel, rfl, by decide +kernel, by decide +kernel⟩
abbrev s_answers : Stmt := topS 126
abbrev n_answers : List Str := ["calls", "device", "given", "at", "shape", "behind", "rows", "answer", "row"]
theorem sc_answers : FnScope n_answers ["calls"] (defScope s_answers) := ⟨rfl, rfl, rfl, by decide +kernel, rfl, by decide +kernel, by decide +kernel⟩
structure Ad where
  C : Addr
  GREATEST_VALUES : Addr
  FORMS : Addr
  UNCOUNTED : Addr
  CARRIERS : Addr
  CARRIED_OUT_FOR_ALL : Addr
  ANY_DEVICE : Addr
  LINE_END : Addr
  SHAPES : Addr
  SHAPES_0 : Addr
  SHAPES_1 : Addr
  SHAPES_2 : Addr
  SHAPES_3 : Addr
  SHAPES_4 : Addr
  SHAPES_5 : Addr
  SHAPES_6 : Addr
  SHAPES_7 : Addr
  SHAPES_8 : Addr
  SHAPES_9 : Addr
  SHAPES_10 : Addr
  SHAPES_11 : Addr
  CALLS : Addr
  f_is_read_of_bits : Addr
  f_is_read_of_numbers : Addr
  f_is_write_of_coil : Addr
  f_is_write_of_kept : Addr
  f_is_alone : Addr
  f_is_check : Addr
  f_is_write_of_coils : Addr
  f_is_write_of_kept_row : Addr
  f_is_mask_of_kept : Addr
  f_is_write_and_read : Addr
  f_read_bits : Addr
  f_read_numbers : Addr
  f_write_coil : Addr
  f_write_kept : Addr
  f_read_status : Addr
  f_check_device : Addr
  f_read_went_well : Addr
  f_write_coils : Addr
  f_write_kept_row : Addr
  f_mask_kept : Addr
  f_write_and_read : Addr
  f_call_begin : Addr
  f_call_set : Addr
  f_call_get : Addr
  f_call_pdu : Addr
  f_call_rtu : Addr
  f_call_ascii : Addr
  f_call_tcp : Addr
  f_call_counts : Addr
  f_call_crc : Addr
  f_call_lrc : Addr
  f_call_ask : Addr
  f_call_read : Addr
structure Txt (K : PySem.W.Frag) (mg : Str → Option Value) (A : Ad) : Prop where
  cl : Cls K A.C
  g_Device : mg "Device" = some (.ref A.C)
  n_unit : NoAttr K A.C "unit"
  n_tables : NoAttr K A.C "tables"
  n_tallies : NoAttr K A.C "tallies"
  g_OUT_OF_RANGE : GI mg "OUT_OF_RANGE" (-2)
  g_COILS : GI mg "COILS" (0)
  g_INPUTS : GI mg "INPUTS" (1)
  g_KEPT : GI mg "KEPT" (2)
  g_READ_ONLY : GI mg "READ_ONLY" (3)
  g_GREATEST_VALUES : mg "GREATEST_VALUES" = some (.ref A.GREATEST_VALUES)
  t_GREATEST_VALUES : ∀ H, SqT K H A.GREATEST_VALUES [.int 1, .int 1, .int 65535, .int 65535]
  g_GREATEST_SIZE : GI mg "GREATEST_SIZE" (65536)
  g_FRAMES_RIGHT : GI mg "FRAMES_RIGHT" (0)
  g_FRAMES_WRONG : GI mg "FRAMES_WRONG" (1)
  g_REFUSALS : GI mg "REFUSALS" (2)
  g_FRAMES_FOR_IT : GI mg "FRAMES_FOR_IT" (3)
  g_FRAMES_FOR_ALL : GI mg "FRAMES_FOR_ALL" (4)
  g_WENT_WELL : GI mg "WENT_WELL" (5)
  g_NO_REASON : GI mg "NO_REASON" (0)
  g_NO_SUCH_FUNCTION : GI mg "NO_SUCH_FUNCTION" (1)
  g_NO_SUCH_PLACE : GI mg "NO_SUCH_PLACE" (2)
  g_WRONG_FORM : GI mg "WRONG_FORM" (3)
  g_COIL_ON : GI mg "COIL_ON" (65280)
  g_MOST_BITS_READ : GI mg "MOST_BITS_READ" (2000)
  g_MOST_NUMBERS_READ : GI mg "MOST_NUMBERS_READ" (125)
  g_MOST_COILS_WRITTEN : GI mg "MOST_COILS_WRITTEN" (1968)
  g_MOST_KEPT_WRITTEN : GI mg "MOST_KEPT_WRITTEN" (123)
  g_MOST_KEPT_WRITTEN_AND_READ : GI mg "MOST_KEPT_WRITTEN_AND_READ" (121)
  g_ECHO : GI mg "ECHO" (0)
  g_CLEAR_COUNTS : GI mg "CLEAR_COUNTS" (10)
  g_FIRST_COUNT : GI mg "FIRST_COUNT" (11)
  g_LAST_COUNT : GI mg "LAST_COUNT" (15)
  g_FORMS : mg "FORMS" = some (.ref A.FORMS)
  k_FORMS : KTab K A.FORMS [(1, .ref A.f_is_read_of_bits), (2, .ref A.f_is_read_of_bits), (3, .ref A.f_is_read_of_numbers), (4, .ref A.f_is_read_of_numbers), (5, .ref A.f_is_write_of_coil), (6, .ref A.f_is_write_of_kept), (7, .ref A.f_is_alone), (8, .ref A.f_is_check), (11, .ref A.f_is_alone), (15, .ref A.f_is_write_of_coils), (16, .ref A.f_is_write_of_kept_row), (22, .ref A.f_is_mask_of_kept), (23, .ref A.f_is_write_and_read)]
  g_UNFIT : GI mg "UNFIT" (-5)
  g_REFUSAL_TOLD : GI mg "REFUSAL_TOLD" (-256)
  g_GREATEST_PLACE : GI mg "GREATEST_PLACE" (65535)
  g_UNCOUNTED : mg "UNCOUNTED" = some (.ref A.UNCOUNTED)
  t_UNCOUNTED : ∀ H, SqT K H A.UNCOUNTED [.int 8, .int 11]
  g_CARRIERS : mg "CARRIERS" = some (.ref A.CARRIERS)
  k_CARRIERS : KTab K A.CARRIERS [(1, .ref A.f_read_bits), (2, .ref A.f_read_bits), (3, .ref A.f_read_numbers), (4, .ref A.f_read_numbers), (5, .ref A.f_write_coil), (6, .ref A.f_write_kept), (7, .ref A.f_read_status), (8, .ref A.f_check_device), (11, .ref A.f_read_went_well), (15, .ref A.f_write_coils), (16, .ref A.f_write_kept_row), (22, .ref A.f_mask_kept), (23, .ref A.f_write_and_read)]
  g_FOR_ALL : GI mg "FOR_ALL" (0)
  g_CARRIED_OUT_FOR_ALL : mg "CARRIED_OUT_FOR_ALL" = some (.ref A.CARRIED_OUT_FOR_ALL)
  t_CARRIED_OUT_FOR_ALL : ∀ H, SqT K H A.CARRIED_OUT_FOR_ALL [.int 5, .int 6, .int 15, .int 16, .int 22]
  g_ANY_DEVICE : mg "ANY_DEVICE" = some (.ref A.ANY_DEVICE)
  t_ANY_DEVICE : ∀ H, SqT K H A.ANY_DEVICE [.int 0, .int 255]
  g_COLON : GI mg "COLON" (58)
  g_LINE_END : mg "LINE_END" = some (.ref A.LINE_END)
  t_LINE_END : ∀ H, SqT K H A.LINE_END [.int 13, .int 10]
  g_NO_DIGIT : GI mg "NO_DIGIT" (-1)
  g_MOST_SUMMED : GI mg "MOST_SUMMED" (65536)
  g_SHAPES : mg "SHAPES" = some (.ref A.SHAPES)
  t_SHAPES_0 : ∀ H, SqT K H A.SHAPES_0 [.int 5, .int 0]
  t_SHAPES_1 : ∀ H, SqT K H A.SHAPES_1 [.int 3, .int 0]
  t_SHAPES_2 : ∀ H, SqT K H A.SHAPES_2 [.int 2, .int 0]
  t_SHAPES_3 : ∀ H, SqT K H A.SHAPES_3 [.int 0, .int 1]
  t_SHAPES_4 : ∀ H, SqT K H A.SHAPES_4 [.int 0, .int 1]
  t_SHAPES_5 : ∀ H, SqT K H A.SHAPES_5 [.int 0, .int 1]
  t_SHAPES_6 : ∀ H, SqT K H A.SHAPES_6 [.int 0, .int 1]
  t_SHAPES_7 : ∀ H, SqT K H A.SHAPES_7 [.int 0, .int 0]
  t_SHAPES_8 : ∀ H, SqT K H A.SHAPES_8 [.int 0, .int 1]
  t_SHAPES_9 : ∀ H, SqT K H A.SHAPES_9 [.int 0, .int 1]
  t_SHAPES_10 : ∀ H, SqT K H A.SHAPES_10 [.int 3, .int 1]
  t_SHAPES_11 : ∀ H, SqT K H A.SHAPES_11 [.int 0, .int 2]
  k_SHAPES : KTab K A.SHAPES [(0, .ref A.SHAPES_0), (1, .ref A.SHAPES_1), (2, .ref A.SHAPES_2), (3, .ref A.SHAPES_3), (4, .ref A.SHAPES_4), (5, .ref A.SHAPES_5), (6, .ref A.SHAPES_6), (7, .ref A.SHAPES_7), (8, .ref A.SHAPES_8), (9, .ref A.SHAPES_9), (10, .ref A.SHAPES_10), (11, .ref A.SHAPES_11)]
  g_CALLS : mg "CALLS" = some (.ref A.CALLS)
  k_CALLS : KTab K A.CALLS [(0, .ref A.f_call_begin), (1, .ref A.f_call_set), (2, .ref A.f_call_get), (3, .ref A.f_call_pdu), (4, .ref A.f_call_rtu), (5, .ref A.f_call_ascii), (6, .ref A.f_call_tcp), (7, .ref A.f_call_counts), (8, .ref A.f_call_crc), (9, .ref A.f_call_lrc), (10, .ref A.f_call_ask), (11, .ref A.f_call_read)]
  b_enumerate : mg "enumerate" = none
  b_len : mg "len" = none
  b_list : mg "list" = none
  b_max : mg "max" = none
  b_min : mg "min" = none
  b_range : mg "range" = none
  b_reversed : mg "reversed" = none
  b_sum : mg "sum" = none
end Bd

set_option Elab.async false
set_option linter.all false
set_option maxRecDepth 100000
set_option maxHeartbeats 2000000
namespace Bd
open PySem PySem.Spec PyProof.Rows L2
/-! ### natural numbers as values -/
def nv (l : List Nat) : List V := l.map fun (n : Nat) => V.int (n : Int)
theorem nv_len (l : List Nat) : (nv l).length = l.length := List.length_map _
theorem nv_get {l : List Nat} {i : Nat} (h : i < l.length) : (nv l)[i]? = some (V.int ((l.getD i 0 : Nat) : Int)) := by
  simp [nv, h]
theorem nv_at {l : List Nat} {i : Nat} (h : i < l.length) : atI (nv l) (i : Int) = some (V.int ((l.getD i 0 : Nat) : Int)) := atI_nat (nv_get h)
theorem nv_app (a b : List Nat) : nv (a ++ b) = nv a ++ nv b := List.map_append
theorem nv_cons (a : Nat) (b : List Nat) : nv (a :: b) = V.int (a : Int) :: nv b := rfl
theorem nv_nil : nv [] = [] := rfl
theorem nv_take (n : Nat) (l : List Nat) : (nv l).take n = nv (l.take n) := List.map_take.symm
theorem nv_drop (n : Nat) (l : List Nat) : (nv l).drop n = nv (l.drop n) := List.map_drop.symm
theorem nv_set (l : List Nat) (i x : Nat) : (nv l).set i (V.int (x : Int)) = nv (l.set i x) := by
  simp [nv, List.map_set]
theorem nv_one {l : List Nat} {i : Nat} {v : V} (h : (nv l)[i]? = some v) : ∃ n, l[i]? = some n ∧ v = V.int (n : Int) := by
  unfold nv at h
  rw [List.getElem?_map] at h
  cases e : l[i]? with
  | none => rw [e] at h; cases h
  | some n => rw [e] at h; exact ⟨n, rfl, (Option.some.inj h).symm⟩
theorem take_more {α : Type} {l : List α} {i : Nat} {x : α} (h : l[i]? = some x) : l.take (i + 1) = l.take i ++ [x] := by
  rw [List.take_add_one, h]
  rfl
/-! ### what a call leaves -/
/-- a new list -/
def NewL (H : Hp) (Q : VK) (xs : List V) : Prop := ∀ (H' : Hp) (p : Addr), Same H H' → H p = none → H' p = some (.lst xs) → Q (.ref p) H'
/-- a value -/
def GivV (H : Hp) (Q : VK) (v : V) : Prop := ∀ H' : Hp, Same H H' → Q v H'
theorem same_new {H H' : Hp} {p : Addr} {o : HO} (e : Same H H') (h : H p = none) : Same H (upd H' p o) := fun b u q => by
  rw [upd_ne (ne_of_none q h)]
  exact e b u q
theorem same_upd {H : Hp} {p : Addr} {o : HO} (h : H p = none) : Same H (upd H p o) := same_new (Same.refl H) h
theorem same_seqT {K : PySem.W.Frag} {H H' : Hp} {a : Addr} {xs : List V} (e : Same H H') (h : SqT K H a xs) : SqT K H' a xs := by
  rcases h with (h | ⟨o, h⟩) | h
  · exact .inl (.inl (e _ _ h))
  · exact .inl (.inr ⟨o, e _ _ h⟩)
  · exact .inr h
theorem sz {n : Nat} (h : n ≤ 1000000) : n ≤ sizeLine := Nat.le_trans h (by decide)
theorem szlt {n : Nat} (h : n ≤ 1000000) : n < sizeLine := Nat.lt_of_le_of_lt h (by decide)
theorem cut_ft (l : List Nat) {i j : Nat} (hi : i ≤ l.length) (hj : j ≤ l.length) : cutV (nv l) (some (i : Int)) (some (j : Int)) = nv ((l.drop i).take (j - i)) := by
  unfold cutV
  rw [HT.sIx_nat, HT.sIx_nat, nv_len, Nat.min_eq_left hi, Nat.min_eq_left hj, nv_drop, nv_take]
theorem cut_f (l : List Nat) {i : Nat} (hi : i ≤ l.length) : cutV (nv l) (some (i : Int)) none = nv (l.drop i) := by
  unfold cutV
  rw [HT.sIx_nat, HT.sIx_none, nv_len, Nat.min_eq_left hi, nv_drop, nv_take, List.take_of_length_le (by rw [List.length_drop]; omega)]
theorem cut_t (l : List Nat) {j : Nat} : cutV (nv l) none (some (j : Int)) = nv (l.take j) := by
  unfold cutV
  rw [HT.sIx_nat, HT.sIx_none, nv_len, List.drop_zero, nv_take, Nat.sub_zero]
  congr 1
  by_cases h : j ≤ l.length
  · rw [Nat.min_eq_left h]
  · rw [Nat.min_eq_right (by omega), List.take_of_length_le (by omega), List.take_of_length_le (by omega)]
end Bd

set_option Elab.async false
set_option linter.all false
set_option maxRecDepth 100000
set_option maxHeartbeats 2000000
namespace Bd
open PySem PySem.Spec PyProof.Rows L2
section
variable {P : Program} {w : World} {K : PySem.W.Frag} {mg : Str → Option Value} {base : Heap} {A : Ad}
/-! ### number_at -/
def sp_number_at (K : PySem.W.Frag) : Sp := fun vs H Q _ => ∃ (a : Addr) (row : List Nat) (k : Nat), vs = [.ref a, .int k] ∧ SqL K H a (nv row) ∧ k + 1 < row.length ∧ Q (.int (Sg46.at2 row k : Nat)) H
theorem ok_number_at {f : Addr} {fd : FuncData} (Fn : Fun K "number_at" "number_at" s_number_at f fd) (T : Txt K mg A) : FnOk P w K mg base CX0 1 f fd ["row", "k"] (sp_number_at K) := by
  refine Fn.ok sc_number_at (fun vs H Q E h => ?_) (fun cdv Ar outer sh H vs Q E hr h => ?_)
  · obtain ⟨_, _, _, rfl, _⟩ := h
    rfl
  · have sc := sc_number_at
    refine ⟨_, (pss_one (ps_ret (pe_op op_add (pe_op op_mul (pe_ix ix_list (pv 0) (pv 1) (fun _ _ => rfl)) pe_int) (pe_ix ix_list (pv 0) (pe_op op_add (pv 1) pe_int) (fun _ _ => rfl))))), ?_⟩
    obtain ⟨a, row, k, rfl, hs, hk, q⟩ := h
    refine ⟨_, rfl, _, rfl, a, _, _, _, rfl, rfl, hs, nv_at (by omega), _, _, rfl, rfl, .inr ⟨by decide, by decide⟩, ?_⟩
    refine ⟨_, rfl, _, rfl, _, _, rfl, rfl, a, _, _, _, rfl, rfl, hs, (nv_at (i := k + 1) (by omega)), _, _, rfl, rfl, ?_⟩
    have e : Sg46.at2 row k = row.getD k 0 * 256 + row.getD (k + 1) 0 := by unfold Sg46.at2; omega
    rw [e] at q
    exact q
/-! ### bytes_of_numbers -/
def Words (l : List Nat) : Prop := ∀ n ∈ l, n < 65536
theorem two_small {n : Nat} (h : n < 65536) : Sg46.two n = [n / 256, n % 256] := by
  unfold Sg46.two
  rw [Nat.mod_eq_of_lt (by omega)]
theorem words_app (a b : List Nat) : Sg46.words (a ++ b) = Sg46.words a ++ Sg46.words b := List.flatMap_append
theorem words_len (a : List Nat) : (Sg46.words a).length = 2 * a.length := by
  induction a with
  | nil => rfl
  | cons x r ih =>
    show (Sg46.two x ++ Sg46.words r).length = _
    rw [List.length_append, ih, List.length_cons]
    show 2 + _ = _
    omega
def sp_bytes_of_numbers (K : PySem.W.Frag) : Sp := fun vs H Q _ => ∃ (a : Addr) (ns : List Nat), vs = [.ref a] ∧ SqL K H a (nv ns) ∧ Words ns ∧ ns.length ≤ 70000 ∧ NewL H Q (nv (Sg46.words ns))
theorem ok_bytes_of_numbers {f : Addr} {fd : FuncData} (Fn : Fun K "bytes_of_numbers" "bytes_of_numbers" s_bytes_of_numbers f fd) (T : Txt K mg A) : FnOk P w K mg base CX0 1 f fd ["numbers"] (sp_bytes_of_numbers K) := by
  refine Fn.ok sc_bytes_of_numbers (fun vs H Q E h => ?_) (fun cdv Ar outer sh H vs Q E hr h => ?_)
  · obtain ⟨_, _, rfl, _⟩ := h
    rfl
  · have sc := sc_bytes_of_numbers
    refine ⟨_, (pss_cons (ps_set (i := 1) sc.nd rfl (Or.inl rfl) (pe_lst pa_nil))
      (pss_cons (ps_for PassesOwn.never rfl (pi_list (pv 0)) (pg_name (i := 2) sc.nd rfl (Or.inl rfl)) (pss_cons (ps_expr (pe_bm PySem.F.plainAttrs_list PySem.F.slot_list_append PySem.F.type_list_append mt_append (pv 1) (pa_cons (pe_op op_fdiv (pv 2) pe_int) pa_nil)))
      (pss_one (ps_expr (pe_bm PySem.F.plainAttrs_list PySem.F.slot_list_append PySem.F.type_list_append mt_append (pv 1) (pa_cons (pe_op op_mod (pv 2) pe_int) pa_nil))))))
      (pss_one (ps_ret (pv 1))))), ?_⟩
    obtain ⟨a, ns, rfl, hs, hw, hl, q⟩ := h
    refine ⟨by show 0 ≤ sizeLine; decide, fun p np => ?_⟩
    refine ⟨_, rfl, a, rfl, ⟨_, (same_upd np).seq hs⟩, for_list (K := K) (a := a) (xs := nv ns) (fun i σ H' => ∃ v : Option V, σ = [some (.ref a), some (.ref p), v] ∧ Same H H' ∧ H' p = some (.lst (nv (Sg46.words (ns.take i)))))
      ⟨none, rfl, same_upd np, upd_same⟩ (fun i σ H' _ ⟨_, _, e, _⟩ => e.seq hs) ?_ ?_⟩
    · rintro i y σ H' hi ⟨v, rfl, e, hp⟩
      obtain ⟨n, hn, rfl⟩ := nv_one hi
      have hn2 : n < 65536 := hw n (List.mem_of_getElem? hn)
      have hlen : (ns.take i).length ≤ 70000 := by rw [List.length_take]; omega
      refine ⟨_, rfl, .inl ⟨rfl, _, SqL.of hp⟩, _, rfl, _, _, rfl, rfl, ⟨by decide, by decide⟩, p, _, _, rfl, rfl, hp, szlt (by rw [nv_len, words_len]; omega), ?_⟩
      refine ⟨_, rfl, .inl ⟨rfl, _, SqL.of upd_same⟩, _, rfl, _, _, rfl, rfl, (by show (0 : Int) < 256; decide), p, _, _, rfl, rfl, upd_same, szlt (by rw [List.length_append, nv_len, words_len]; simp; omega), ?_⟩
      refine ⟨some (.int n), rfl, fun b o q => ?_, ?_⟩
      · rw [upd_ne (ne_of_none q np), upd_ne (ne_of_none q np)]
        exact e b o q
      · rw [upd_same, take_more hn, words_app, nv_app]
        have e2 : Sg46.words [n] = [n / 256, n % 256] := by
          show Sg46.two n ++ [] = _
          rw [List.append_nil, two_small hn2]
        rw [e2, List.append_assoc]
        rfl
    · rintro σ H' ⟨v, rfl, e, hp⟩
      rw [nv_len, List.take_length] at hp
      exact ⟨_, rfl, q H' p e np hp⟩
/-! ### numbers_of_bytes -/
def sp_numbers_of_bytes (K : PySem.W.Frag) : Sp := fun vs H Q _ => ∃ (a : Addr) (row : List Nat) (n : Nat), vs = [.ref a] ∧ SqL K H a (nv row) ∧ row.length = 2 * n ∧ n ≤ 70000 ∧ NewL H Q (nv (Sg46.unworded row n))
theorem unworded_more (row : List Nat) (i : Nat) : Sg46.unworded row (i + 1) = Sg46.unworded row i ++ [Sg46.at2 row (2 * i)] := by
  unfold Sg46.unworded
  rw [List.range_succ, List.map_append]
  rfl
theorem unworded_len (row : List Nat) (i : Nat) : (Sg46.unworded row i).length = i := by
  unfold Sg46.unworded
  rw [List.length_map, List.length_range]
theorem rg_two {n : Nat} (h : n ≤ 70000) : RgC 0 ((2 * n : Nat) : Int) 2 n := by
  have e : Builtin.Range.rangeSize 0 ((2 * n : Nat) : Int) 2 = (n : Int) := by
    unfold Builtin.Range.rangeSize
    rw [if_pos (by decide)]
    split <;> omega
  refine ⟨by decide, by decide, ?_, e⟩
  unfold Builtin.Range.small
  rw [e]
  have ft : ∀ x : Int, 0 ≤ x → x < 1000000 → Builtin.Range.rangeFitsLong x = true := fun x h0 h1 => by
    unfold Builtin.Range.rangeFitsLong
    rw [decide_eq_true (by omega), decide_eq_true (by omega)]
    rfl
  rw [ft 0 (by omega) (by omega), ft _ (by omega) (by omega), ft 2 (by omega) (by omega), ft n (by omega) (by omega), if_pos (by decide), ft _ (by omega) (by omega), Bool.or_true]
  rfl
theorem ok_numbers_of_bytes {f : Addr} {fd : FuncData} (Fn : Fun K "numbers_of_bytes" "numbers_of_bytes" s_numbers_of_bytes f fd) (T : Txt K mg A) (c_number_at : C8.Cal P w K mg base 1 "number_at" (sp_number_at K) []) : FnOk P w K mg base CX0 2 f fd ["row"] (sp_numbers_of_bytes K) := by
  refine Fn.ok sc_numbers_of_bytes (fun vs H Q E h => ?_) (fun cdv Ar outer sh H vs Q E hr h => ?_)
  · obtain ⟨_, _, _, rfl, _⟩ := h
    rfl
  · have sc := sc_numbers_of_bytes
    refine ⟨_, (pss_one (ps_ret (pe_lc (own := [("k", 1)]) (g := gName 1) rfl sc.nd (pi_range3 (by rfl) T.b_range (pa_cons pe_int (pa_cons (pe_callB call_len_seq (by rfl) T.b_len PySem.boot_len (pa_cons (pv 0) pa_nil)) (pa_cons pe_int pa_nil)))) (blkOk_by (own := [("k", 1)]) (N := n_numbers_of_bytes) (sc := defScope s_numbers_of_bytes) (by decide +kernel)) (fun _ _ _ _ _ => (pg_name (i := 1) sc.nd rfl (Or.inl rfl))) (fun _ _ _ _ _ => pts_nil) (fun _ _ _ _ _ => (C8.pe_c c_number_at hr (by decide) (by rfl) (pa_cons (pv 0) (pa_cons (pv 1) pa_nil))))))), ?_⟩
    obtain ⟨a, row, n, rfl, hs, hn, hl, q⟩ := h
    refine ⟨_, rfl, a, _, rfl, .inl hs, ?_⟩
    refine ⟨0, _, 2, n, rfl, ?_, fun D hD => ?_⟩
    · rw [nv_len, hn]
      exact rg_two hl
    · refine lc_it (walk_rangeC (lo := 0) (c := 2) (n := n)) (fun i H' => Same H H' ∧ H' D = some (.lst (nv (Sg46.unworded row i)))) ⟨same_upd hD, upd_same⟩ (fun _ _ _ _ => trivial) ?_ ?_
      · rintro i x H1 H2 hi ⟨e, hd⟩ ⟨rfl, rfl⟩
        refine ⟨rfl, ?_⟩
        refine ⟨_, rfl, _, rfl, a, row, 2 * i, ?_, e.seq hs, by omega, ?_⟩
        · have e2 : (0 : Int) + (i : Int) * 2 = ((2 * i : Nat) : Int) := by omega
          show [V.ref a, V.int ((0 : Int) + (i : Int) * 2)] = _
          rw [e2]
        · refine ⟨_, hd, szlt (by rw [nv_len, unworded_len]; omega), same_new e hD, ?_⟩
          rw [upd_same, unworded_more, nv_app]
          rfl
      · rintro H' ⟨e, hd⟩
        exact q H' D e hD hd
/-! ### bytes_for_bits -/
def sp_bytes_for_bits : Sp := fun vs H Q _ => ∃ (n : Nat), vs = [.int n] ∧ Q (.int ((n + 7) / 8 : Nat)) H
theorem ok_bytes_for_bits {f : Addr} {fd : FuncData} (Fn : Fun K "bytes_for_bits" "bytes_for_bits" s_bytes_for_bits f fd) (T : Txt K mg A) : FnOk P w K mg base CX0 1 f fd ["many"] (sp_bytes_for_bits) := by
  refine Fn.ok sc_bytes_for_bits (fun vs H Q E h => ?_) (fun cdv Ar outer sh H vs Q E hr h => ?_)
  · obtain ⟨_, rfl, _⟩ := h
    rfl
  · have sc := sc_bytes_for_bits
    refine ⟨_, (pss_one (ps_ret (pe_op op_fdiv (pe_op op_add (pv 0) pe_int) pe_int))), ?_⟩
    obtain ⟨n, rfl, q⟩ := h
    exact ⟨_, rfl, _, _, rfl, rfl, _, _, rfl, rfl, ⟨by decide, by decide⟩, q⟩
/-! ### bytes_of_bits -/
def Bits (l : List Nat) : Prop := ∀ n ∈ l, n ≤ 1
/-- the bytes that the first i bits make, of m -/
def packs (l : List Nat) (m i : Nat) : List Nat := (List.range m).map fun (k : Nat) => ((List.range 8).map fun (j : Nat) => if (l.take i).getD (8 * k + j) 0 = 0 then 0 else 2 ^ j).sum
theorem packs_len (l : List Nat) (m i : Nat) : (packs l m i).length = m := by
  unfold packs
  rw [List.length_map, List.length_range]
theorem sum8 (f : Nat → Nat) : ((List.range 8).map f).sum = f 0 + f 1 + f 2 + f 3 + f 4 + f 5 + f 6 + f 7 := by
  show f 0 + (f 1 + (f 2 + (f 3 + (f 4 + (f 5 + (f 6 + (f 7 + 0))))))) = _
  omega
theorem sum8_add {F E : Nat → Nat} {r X : Nat} (hr : r < 8) (h : ∀ j, F j = E j + if j = r then X else 0) : ((List.range 8).map F).sum = ((List.range 8).map E).sum + X := by
  rw [sum8, sum8, h 0, h 1, h 2, h 3, h 4, h 5, h 6, h 7]
  have hr8 : r = 0 ∨ r = 1 ∨ r = 2 ∨ r = 3 ∨ r = 4 ∨ r = 5 ∨ r = 6 ∨ r = 7 := by omega
  rcases hr8 with rfl | rfl | rfl | rfl | rfl | rfl | rfl | rfl <;> simp <;> omega
theorem packs_zero (l : List Nat) (m : Nat) : packs l m 0 = List.replicate m 0 := by
  unfold packs
  rw [List.take_zero]
  have e : (fun (k : Nat) => ((List.range 8).map fun (j : Nat) => if ([] : List Nat).getD (8 * k + j) 0 = 0 then 0 else 2 ^ j).sum) = fun _ => 0 := by
    funext k
    rw [sum8]
    simp
  rw [e, List.map_const', List.length_range]
theorem packs_all (l : List Nat) : packs l ((l.length + 7) / 8) l.length = Sg46.packed l := by
  unfold packs Sg46.packed
  rw [List.take_length]
theorem getD_take (l : List Nat) (i j : Nat) : (l.take i).getD j 0 = if j < i then l.getD j 0 else 0 := by
  rw [List.getD_eq_getElem?_getD, List.getElem?_take]
  split
  · rw [List.getD_eq_getElem?_getD]
  · rfl
theorem pack_more {l : List Nat} {m i b : Nat} (hb : l[i]? = some b) (h1 : b ≤ 1) (hm : i / 8 < m) : packs l m (i + 1) = (packs l m i).set (i / 8) ((packs l m i).getD (i / 8) 0 + b * 2 ^ (i % 8)) := by
  have hgi : l.getD i 0 = b := by
    rw [List.getD_eq_getElem?_getD, hb]
    rfl
  apply List.ext_getElem
  · rw [List.length_set, packs_len, packs_len]
  · intro k hk hk2
    rw [packs_len] at hk
    have gk : ∀ t, (packs l m t)[k]'(by rw [packs_len]; exact hk) = ((List.range 8).map fun (j : Nat) => if (l.take t).getD (8 * k + j) 0 = 0 then 0 else 2 ^ j).sum := fun t => by
      simp [packs]
    rw [List.getElem_set, gk]
    by_cases e : i / 8 = k
    · rw [if_pos e]
      subst e
      rw [List.getD_eq_getElem?_getD, List.getElem?_eq_getElem (by rw [packs_len]; exact hm), gk]
      simp only [Option.getD_some, getD_take]
      refine sum8_add (r := i % 8) (by omega) fun j => ?_
      have hr : 8 * (i / 8) + i % 8 = i := by omega
      by_cases c : j = i % 8
      · subst c
        have t1 : i < i + 1 := by omega
        have t2 : ¬ i < i := by omega
        simp only [hr, if_pos t1, if_neg t2, hgi, if_true]
        have hb2 : b = 0 ∨ b = 1 := by omega
        rcases hb2 with hb2 | hb2 <;> rw [hb2] <;> simp
      · have : (8 * (i / 8) + j < i + 1) ↔ (8 * (i / 8) + j < i) := by omega
        simp only [this, if_neg c, Nat.add_zero]
    · rw [if_neg e, gk]
      congr 1
      apply List.map_congr_left
      intro j hj
      rw [List.mem_range] at hj
      rw [getD_take, getD_take]
      have : (8 * k + j < i + 1) ↔ (8 * k + j < i) := by omega
      simp only [this]
def sp_bytes_of_bits (K : PySem.W.Frag) : Sp := fun vs H Q _ => ∃ (a : Addr) (l : List Nat), vs = [.ref a] ∧ SqL K H a (nv l) ∧ Bits l ∧ l.length ≤ 70000 ∧ NewL H Q (nv (Sg46.packed l))
theorem rep_flat (n : Nat) : (List.replicate n [V.int 0]).flatten = nv (List.replicate n 0) := by
  induction n with
  | zero => rfl
  | succ n ih =>
    rw [List.replicate_succ, List.flatten_cons, ih, List.replicate_succ]
    rfl
theorem ok_bytes_of_bits {f : Addr} {fd : FuncData} (Fn : Fun K "bytes_of_bits" "bytes_of_bits" s_bytes_of_bits f fd) (T : Txt K mg A) (c_bytes_for_bits : C8.Cal P w K mg base 1 "bytes_for_bits" sp_bytes_for_bits []) : FnOk P w K mg base CX0 2 f fd ["bits"] (sp_bytes_of_bits K) := by
  refine Fn.ok sc_bytes_of_bits (fun vs H Q E h => ?_) (fun cdv Ar outer sh H vs Q E hr h => ?_)
  · obtain ⟨_, _, rfl, _⟩ := h
    rfl
  · have sc := sc_bytes_of_bits
    refine ⟨_, (pss_cons (ps_set (i := 1) sc.nd rfl (Or.inl rfl) (pe_op op_rep (pe_lst (pa_cons pe_int pa_nil)) (C8.pe_c c_bytes_for_bits hr (by decide) (by rfl) (pa_cons (pe_callB call_len_seq (by rfl) T.b_len PySem.boot_len (pa_cons (pv 0) pa_nil)) pa_nil))))
      (pss_cons (ps_for PassesOwn.never rfl (pi_enum (by rfl) T.b_enumerate (pa_cons (pv 0) pa_nil)) (pg_tup rfl (pgs_cons (pg_name (i := 2) sc.nd rfl (Or.inl rfl)) (pgs_cons (pg_name (i := 3) sc.nd rfl (Or.inl rfl)) pgs_nil))) (pss_one (ps_augS (pv 1) (pe_op op_fdiv (pv 2) pe_int) get_list (pe_op op_shl (pv 3) (pe_op op_mod (pv 2) pe_int)) ip_add set_list)))
      (pss_one (ps_ret (pv 1))))), ?_⟩
    obtain ⟨a, l, rfl, hs, hb, hl, q⟩ := h
    refine ⟨by show 1 ≤ sizeLine; decide, fun o no => ?_⟩
    have s1 := same_upd (o := .lst [V.int 0]) no
    refine ⟨_, rfl, a, _, rfl, .inl (s1.seq hs), l.length, ?_, o, _, _, rfl, rfl, upd_same, ?_, ?_, ?_, fun p np => ?_⟩
    · rw [nv_len]
      rfl
    · omega
    · omega
    · exact sz (by simp; omega)
    · have np0 : H p = none := s1.free np
      refine ⟨_, rfl, a, _, rfl, (same_new s1 np0).seq hs, for_it (walk_enum (xs := nv l)) (fun i σ H' => ∃ v u : Option V, σ = [some (.ref a), some (.ref p), v, u] ∧ Same H H' ∧ H' p = some (.lst (nv (packs l ((l.length + 7) / 8) i))))
        ⟨none, none, rfl, same_new s1 np0, ?_⟩ (fun i σ H' _ ⟨_, _, _, e, _⟩ => e.seq hs) ?_ ?_⟩
      · rw [upd_same, packs_zero, ← rep_flat]
        rfl
      · rintro i x σ H1 H2 hi ⟨v, u, rfl, e, hp⟩ ⟨t, x1, x2, rfl, ht, rfl, h1, h2⟩
        obtain rfl := Option.some.inj h1
        obtain ⟨b, hb1, rfl⟩ := nv_one h2
        have hb2 : b ≤ 1 := hb b (List.mem_of_getElem? hb1)
        rw [nv_len] at hi
        refine ⟨t, _, rfl, SqT.of upd_same, rfl, _, _, rfl, _, _, rfl, rfl, ?_⟩
        have hpt : p ≠ t := ne_of_none hp ht
        have hm : i / 8 < (l.length + 7) / 8 := by omega
        have hp2 : upd H1 t (.tup [.int (i : Nat), .int (b : Nat)]) p = some (.lst (nv (packs l ((l.length + 7) / 8) i))) := by rw [upd_ne hpt]; exact hp
        have hget := nv_get (l := packs l ((l.length + 7) / 8) i) (i := i / 8) (by rw [packs_len]; exact hm)
        refine ⟨_, rfl, _, rfl, _, _, rfl, rfl, ⟨by decide, by decide⟩, p, _, ((i / 8 : Nat) : Int), _, rfl, rfl, by omega, SqL.of hp2, hget, ?_⟩
        refine ⟨_, rfl, _, rfl, _, _, rfl, rfl, (by show (0 : Int) < 8; decide), _, ((i % 8 : Nat) : Int), rfl, rfl, ⟨by omega, by omega, ?_⟩, _, _, rfl, rfl, p, _, ((i / 8 : Nat) : Int), i / 8, rfl, rfl, hp2, ?_, ?_⟩
        · omega
        · rw [nv_len, packs_len]
          exact Evl.ixN_nat hm
        · refine ⟨some (.int (i : Nat)), some (.int (b : Nat)), rfl, same_new (same_new e (e.free ht)) np0, ?_⟩
          rw [upd_same, pack_more hb1 hb2 hm, ← nv_set]
          congr 2
      · rintro σ H' ⟨v, u, rfl, e, hp⟩
        rw [nv_len, packs_all] at hp
        exact ⟨_, rfl, q H' p e np0 hp⟩
/-! ### bits_of_bytes -/
def sp_bits_of_bytes (K : PySem.W.Frag) : Sp := fun vs H Q _ => ∃ (a : Addr) (row : List Nat) (n : Nat), vs = [.ref a, .int n] ∧ SqL K H a (nv row) ∧ n ≤ 8 * row.length ∧ n ≤ 70000 ∧ NewL H Q (nv (Sg46.unpacked row n))
theorem unpacked_more (row : List Nat) (i : Nat) : Sg46.unpacked row (i + 1) = Sg46.unpacked row i ++ [row.getD (i / 8) 0 / 2 ^ (i % 8) % 2] := by
  unfold Sg46.unpacked
  rw [List.range_succ, List.map_append]
  rfl
theorem unpacked_len (row : List Nat) (i : Nat) : (Sg46.unpacked row i).length = i := by
  unfold Sg46.unpacked
  rw [List.length_map, List.length_range]
theorem and_one (n : Nat) : Builtin.bitAnd (n : Int) 1 = ((n % 2 : Nat) : Int) := by
  have e := _root_.Bits.bitAnd_mask (x := (n : Int)) 1 (by omega)
  rw [show ((2 : Int) ^ 1 - 1) = 1 by decide] at e
  rw [e]
  show (n : Int) % 2 = _
  omega
theorem ok_bits_of_bytes {f : Addr} {fd : FuncData} (Fn : Fun K "bits_of_bytes" "bits_of_bytes" s_bits_of_bytes f fd) (T : Txt K mg A) : FnOk P w K mg base CX0 1 f fd ["row", "many"] (sp_bits_of_bytes K) := by
  refine Fn.ok sc_bits_of_bytes (fun vs H Q E h => ?_) (fun cdv Ar outer sh H vs Q E hr h => ?_)
  · obtain ⟨_, _, _, rfl, _⟩ := h
    rfl
  · have sc := sc_bits_of_bytes
    refine ⟨_, (pss_one (ps_ret (pe_lc (own := [("k", 2)]) (g := gName 2) rfl sc.nd (pi_range1 (by rfl) T.b_range (pa_cons (pv 1) pa_nil)) (blkOk_by (own := [("k", 2)]) (N := n_bits_of_bytes) (sc := defScope s_bits_of_bytes) (by decide +kernel)) (fun _ _ _ _ _ => (pg_name (i := 2) sc.nd rfl (Or.inl rfl))) (fun _ _ _ _ _ => pts_nil) (fun _ _ _ _ _ => (pe_op op_and (pe_op op_shr (pe_ix (r := rIxL K) ix_list (pv 0) (pe_op op_fdiv (pv 2) pe_int) (fun _ _ => rfl)) (pe_op op_mod (pv 2) pe_int)) pe_int))))), ?_⟩
    obtain ⟨a, row, n, rfl, hs, hn, hl, q⟩ := h
    refine ⟨_, rfl, (n : Int), rfl, by omega, by omega, fun D hD => ?_⟩
    refine lc_it (walk_range (lo := 0) (n := n)) (fun i H' => Same H H' ∧ H' D = some (.lst (nv (Sg46.unpacked row i)))) ⟨same_upd hD, upd_same⟩ (fun _ _ _ _ => trivial) ?_ ?_
    · rintro i x H1 H2 hi ⟨e, hd⟩ ⟨rfl, rfl⟩
      refine ⟨rfl, ?_⟩
      have hi8 : i / 8 < row.length := by omega
      have e1 : (0 : Int) + (i : Int) = ((i : Nat) : Int) := by omega
      refine ⟨_, rfl, _, rfl, _, _, rfl, rfl, ⟨by decide, by decide⟩, a, _, ((i / 8 : Nat) : Int), _, rfl, ?_, e.seq hs, nv_at hi8, _, rfl, _, _, rfl, rfl, (by show (0 : Int) < 8; decide), _, ((i % 8 : Nat) : Int), rfl, ?_, ?_, _, _, rfl, rfl, ?_⟩
      · rw [e1]
        rfl
      · rw [e1]
        rfl
      · omega
      · refine ⟨_, hd, szlt (by rw [nv_len, unpacked_len]; omega), same_new e hD, ?_⟩
        rw [upd_same, unpacked_more, nv_app]
        congr 3
        show [V.int (Builtin.bitAnd (((row.getD (i / 8) 0 : Nat) : Int) / 2 ^ (i % 8)) 1)] = _
        rw [show ((row.getD (i / 8) 0 : Nat) : Int) / 2 ^ (i % 8) = ((row.getD (i / 8) 0 / 2 ^ (i % 8) : Nat) : Int) by rw [Int.natCast_ediv, Int.natCast_pow]; rfl, and_one]
        rfl
    · rintro H' ⟨e, hd⟩
      exact q H' D e hD hd
/-! ### crc, lrc -/
def sp_crc (K : PySem.W.Frag) : Sp := fun vs H Q _ => ∃ (a : Addr) (row : List Nat), vs = [.ref a] ∧ SqL K H a (nv row) ∧ Q (.int (Sg46.crc row : Nat)) H
def crcBits (c i : Nat) : Nat := (List.range i).foldl (fun c _ => Sg46.crcBit c) c
theorem crcBits_more (c i : Nat) : crcBits c (i + 1) = Sg46.crcBit (crcBits c i) := by
  unfold crcBits
  rw [List.range_succ, List.foldl_append]
  rfl
theorem xor_nat (m n : Nat) : Builtin.bitXor (m : Int) (n : Int) = ((m ^^^ n : Nat) : Int) := by
  rw [_root_.Bits.bitXor_pp (by omega) (by omega), Int.toNat_natCast, Int.toNat_natCast]
theorem crc_more {row : List Nat} {i n : Nat} (h : row[i]? = some n) : Sg46.crc (row.take (i + 1)) = Sg46.crcByte (Sg46.crc (row.take i)) n := by
  unfold Sg46.crc
  rw [take_more h, List.foldl_append]
  rfl
theorem ok_crc {f : Addr} {fd : FuncData} (Fn : Fun K "crc" "crc" s_crc f fd) (T : Txt K mg A) : FnOk P w K mg base CX0 1 f fd ["row"] (sp_crc K) := by
  refine Fn.ok sc_crc (fun vs H Q E h => ?_) (fun cdv Ar outer sh H vs Q E hr h => ?_)
  · obtain ⟨_, _, rfl, _⟩ := h
    rfl
  · have sc := sc_crc
    refine ⟨_, (pss_cons (ps_set (i := 1) sc.nd rfl (Or.inl rfl) pe_int)
      (pss_cons (ps_for PassesOwn.never rfl (pi_list (pv 0)) (pg_name (i := 2) sc.nd rfl (Or.inl rfl)) (pss_cons (ps_set (i := 1) sc.nd rfl (Or.inl rfl) (pe_op op_xor (pv 1) (pv 2)))
      (pss_one (ps_for PassesOwn.never rfl (pi_range1 (by rfl) T.b_range (pa_cons pe_int pa_nil)) (pg_name (i := 3) sc.nd rfl (Or.inl rfl)) (pss_cons (ps_set (i := 4) sc.nd rfl (Or.inl rfl) (pe_op op_and (pv 1) pe_int))
      (pss_cons (ps_set (i := 1) sc.nd rfl (Or.inl rfl) (pe_op op_shr (pv 1) pe_int))
      (pss_one (ps_if (pt_cmpR op_eq (pv 4) pe_int (nomark _)) (pss_one (ps_set (i := 1) sc.nd rfl (Or.inl rfl) (pe_op op_xor (pv 1) pe_int))) pss_nil))))))))
      (pss_one (ps_ret (pv 1))))), ?_⟩
    obtain ⟨a, row, rfl, hs, q⟩ := h
    refine ⟨_, rfl, a, rfl, ⟨_, hs⟩, for_list (K := K) (a := a) (xs := nv row) (fun i σ H' => ∃ v u t : Option V, σ = [some (.ref a), some (.int (Sg46.crc (row.take i) : Nat)), v, u, t] ∧ H' = H)
      ⟨none, none, none, rfl, rfl⟩ (fun i σ H' _ ⟨_, _, _, _, e⟩ => by rw [e]; exact hs) ?_ ?_⟩
    · rintro i y σ H' hi ⟨v, u, t, rfl, rfl⟩
      obtain ⟨n, hn, rfl⟩ := nv_one hi
      refine ⟨_, rfl, _, rfl, _, _, rfl, rfl, ?_⟩
      refine ⟨8, rfl, by decide, by decide, for_range (lo := 0) (n := 8) (fun j σ H'' => ∃ u t : Option V, σ = [some (.ref a), some (.int (crcBits (Sg46.crc (row.take i) ^^^ n) j : Nat)), some (.int (n : Nat)), u, t] ∧ H'' = H')
        ⟨u, t, (by show [_, some (V.int (Builtin.bitXor _ _)), _, _, _] = _; rw [xor_nat]; rfl), rfl⟩ ?_ ?_⟩
      · rintro j σ H'' hj ⟨u, t, rfl, rfl⟩
        generalize hc : crcBits (Sg46.crc (row.take i) ^^^ n) j = c
        refine ⟨_, rfl, _, _, rfl, rfl, _, rfl, _, _, rfl, rfl, (by show (0 : Int) ≤ 1; decide), ?_⟩
        refine ⟨_, rfl, rfl, _, rfl, ?_⟩
        have e1 : Builtin.bitAnd (c : Int) 1 = ((c % 2 : Nat) : Int) := and_one c
        have e2 : (c : Int) / 2 ^ (1 : Int).toNat = ((c / 2 : Nat) : Int) := by show (c : Int) / 2 ^ 1 = _; omega
        have hd : decide (V.int (Builtin.bitAnd (c : Int) 1) = V.int 1) = decide (c % 2 = 1) := by
          rw [e1]
          by_cases hh : c % 2 = 1
          · rw [hh]; decide
          · have h0 : c % 2 = 0 := by omega
            rw [h0]; decide
        show (if decide (V.int (Builtin.bitAnd (c : Int) 1) = V.int 1) = true then _ else _)
        rw [hd]
        by_cases hh : c % 2 = 1
        · rw [if_pos (decide_eq_true hh)]
          refine ⟨_, rfl, _, _, rfl, rfl, some (.int ((0 : Int) + (j : Nat))), some (.int (Builtin.bitAnd (c : Int) 1)), ?_, rfl⟩
          rw [crcBits_more, hc]
          unfold Sg46.crcBit
          rw [if_pos hh]
          show [_, some (V.int (Builtin.bitXor ((c : Int) / 2 ^ (1 : Int).toNat) ((40961 : Nat) : Int))), _, _, _] = _
          rw [e2, xor_nat]
        · rw [if_neg (by simpa using hh)]
          refine ⟨some (.int ((0 : Int) + (j : Nat))), some (.int (Builtin.bitAnd (c : Int) 1)), ?_, rfl⟩
          rw [crcBits_more, hc]
          unfold Sg46.crcBit
          rw [if_neg hh]
          show [_, some (V.int ((c : Int) / 2 ^ (1 : Int).toNat)), _, _, _] = _
          rw [e2]
      · rintro σ H'' ⟨u, t, rfl, rfl⟩
        refine ⟨some (.int (n : Nat)), u, t, ?_, rfl⟩
        rw [crc_more hn]
        rfl
    · rintro σ H' ⟨v, u, t, rfl, rfl⟩
      rw [nv_len, List.take_length]
      exact ⟨_, rfl, q⟩
def sp_lrc (K : PySem.W.Frag) : Sp := fun vs H Q _ => ∃ (a : Addr) (row : List Nat), vs = [.ref a] ∧ SqL K H a (nv row) ∧ Q (.int (Sg46.lrc row : Nat)) H
theorem nv_ints (l : List Nat) : nv l = (l.map fun (n : Nat) => (n : Int)).map V.int := by
  unfold nv
  rw [List.map_map]
  rfl
theorem sum_ints (l : List Nat) : (l.map fun (n : Nat) => (n : Int)).sum = ((l.sum : Nat) : Int) := by
  induction l with
  | nil => rfl
  | cons x r ih =>
    rw [List.map_cons, List.sum_cons, List.sum_cons, ih]
    omega
theorem ok_lrc {f : Addr} {fd : FuncData} (Fn : Fun K "lrc" "lrc" s_lrc f fd) (T : Txt K mg A) : FnOk P w K mg base CX0 1 f fd ["row"] (sp_lrc K) := by
  refine Fn.ok sc_lrc (fun vs H Q E h => ?_) (fun cdv Ar outer sh H vs Q E hr h => ?_)
  · obtain ⟨_, _, rfl, _⟩ := h
    rfl
  · have sc := sc_lrc
    refine ⟨_, (pss_one (ps_ret (pe_op op_mod (pe_op op_sub pe_int (pe_op op_mod (pe_callB (cr_sum rfl) (by rfl) T.b_sum (by decide +kernel) (pa_cons (pv 0) pa_nil)) pe_int)) pe_int))), ?_⟩
    obtain ⟨a, row, rfl, hs, q⟩ := h
    rw [nv_ints] at hs
    refine ⟨_, rfl, a, _, rfl, hs, _, _, rfl, rfl, (by show (0 : Int) < 256; decide), _, _, rfl, rfl, _, _, rfl, rfl, (by show (0 : Int) < 256; decide), ?_⟩
    have e : ((256 : Int) - (row.map fun (n : Nat) => (n : Int)).sum % 256) % 256 = ((Sg46.lrc row : Nat) : Int) := by
      rw [sum_ints]
      unfold Sg46.lrc
      omega
    show Q (.int (((256 : Int) - (row.map fun (n : Nat) => (n : Int)).sum % 256) % 256)) H
    rw [e]
    exact q
/-! ### counted -/
def sp_counted : Sp := fun vs H Q _ => ∃ (a : Addr) (xs : List V), vs = [.ref a] ∧ H a = some (.lst xs) ∧ xs.length ≤ 10000000 ∧ NewL H Q (.int (xs.length : Nat) :: xs)
theorem sz7 {n : Nat} (h : n ≤ 16000000) : n ≤ sizeLine := Nat.le_trans h (by decide)
theorem ok_counted {f : Addr} {fd : FuncData} (Fn : Fun K "counted" "counted" s_counted f fd) (T : Txt K mg A) : FnOk P w K mg base CX0 1 f fd ["row"] (sp_counted) := by
  refine Fn.ok sc_counted (fun vs H Q E h => ?_) (fun cdv Ar outer sh H vs Q E hr h => ?_)
  · obtain ⟨_, _, rfl, _⟩ := h
    rfl
  · have sc := sc_counted
    refine ⟨_, (pss_one (ps_ret (pe_op op_cat (pe_lst (pa_cons (pe_callB call_len_seq (by rfl) T.b_len PySem.boot_len (pa_cons (pv 0) pa_nil)) pa_nil)) (pv 0)))), ?_⟩
    obtain ⟨a, xs, rfl, hs, hl, g⟩ := h
    refine ⟨_, rfl, a, _, rfl, .inl (SqL.of hs), by show 1 ≤ sizeLine; decide, fun o no => ?_⟩
    have e1 := same_upd (o := .lst [V.int (xs.length : Nat)]) no
    refine ⟨_, rfl, o, a, _, _, rfl, rfl, upd_same, e1 _ _ hs, sz7 (by show 1 + _ ≤ _; omega), fun p np => ?_⟩
    exact g _ p (same_new e1 (e1.free np)) (e1.free np) upd_same
end
end Bd

set_option Elab.async false
set_option linter.all false
set_option maxRecDepth 100000
set_option maxHeartbeats 2000000
namespace Bd
open PySem PySem.Spec PyProof.Rows L2
/-! ### the device in the heap -/
def tab (s : Sg46.Dev) (t : Nat) : List Nat := (List.range (s.size t)).map (s.held t)
theorem tab_len (s : Sg46.Dev) (t : Nat) : (tab s t).length = s.size t := by
  unfold tab
  rw [List.length_map, List.length_range]
theorem tab_get {s : Sg46.Dev} {t i : Nat} (h : i < s.size t) : (tab s t).getD i 0 = s.held t i := by
  unfold tab
  simp [h]
theorem put_size (s : Sg46.Dev) (t i x u : Nat) : (s.put t i x).size u = s.size u := rfl
theorem tab_put {s : Sg46.Dev} {t i x : Nat} (h : i < s.size t) : tab (s.put t i x) t = (tab s t).set i x := by
  apply List.ext_getElem
  · rw [List.length_set, tab_len, tab_len]
    rfl
  · intro k h1 h2
    rw [tab_len] at h1
    have h1' : k < s.size t := h1
    rw [List.getElem_set]
    simp only [tab, List.getElem_map, List.getElem_range]
    show (if t = t ∧ k = i then x else s.held t k) = _
    by_cases e : k = i
    · rw [if_pos ⟨rfl, e⟩, if_pos e.symm]
    · rw [if_neg (fun z => e z.2), if_neg (fun z => e z.symm)]
theorem tab_other {s : Sg46.Dev} {t i x u : Nat} (h : u ≠ t) : tab (s.put t i x) u = tab s u := by
  unfold tab
  rw [put_size]
  apply List.map_congr_left
  intro k _
  show (if u = t ∧ k = i then x else s.held u k) = _
  rw [if_neg (fun z => h z.1)]
theorem tab_counts (s : Sg46.Dev) (l : List Nat) (t : Nat) : tab { s with counts := l } t = tab s t := rfl
def dF (u t c : V) : List (Str × V) := [("unit", u), ("tables", t), ("tallies", c)]
/-- at d: a device that is s; F: the addresses that are its own -/
structure DevAt (C : Addr) (H : Hp) (d : Addr) (s : Sg46.Dev) (F : List Addr) : Prop where
  ex : ∃ (dx t c : Addr) (ts : List Addr), F = d :: t :: c :: ts ∧ F.Nodup ∧ ts.length = 4 ∧ H d = some (.ins C dx (dF (.int (s.unit : Nat)) (.ref t) (.ref c))) ∧
    H t = some (.lst (ts.map V.ref)) ∧ H c = some (.lst (nv s.counts)) ∧ ∀ i a, ts[i]? = some a → H a = some (.lst (nv (tab s i)))
theorem DevAt.same {C : Addr} {H H' : Hp} {d : Addr} {s : Sg46.Dev} {F : List Addr} (D : DevAt C H d s F) (e : Same H H') : DevAt C H' d s F := by
  obtain ⟨dx, t, c, ts, h1, h2, h3, h4, h5, h6, h7⟩ := D.ex
  exact ⟨dx, t, c, ts, h1, h2, h3, e _ _ h4, e _ _ h5, e _ _ h6, fun i a h => e _ _ (h7 i a h)⟩
/-- what a call that may change the device leaves -/
structure Step (H H' : Hp) (F F' : List Addr) : Prop where
  keep : ∀ b o, H b = some o → b ∉ F → H' b = some o
  new : ∀ b ∈ F', b ∈ F ∨ H b = none
  old : ∀ b o, H b = some o → ∃ o', H' b = some o'
theorem old_upd {H H1 : Hp} (h : ∀ b o, H b = some o → ∃ o', H1 b = some o') (a : Addr) (x : HO) : ∀ b o, H b = some o → ∃ o', upd H1 a x b = some o' := fun b o e => by
  by_cases z : b = a
  · rw [z]
    exact ⟨_, upd_same⟩
  · rw [upd_ne z]
    exact h b o e
theorem old_same {H H1 : Hp} (h : Same H H1) : ∀ b o, H b = some o → ∃ o', H1 b = some o' := fun b o e => ⟨o, h b o e⟩
theorem Step.of_same {H H' : Hp} {F : List Addr} (e : Same H H') : Step H H' F F := ⟨fun b o h _ => e b o h, fun b h => .inl h, old_same e⟩
theorem Step.trans {H H1 H2 : Hp} {F F1 F2 : List Addr} (a : Step H H1 F F1) (b : Step H1 H2 F1 F2) : Step H H2 F F2 := by
  refine ⟨fun c o h n => b.keep c o (a.keep c o h n) fun m => ?_, fun c m => ?_, fun c o h => ?_⟩
  · rcases a.new c m with z | z
    · exact n z
    · rw [h] at z
      cases z
  · rcases b.new c m with z | z
    · exact a.new c z
    · by_cases n : c ∈ F
      · exact .inl n
      · refine .inr ?_
        cases q : H c with
        | none => rfl
        | some o =>
          rw [a.keep c o q n] at z
          cases z
  · obtain ⟨o1, h1⟩ := a.old c o h
    exact b.old c o1 h1
theorem Step.free {H H' : Hp} {F F' : List Addr} (a : Step H H' F F') {b : Addr} (h : H' b = none) : H b = none := by
  cases z : H b with
  | none => rfl
  | some o =>
    obtain ⟨o', h'⟩ := a.old b o z
    rw [h] at h'
    cases h'
theorem Step.apart {H H' : Hp} {F F' : List Addr} (a : Step H H' F F') {b : Addr} {o : HO} (h : H b = some o) (n : b ∉ F) : b ∉ F' := fun m => by
  rcases a.new b m with z | z
  · exact n z
  · rw [h] at z
    cases z
/-- a list that is not the device's own -/
structure Own (H : Hp) (F : List Addr) (r : Addr) (q : List V) : Prop where
  rd : Rd H r (.lst q)
  ap : r ∉ F
theorem Own.sq {K : PySem.W.Frag} {H : Hp} {F : List Addr} {r : Addr} {q : List V} (o : Own H F r q) : SqL K H r q := .inl o.rd
theorem Own.step {H H' : Hp} {F F' : List Addr} {r : Addr} {q : List V} (o : Own H F r q) (a : Step H H' F F') : Own H' F' r q := by
  rcases o.rd with h | ⟨x, h⟩
  · exact ⟨.inl (a.keep _ _ h o.ap), a.apart h o.ap⟩
  · exact ⟨.inr ⟨x, a.keep _ _ h o.ap⟩, a.apart h o.ap⟩
theorem Own.same {H H' : Hp} {F : List Addr} {r : Addr} {q : List V} (o : Own H F r q) (e : Same H H') : Own H' F r q := o.step (.of_same e)
theorem DevAt.mem {C : Addr} {H : Hp} {d : Addr} {s : Sg46.Dev} {F : List Addr} (D : DevAt C H d s F) {a : Addr} (m : a ∈ F) : ∃ o, H a = some o := by
  obtain ⟨dx, t, c, ts, h1, h2, h3, h4, h5, h6, h7⟩ := D.ex
  subst h1
  rcases List.mem_cons.mp m with rfl | m
  · exact ⟨_, h4⟩
  rcases List.mem_cons.mp m with rfl | m
  · exact ⟨_, h5⟩
  rcases List.mem_cons.mp m with rfl | m
  · exact ⟨_, h6⟩
  · obtain ⟨i, hi⟩ := List.getElem?_of_mem m
    exact ⟨_, h7 i a hi⟩
/-- what is new is not the device's own -/
theorem DevAt.fresh {C : Addr} {H : Hp} {d : Addr} {s : Sg46.Dev} {F : List Addr} (D : DevAt C H d s F) {a : Addr} (n : H a = none) : a ∉ F := fun m => by
  obtain ⟨o, h⟩ := D.mem m
  rw [n] at h
  cases h
theorem DevAt.new {C : Addr} {H H' : Hp} {d : Addr} {s : Sg46.Dev} {F : List Addr} (D : DevAt C H d s F) {a : Addr} {q : List V} (n : H a = none) (h : H' a = some (.lst q)) : Own H' F a q := ⟨.inl h, D.fresh n⟩
theorem lk_here {k : Str} {v : V} {r : List (Str × V)} : List.lookup k ((k, v) :: r) = some v := by
  have e : (k == k) = true := beq_self_eq_true k
  simp only [List.lookup, e]
theorem lk_past {k g : Str} {v : V} {r : List (Str × V)} (h : (k == g) = false) : List.lookup k ((g, v) :: r) = List.lookup k r := by
  simp only [List.lookup, h]
theorem dF_unit (u t c : V) : (dF u t c).lookup ("unit" : Str) = some u := lk_here
theorem dF_tables (u t c : V) : (dF u t c).lookup ("tables" : Str) = some t := (lk_past (by decide +kernel)).trans lk_here
theorem dF_tallies (u t c : V) : (dF u t c).lookup ("tallies" : Str) = some c := (lk_past (by decide +kernel)).trans ((lk_past (by decide +kernel)).trans lk_here)
theorem dF_no {m : Str} (h1 : (m == ("unit" : Str)) = false) (h2 : (m == ("tables" : Str)) = false) (h3 : (m == ("tallies" : Str)) = false) (u t c : V) : (dF u t c).lookup m = none :=
  (lk_past h1).trans ((lk_past h2).trans ((lk_past h3).trans rfl))
theorem putF_here {f : Str} {v x : V} {r : List (Str × V)} : putF f v ((f, x) :: r) = (f, v) :: r := if_pos rfl
theorem putF_past {f g : Str} {v x : V} {r : List (Str × V)} (h : ¬ g = f) : putF f v ((g, x) :: r) = (g, x) :: putF f v r := if_neg h
theorem dF_putU (u t c x : V) : putF "unit" x (dF u t c) = dF x t c := putF_here
theorem dF_putT (u t c x : V) : putF "tables" x (dF u t c) = dF u x c := (putF_past (by decide +kernel)).trans (congrArg _ putF_here)
theorem dF_putC (u t c x : V) : putF "tallies" x (dF u t c) = dF u t x := (putF_past (by decide +kernel)).trans (congrArg _ ((putF_past (by decide +kernel)).trans (congrArg _ putF_here)))
theorem ifb {b : Bool} {A B : Prop} (h1 : b = true → A) (h0 : b = false → B) : if b = true then A else B := by
  cases b with
  | true => exact iteT (h1 rfl)
  | false => exact iteF (h0 rfl)
/-- the device's tables by number -/
theorem refs_at {ts : List Addr} {i : Nat} {a : Addr} (h : ts[i]? = some a) : atI (ts.map V.ref) (i : Int) = some (.ref a) := atI_nat (by rw [List.getElem?_map, h]; rfl)
/-- one table written at one place -/
theorem DevAt.put {C : Addr} {H : Hp} {d : Addr} {s : Sg46.Dev} {F : List Addr} {dx t c : Addr} {ts : List Addr} (hF : F = d :: t :: c :: ts) (hN : F.Nodup) (h3 : ts.length = 4)
    (h4 : H d = some (.ins C dx (dF (.int (s.unit : Nat)) (.ref t) (.ref c)))) (h5 : H t = some (.lst (ts.map V.ref))) (h6 : H c = some (.lst (nv s.counts))) (h7 : ∀ i a, ts[i]? = some a → H a = some (.lst (nv (tab s i))))
    {k i x : Nat} {a : Addr} (ha : ts[k]? = some a) (hi : i < s.size k) : DevAt C (upd H a (.lst (nv ((tab s k).set i x)))) d (s.put k i x) F := by
  have hN2 := hN
  rw [hF] at hN2
  have hm : a ∈ ts := List.mem_of_getElem? ha
  simp only [List.nodup_cons, List.mem_cons, not_or] at hN2
  obtain ⟨⟨d1, d2, d3⟩, ⟨t1, t2⟩, c1, n1⟩ := hN2
  refine ⟨dx, t, c, ts, hF, hN, h3, ?_, ?_, ?_, fun j b hb => ?_⟩
  · rw [upd_ne (fun (e : d = a) => d3 (by rw [e]; exact hm))]
    exact h4
  · rw [upd_ne (fun (e : t = a) => t2 (by rw [e]; exact hm))]
    exact h5
  · rw [upd_ne (fun (e : c = a) => c1 (by rw [e]; exact hm))]
    exact h6
  · by_cases e : j = k
    · subst e
      rw [ha] at hb
      obtain rfl := Option.some.inj hb
      rw [upd_same, tab_put hi]
    · have hab : b ≠ a := fun z => by
        subst z
        obtain ⟨l1, e1⟩ := List.getElem?_eq_some_iff.mp hb
        obtain ⟨l2, e2⟩ := List.getElem?_eq_some_iff.mp ha
        exact e ((List.getElem_inj n1).mp (e1.trans e2.symm))
      rw [upd_ne hab, tab_other e]
      exact h7 j b hb
section
variable {P : Program} {w : World} {K : PySem.W.Frag} {mg : Str → Option Value} {base : Heap} {A : Ad}
/-! ### has_places -/
def hasI (s : Sg46.Dev) (t i n : Int) : Bool := (decide (0 ≤ t) && decide (t < 4)) && (decide (0 ≤ i) && decide (i + n ≤ s.size t.toNat))
def sp_has_places (A : Ad) : Sp := fun vs H Q _ => ∃ (d : Addr) (t i n : Int) (s : Sg46.Dev) (F : List Addr), vs = [.ref d, .int t, .int i, .int n] ∧ DevAt A.C H d s F ∧ Q (.bl (hasI s t i n)) H
theorem ok_has_places {f : Addr} {fd : FuncData} (Fn : Fun K "has_places" "Device.has_places" s_has_places f fd) (T : Txt K mg A) : FnOk P w K mg base CX0 1 f fd ["self", "table", "place", "many"] (sp_has_places A) := by
  refine Fn.ok sc_has_places (fun vs H Q E h => ?_) (fun cdv Ar outer sh H vs Q E hr h => ?_)
  · obtain ⟨_, _, _, _, _, _, rfl, _⟩ := h
    rfl
  · have sc := sc_has_places
    refine ⟨_, (pss_cons (ps_if (pt_not (pt_chain op_le op_lt pe_int (pv 1) (pe_callB call_len_seq (by rfl) T.b_len PySem.boot_len (pa_cons (pe_fld (pv 0) rfl) pa_nil)))) (pss_one (ps_ret pe_bl)) pss_nil)
      (pss_one (ps_ret (pe_and (pe_cmpR op_ge (pv 2) pe_int (nomark _)) (pe_one (pe_cmpR op_le (pe_op op_add (pv 2) (pv 3)) (pe_callB call_len_seq (by rfl) T.b_len PySem.boot_len (pa_cons (pe_ix ix_list (pe_fld (pv 0) rfl) (pv 1) (fun _ _ => rfl)) pa_nil)) (nomark _))))))), ?_⟩
    obtain ⟨d, t, i, n, s, F, rfl, D, q⟩ := h
    obtain ⟨dx, ta, c, ts, hF, hN, h3, h4, h5, h6, h7⟩ := D.ex
    refine ⟨_, rfl, _, _, rfl, rfl, _, rfl, ifb (fun b1 => ?_) (fun b1 => ?_)⟩
    · refine ⟨_, rfl, d, _, dx, _, _, rfl, h4, T.cl, T.n_tables, dF_tables _ _ _, ta, _, rfl, .inl (SqL.of h5), _, _, rfl, rfl, _, rfl, ifb (fun b2 => ?_) (fun b2 => ?_)⟩
      · have e : hasI s t i n = false := by
          rw [List.length_map, h3] at b2
          simp at b2
          simp [hasI]
          omega
        rw [e] at q
        exact q
      · rw [List.length_map, h3] at b2
        simp at b1 b2
        obtain ⟨k, rfl⟩ := Int.eq_ofNat_of_zero_le b1
        obtain ⟨a, ha⟩ : ∃ a, ts[k]? = some a := ⟨ts[k]'(by omega), by simp⟩
        refine ⟨_, rfl, _, _, rfl, rfl, _, rfl, ifb (fun b3 => ?_) (fun b3 => ?_)⟩
        · refine ⟨_, rfl, _, rfl, _, _, rfl, rfl, _, rfl, d, _, dx, _, _, rfl, h4, T.cl, T.n_tables, dF_tables _ _ _, _, rfl, ta, _, _, _, rfl, rfl, SqL.of h5, refs_at ha, a, _, rfl, .inl (SqL.of (h7 k a ha)), _, _, rfl, rfl, ?_⟩
          have e : hasI s k i n = decide (i + n ≤ ((nv (tab s k)).length : Int)) := by
            simp at b3
            simp [hasI, nv_len, tab_len, b3, b2]
          rw [e] at q
          exact q
        · have e : hasI s k i n = false := by
            simp at b3
            simp [hasI]
            omega
          rw [e] at q
          exact q
    · have e : hasI s t i n = false := by
        simp at b1
        simp [hasI]
        omega
      rw [e] at q
      exact ⟨_, rfl, iteT q⟩
/-! ### get_value, set_value -/
def sp_get_value (A : Ad) : Sp := fun vs H Q _ => ∃ (d : Addr) (t i : Int) (s : Sg46.Dev) (F : List Addr), vs = [.ref d, .int t, .int i] ∧ DevAt A.C H d s F ∧ Q (.int (if hasI s t i 1 = true then (s.held t.toNat i.toNat : Nat) else -2)) H
theorem no_has (u t c : V) : (dF u t c).lookup ("has_places" : Str) = none := dF_no (by decide +kernel) (by decide +kernel) (by decide +kernel) u t c
theorem ok_get_value {f : Addr} {fd : FuncData} (Fn : Fun K "get_value" "Device.get_value" s_get_value f fd) (T : Txt K mg A) (c_has_places : C8.Met P w K mg base 1 A.C "has_places" (sp_has_places A) []) : FnOk P w K mg base CX0 2 f fd ["self", "table", "place"] (sp_get_value A) := by
  refine Fn.ok sc_get_value (fun vs H Q E h => ?_) (fun cdv Ar outer sh H vs Q E hr h => ?_)
  · obtain ⟨_, _, _, _, _, rfl, _⟩ := h
    rfl
  · have sc := sc_get_value
    refine ⟨_, (pss_cons (ps_if (pt_not (pt_val (C8.pe_mt c_has_places hr (by decide) (pv 0) (pa_cons (pv 1) (pa_cons (pv 2) (pa_cons pe_int pa_nil)))))) (pss_one (ps_ret (pe_gi (by rfl) T.g_OUT_OF_RANGE))) pss_nil)
      (pss_one (ps_ret (pe_ix ix_list (pe_ix ix_list (pe_fld (pv 0) rfl) (pv 1) (fun _ _ => rfl)) (pv 2) (fun _ _ => rfl))))), ?_⟩
    obtain ⟨d, t, i, s, F, rfl, D, q⟩ := h
    have D' := D
    obtain ⟨dx, ta, c, ts, hF, hN, h3, h4, h5, h6, h7⟩ := D.ex
    refine ⟨_, rfl, d, dx, _, rfl, h4, no_has _ _ _, _, rfl, _, rfl, d, t, i, 1, s, F, rfl, D', _, rfl, ifb (fun b1 => ?_) (fun b1 => ?_)⟩
    · simp at b1
      rw [b1, if_neg (by decide)] at q
      exact q
    · simp at b1
      have b2 := b1
      simp [hasI] at b2
      obtain ⟨⟨t0, t4⟩, i0, i1⟩ := b2
      obtain ⟨k, rfl⟩ := Int.eq_ofNat_of_zero_le t0
      obtain ⟨j, rfl⟩ := Int.eq_ofNat_of_zero_le i0
      obtain ⟨a, ha⟩ : ∃ a, ts[k]? = some a := ⟨ts[k]'(by omega), by simp⟩
      have hj : j < s.size k := by
        have : ((k : Nat) : Int).toNat = k := Int.toNat_natCast k
        rw [this] at i1
        omega
      refine ⟨_, rfl, d, _, dx, _, _, rfl, h4, T.cl, T.n_tables, dF_tables _ _ _, _, rfl, ta, _, _, _, rfl, rfl, SqL.of h5, refs_at ha, _, rfl, a, _, _, _, rfl, rfl, SqL.of (h7 k a ha), nv_at (by rw [tab_len]; exact hj), ?_⟩
      rw [b1, if_pos rfl] at q
      rw [tab_get hj]
      exact q
def sp_set_value (A : Ad) : Sp := fun vs H Q _ => ∃ (d : Addr) (t i x : Int) (s : Sg46.Dev) (F : List Addr), vs = [.ref d, .int t, .int i, .int x] ∧ DevAt A.C H d s F ∧
  ((hasI s t i 1 && (decide (0 ≤ x) && decide (x ≤ if t < 2 then 1 else 65535))) = false → Q (.int (-2)) H) ∧
  ((hasI s t i 1 && (decide (0 ≤ x) && decide (x ≤ if t < 2 then 1 else 65535))) = true → ∀ H', Step H H' F F → DevAt A.C H' d (s.put t.toNat i.toNat x.toNat) F → Q (.int 0) H')
theorem great_at {k : Nat} (h : k < 4) : atI [V.int 1, V.int 1, V.int 65535, V.int 65535] (k : Int) = some (V.int (if (k : Int) < 2 then 1 else 65535)) := by
  have : k = 0 ∨ k = 1 ∨ k = 2 ∨ k = 3 := by omega
  rcases this with rfl | rfl | rfl | rfl <;> rfl
theorem ok_set_value {f : Addr} {fd : FuncData} (Fn : Fun K "set_value" "Device.set_value" s_set_value f fd) (T : Txt K mg A) (c_has_places : C8.Met P w K mg base 1 A.C "has_places" (sp_has_places A) []) : FnOk P w K mg base CX0 2 f fd ["self", "table", "place", "value"] (sp_set_value A) := by
  refine Fn.ok sc_set_value (fun vs H Q E h => ?_) (fun cdv Ar outer sh H vs Q E hr h => ?_)
  · obtain ⟨_, _, _, _, _, _, rfl, _⟩ := h
    rfl
  · have sc := sc_set_value
    refine ⟨_, (pss_cons (ps_if (pt_not (pt_val (C8.pe_mt c_has_places hr (by decide) (pv 0) (pa_cons (pv 1) (pa_cons (pv 2) (pa_cons pe_int pa_nil)))))) (pss_one (ps_ret (pe_gi (by rfl) T.g_OUT_OF_RANGE))) pss_nil)
      (pss_cons (ps_if (pt_not (pt_chain op_le op_le pe_int (pv 3) (pe_ix ix_tup (pe_gr (by rfl) T.g_GREATEST_VALUES) (pv 1) (fun _ _ => rfl)))) (pss_one (ps_ret (pe_gi (by rfl) T.g_OUT_OF_RANGE))) pss_nil)
      (pss_cons (ps_asg (pv 3) (pg_sub (pe_ix ix_list (pe_fld (pv 0) rfl) (pv 1) (fun _ _ => rfl)) (pv 2) set_list))
      (pss_one (ps_ret pe_int))))), ?_⟩
    obtain ⟨d, t, i, x, s, F, rfl, D, q0, q1⟩ := h
    have D' := D
    obtain ⟨dx, ta, c, ts, hF, hN, h3, h4, h5, h6, h7⟩ := D.ex
    refine ⟨_, rfl, d, dx, _, rfl, h4, no_has _ _ _, _, rfl, _, rfl, d, t, i, 1, s, F, rfl, D', _, rfl, ifb (fun b1 => ?_) (fun b1 => ?_)⟩
    · simp at b1
      exact q0 (by rw [b1]; rfl)
    · simp at b1
      have b2 := b1
      simp [hasI] at b2
      obtain ⟨⟨t0, t4⟩, i0, i1⟩ := b2
      obtain ⟨k, rfl⟩ := Int.eq_ofNat_of_zero_le t0
      obtain ⟨j, rfl⟩ := Int.eq_ofNat_of_zero_le i0
      obtain ⟨a, ha⟩ : ∃ a, ts[k]? = some a := ⟨ts[k]'(by omega), by simp⟩
      have hj : j < s.size k := by
        have : ((k : Nat) : Int).toNat = k := Int.toNat_natCast k
        rw [this] at i1
        omega
      refine ⟨_, rfl, _, _, rfl, rfl, _, rfl, ifb (fun b3 => ?_) (fun b3 => ?_)⟩
      · refine ⟨_, rfl, _, _, _, _, rfl, rfl, T.t_GREATEST_VALUES _, great_at (by omega), _, _, rfl, rfl, _, rfl, ifb (fun b4 => ?_) (fun b4 => ?_)⟩
        · simp at b4
          refine q0 ?_
          rw [b1]
          simp at b3
          have : ¬ x ≤ if (k : Int) < 2 then 1 else 65535 := by omega
          simp [this]
        · simp at b3 b4
          obtain ⟨y, rfl⟩ := Int.eq_ofNat_of_zero_le b3
          refine ⟨_, rfl, _, rfl, d, _, dx, _, _, rfl, h4, T.cl, T.n_tables, dF_tables _ _ _, _, rfl, ta, _, _, _, rfl, rfl, SqL.of h5, refs_at ha, _, rfl, a, _, _, j, rfl, rfl, h7 k a ha, ?_, ?_⟩
          · rw [nv_len, tab_len]
            exact Evl.ixN_nat hj
          · rw [nv_set]
            refine q1 ?_ _ ⟨fun b o hb nb => ?_, fun b hb => .inl hb, old_upd (old_same (Same.refl _)) _ _⟩ (DevAt.put hF hN h3 h4 h5 h6 h7 ha hj)
            · rw [b1]
              simp [b4]
            · rw [upd_ne (fun (z : b = a) => nb (by rw [hF, z]; simp [List.mem_of_getElem? ha]))]
              exact hb
      · refine ⟨_, rfl, iteT (q0 ?_)⟩
        simp at b3
        rw [b1]
        have : ¬ (0 : Int) ≤ x := by omega
        simp [this]
/-! ### row_at -/
def sp_row_at (A : Ad) : Sp := fun vs H Q _ => ∃ (d : Addr) (t i n : Nat) (s : Sg46.Dev) (F : List Addr), vs = [.ref d, .int t, .int i, .int n] ∧ DevAt A.C H d s F ∧ t < 4 ∧ NewL H Q (nv (((tab s t).drop i).take n))
theorem cut_any (l : List Nat) (i n : Nat) : cutV (nv l) (some (i : Int)) (some ((i : Int) + (n : Int))) = nv ((l.drop i).take n) := by
  have e : (i : Int) + (n : Int) = ((i + n : Nat) : Int) := by omega
  unfold cutV
  rw [e, HT.sIx_nat, HT.sIx_nat, nv_len, nv_drop, nv_take]
  congr 1
  by_cases h : i ≤ l.length
  · rw [Nat.min_eq_left h]
    by_cases h2 : i + n ≤ l.length
    · rw [Nat.min_eq_left h2, Nat.add_sub_cancel_left]
    · rw [Nat.min_eq_right (by omega), List.take_of_length_le (by rw [List.length_drop]; omega), List.take_of_length_le (by rw [List.length_drop]; omega)]
  · rw [List.drop_of_length_le (by omega), List.drop_of_length_le (by omega)]
    simp
theorem ok_row_at {f : Addr} {fd : FuncData} (Fn : Fun K "row_at" "Device.row_at" s_row_at f fd) (T : Txt K mg A) : FnOk P w K mg base CX0 1 f fd ["self", "table", "place", "many"] (sp_row_at A) := by
  refine Fn.ok sc_row_at (fun vs H Q E h => ?_) (fun cdv Ar outer sh H vs Q E hr h => ?_)
  · obtain ⟨_, _, _, _, _, _, rfl, _⟩ := h
    rfl
  · have sc := sc_row_at
    refine ⟨_, (pss_one (ps_ret (pe_slice sl_list (pe_ix ix_list (pe_fld (pv 0) rfl) (pv 1) (fun _ _ => rfl)) (po_some (pv 2)) (po_some (pe_op op_add (pv 2) (pv 3)))))), ?_⟩
    obtain ⟨d, t, i, n, s, F, rfl, D, ht, q⟩ := h
    obtain ⟨dx, ta, c, ts, hF, hN, h3, h4, h5, h6, h7⟩ := D.ex
    obtain ⟨a, ha⟩ : ∃ a, ts[t]? = some a := ⟨ts[t]'(by omega), by simp⟩
    refine ⟨_, rfl, d, _, dx, _, _, rfl, h4, T.cl, T.n_tables, dF_tables _ _ _, _, rfl, ta, _, _, _, rfl, rfl, SqL.of h5, refs_at ha, _, rfl, _, rfl, _, rfl, _, rfl, _, _, rfl, rfl, _, rfl, a, _, rfl, SqL.of (h7 t a ha), fun p np => ?_⟩
    rw [cut_any]
    exact q _ p (same_upd np) np upd_same
/-! ### tally, clear_tallies -/
def sp_tally (A : Ad) : Sp := fun vs H Q _ => ∃ (d : Addr) (k : Nat) (s : Sg46.Dev) (F : List Addr), vs = [.ref d, .int k] ∧ DevAt A.C H d s F ∧ k < s.counts.length ∧ ∀ H', Step H H' F F → DevAt A.C H' d (s.more k) F → Q .non H'
theorem DevAt.cnt {C : Addr} {H : Hp} {d : Addr} {s : Sg46.Dev} {F : List Addr} {dx t c : Addr} {ts : List Addr} (hF : F = d :: t :: c :: ts) (hN : F.Nodup) (h3 : ts.length = 4)
    (h4 : H d = some (.ins C dx (dF (.int (s.unit : Nat)) (.ref t) (.ref c)))) (h5 : H t = some (.lst (ts.map V.ref))) (h7 : ∀ i a, ts[i]? = some a → H a = some (.lst (nv (tab s i))))
    (l : List Nat) : DevAt C (upd H c (.lst (nv l))) d { s with counts := l } F := by
  have hN2 := hN
  rw [hF] at hN2
  simp only [List.nodup_cons, List.mem_cons, not_or] at hN2
  obtain ⟨⟨d1, d2, d3⟩, ⟨t1, t2⟩, c1, n1⟩ := hN2
  refine ⟨dx, t, c, ts, hF, hN, h3, ?_, ?_, upd_same, fun j b hb => ?_⟩
  · rw [upd_ne d2]
    exact h4
  · rw [upd_ne t1]
    exact h5
  · rw [upd_ne (fun (e : b = c) => c1 (by rw [← e]; exact List.mem_of_getElem? hb)), tab_counts]
    exact h7 j b hb
theorem ok_tally {f : Addr} {fd : FuncData} (Fn : Fun K "tally" "Device.tally" s_tally f fd) (T : Txt K mg A) : FnOk P w K mg base CX0 1 f fd ["self", "which"] (sp_tally A) := by
  refine Fn.ok sc_tally (fun vs H Q E h => ?_) (fun cdv Ar outer sh H vs Q E hr h => ?_)
  · obtain ⟨_, _, _, _, rfl, _⟩ := h
    rfl
  · have sc := sc_tally
    refine ⟨_, (pss_one (ps_asg (pe_op op_mod (pe_op op_add (pe_ix ix_list (pe_fld (pv 0) rfl) (pv 1) (fun _ _ => rfl)) pe_int) pe_int) (pg_sub (pe_fld (pv 0) rfl) (pv 1) set_list))), ?_⟩
    obtain ⟨d, k, s, F, rfl, D, hk, q⟩ := h
    obtain ⟨dx, ta, c, ts, hF, hN, h3, h4, h5, h6, h7⟩ := D.ex
    refine ⟨_, rfl, d, _, dx, _, _, rfl, h4, T.cl, T.n_tallies, dF_tallies _ _ _, _, rfl, c, _, _, _, rfl, rfl, SqL.of h6, nv_at hk, _, _, rfl, rfl, _, _, rfl, rfl, (by show (0 : Int) < 65536; decide), ?_⟩
    refine ⟨_, rfl, d, _, dx, _, _, rfl, h4, T.cl, T.n_tallies, dF_tallies _ _ _, _, rfl, c, _, _, k, rfl, rfl, h6, ?_, ?_⟩
    · rw [nv_len]
      exact Evl.ixN_nat hk
    · have e : (((s.counts.getD k 0 : Nat) : Int) + 1) % 65536 = (((s.counts.getD k 0 + 1) % 65536 : Nat) : Int) := by omega
      show Q .non (upd H c (.lst ((nv s.counts).set k (V.int ((((s.counts.getD k 0 : Nat) : Int) + 1) % 65536)))))
      rw [e, nv_set]
      refine q _ ⟨fun b o hb nb => ?_, fun b hb => .inl hb, old_upd (old_same (Same.refl _)) _ _⟩ (DevAt.cnt hF hN h3 h4 h5 h7 _)
      rw [upd_ne (fun (z : b = c) => nb (by rw [hF, z]; simp))]
      exact hb
def sp_clear_tallies (A : Ad) : Sp := fun vs H Q _ => ∃ (d : Addr) (s : Sg46.Dev) (F : List Addr), vs = [.ref d] ∧ DevAt A.C H d s F ∧ ∀ H' F', Step H H' F F' → DevAt A.C H' d { s with counts := List.replicate 6 0 } F' → Q .non H'
theorem DevAt.newC {C : Addr} {H H2 : Hp} {d : Addr} {s : Sg46.Dev} {F : List Addr} {dx t c : Addr} {ts : List Addr} {l : List Nat} {p : Addr} (hF : F = d :: t :: c :: ts) (hN : F.Nodup) (h3 : ts.length = 4)
    (h4 : H d = some (.ins C dx (dF (.int (s.unit : Nat)) (.ref t) (.ref c)))) (h5 : H t = some (.lst (ts.map V.ref))) (h7 : ∀ i a, ts[i]? = some a → H a = some (.lst (nv (tab s i))))
    (e : Same H H2) (np : H p = none) (hp : H2 p = some (.lst (nv l))) : DevAt C (upd H2 d (.ins C dx (dF (.int (s.unit : Nat)) (.ref t) (.ref p)))) d { s with counts := l } (d :: t :: p :: ts) := by
  rw [hF] at hN
  simp only [List.nodup_cons, List.mem_cons, not_or] at hN
  obtain ⟨⟨d1, d2, d3⟩, ⟨t1, t2⟩, c1, n1⟩ := hN
  have pd : p ≠ d := (ne_of_none h4 np).symm
  have pt : p ≠ t := (ne_of_none h5 np).symm
  have pm : p ∉ ts := fun m => by
    obtain ⟨i, hi⟩ := List.getElem?_of_mem m
    exact ne_of_none (h7 i p hi) np rfl
  refine ⟨dx, t, p, ts, rfl, ?_, h3, upd_same, ?_, ?_, fun j b hb => ?_⟩
  · simp only [List.nodup_cons, List.mem_cons, not_or]
    exact ⟨⟨d1, pd.symm, d3⟩, ⟨pt.symm, t2⟩, pm, n1⟩
  · rw [upd_ne (fun z => d1 z.symm)]
    exact e _ _ h5
  · rw [upd_ne pd]
    exact hp
  · rw [upd_ne (fun (z : b = d) => d3 (by rw [← z]; exact List.mem_of_getElem? hb)), tab_counts]
    exact e _ _ (h7 j b hb)
theorem ok_clear_tallies {f : Addr} {fd : FuncData} (Fn : Fun K "clear_tallies" "Device.clear_tallies" s_clear_tallies f fd) (T : Txt K mg A) : FnOk P w K mg base CX0 1 f fd ["self"] (sp_clear_tallies A) := by
  refine Fn.ok sc_clear_tallies (fun vs H Q E h => ?_) (fun cdv Ar outer sh H vs Q E hr h => ?_)
  · obtain ⟨_, _, _, rfl, _⟩ := h
    rfl
  · have sc := sc_clear_tallies
    refine ⟨_, (pss_one (ps_fld (pv 0) (pe_op op_rep (pe_lst (pa_cons pe_int pa_nil)) pe_int) rfl)), ?_⟩
    obtain ⟨d, s, F, rfl, D, q⟩ := h
    obtain ⟨dx, ta, c, ts, hF, hN, h3, h4, h5, h6, h7⟩ := D.ex
    refine ⟨by show 1 ≤ sizeLine; decide, fun o no => ?_⟩
    refine ⟨o, _, _, rfl, rfl, upd_same, by decide, by decide, by decide, fun p np => ?_⟩
    have s1 : Same H (upd H o (.lst [V.int 0])) := same_upd no
    have np0 : H p = none := s1.free np
    have s2 : Same H (upd (upd H o (.lst [V.int 0])) p (.lst (List.replicate (6 : Int).toNat [V.int 0]).flatten)) := same_new s1 np0
    refine ⟨_, rfl, d, _, dx, _, rfl, s2 _ _ h4, T.cl, T.n_tallies, (by show 3 < 1000; decide), ?_⟩
    rw [dF_putC]
    refine q _ (d :: ta :: p :: ts) ?_ (DevAt.newC hF hN h3 h4 h5 h7 s2 np0 (by rw [upd_same]; exact congrArg (fun z => some (HO.lst z)) (rep_flat 6)))
    refine ⟨fun b u hb nb => ?_, fun b hb => ?_, old_upd (old_same s2) _ _⟩
    · rw [upd_ne (fun (z : b = d) => nb (by rw [hF, z]; simp))]
      exact s2 b u hb
    · simp only [List.mem_cons] at hb
      rw [hF]
      simp only [List.mem_cons]
      rcases hb with z | z | z | z
      · exact .inl (.inl z)
      · exact .inl (.inr (.inl z))
      · exact .inr (by rw [z]; exact np0)
      · exact .inl (.inr (.inr (.inr z)))
/-! ### put_row -/
theorem puts_size (t : Nat) : ∀ (l : List Nat) (s : Sg46.Dev) (i u : Nat), (s.puts t i l).size u = s.size u
  | [], _, _, _ => rfl
  | x :: r, s, i, u => (puts_size t r (s.put t i x) (i + 1) u).trans rfl
theorem puts_app (t : Nat) : ∀ (a b : List Nat) (s : Sg46.Dev) (i : Nat), s.puts t i (a ++ b) = (s.puts t i a).puts t (i + a.length) b
  | [], _, _, _ => rfl
  | x :: r, b, s, i => by
    show (s.put t i x).puts t (i + 1) (r ++ b) = ((s.put t i x).puts t (i + 1) r).puts t (i + (r.length + 1)) b
    rw [puts_app t r b, Nat.add_assoc, Nat.add_comm 1]
theorem puts_more {t : Nat} {l : List Nat} {j x : Nat} (h : l[j]? = some x) (s : Sg46.Dev) (i : Nat) : s.puts t i (l.take (j + 1)) = (s.puts t i (l.take j)).put t (i + j) x := by
  have hj : j < l.length := (List.getElem?_eq_some_iff.mp h).1
  rw [take_more h, puts_app, List.length_take, Nat.min_eq_left (by omega)]
  rfl
def sp_put_row (A : Ad) : Sp := fun vs H Q _ => ∃ (d : Addr) (t i : Nat) (r : Addr) (xs : List Nat) (s : Sg46.Dev) (F : List Addr), vs = [.ref d, .int t, .int i, .ref r] ∧ DevAt A.C H d s F ∧ Own H F r (nv xs) ∧ t < 4 ∧ i + xs.length ≤ s.size t ∧
  ∀ H', Step H H' F F → DevAt A.C H' d (s.puts t i xs) F → Q .non H'
theorem ok_put_row {f : Addr} {fd : FuncData} (Fn : Fun K "put_row" "Device.put_row" s_put_row f fd) (T : Txt K mg A) : FnOk P w K mg base CX0 1 f fd ["self", "table", "place", "fresh"] (sp_put_row A) := by
  refine Fn.ok sc_put_row (fun vs H Q E h => ?_) (fun cdv Ar outer sh H vs Q E hr h => ?_)
  · obtain ⟨_, _, _, _, _, _, _, rfl, _⟩ := h
    rfl
  · have sc := sc_put_row
    refine ⟨_, (pss_one (ps_for PassesOwn.never rfl (pi_enum (by rfl) T.b_enumerate (pa_cons (pv 3) pa_nil)) (pg_tup rfl (pgs_cons (pg_name (i := 4) sc.nd rfl (Or.inl rfl)) (pgs_cons (pg_name (i := 5) sc.nd rfl (Or.inl rfl)) pgs_nil))) (pss_one (ps_asg (pv 5) (pg_sub (pe_ix ix_list (pe_fld (pv 0) rfl) (pv 1) (fun _ _ => rfl)) (pe_op op_add (pv 2) (pv 4)) set_list))))), ?_⟩
    obtain ⟨d, t, i, r, xs, s, F, rfl, D, O, ht, hi, q⟩ := h
    refine ⟨_, rfl, r, _, rfl, O.sq, for_it (walk_enum (xs := nv xs)) (fun j σ H' => ∃ v u : Option V, σ = [some (.ref d), some (.int t), some (.int i), some (.ref r), v, u] ∧ Step H H' F F ∧ DevAt A.C H' d (s.puts t i (xs.take j)) F)
      ⟨none, none, rfl, .of_same (Same.refl H), D⟩ (fun j σ H' _ ⟨_, _, _, e, _⟩ => (O.step e).sq) ?_ ?_⟩
    · rintro j x σ H1 H2 hj ⟨v, u, rfl, e, D1⟩ ⟨p, x1, x2, rfl, np, rfl, e1, e2⟩
      obtain rfl := Option.some.inj e1
      obtain ⟨y, hy, rfl⟩ := nv_one e2
      rw [nv_len] at hj
      have s1 : Same H1 (upd H1 p (.tup [.int (j : Nat), .int (y : Nat)])) := same_upd np
      have D2 := D1.same s1
      obtain ⟨dx, ta, c, ts, hF, hN, h3, h4, h5, h6, h7⟩ := D2.ex
      obtain ⟨a, ha⟩ : ∃ a, ts[t]? = some a := ⟨ts[t]'(by omega), by simp⟩
      have hij : i + j < (s.puts t i (xs.take j)).size t := by rw [puts_size]; omega
      refine ⟨p, _, rfl, SqT.of upd_same, rfl, _, _, rfl, _, _, rfl, rfl, ?_⟩
      refine ⟨_, rfl, _, rfl, d, _, dx, _, _, rfl, h4, T.cl, T.n_tables, dF_tables _ _ _, _, rfl, ta, _, _, _, rfl, rfl, SqL.of h5, refs_at ha, _, rfl, _, rfl, _, _, rfl, rfl, a, _, _, i + j, rfl, rfl, h7 t a ha, ?_, ?_⟩
      · rw [nv_len, tab_len]
        exact Evl.ixN_nat hij
      · rw [nv_set]
        refine ⟨some (.int (j : Nat)), some (.int (y : Nat)), rfl, e.trans ⟨fun b o hb nb => ?_, fun b hb => .inl hb, old_upd (old_same s1) _ _⟩, ?_⟩
        · rw [upd_ne (fun (z : b = a) => nb (by rw [hF, z]; simp [List.mem_of_getElem? ha]))]
          exact s1 b o hb
        · rw [puts_more hy]
          exact DevAt.put hF hN h3 h4 h5 h6 h7 ha hij
    · rintro σ H' ⟨v, u, rfl, e, D1⟩
      rw [nv_len, List.take_length] at D1
      exact q H' e D1
/-! ### begin -/
def okI (u : Int) (ns : List Int) : Bool := Sg46.within u 1 247 && ns.all fun n => Sg46.within n 0 65536
def sp_begin (A : Ad) : Sp := fun vs H Q _ => ∃ (d : Addr) (u : Int) (r : Addr) (ns : List Int) (s : Sg46.Dev) (F : List Addr), vs = [.ref d, .int u, .ref r] ∧ DevAt A.C H d s F ∧ Own H F r (ns.map V.int) ∧ ns.length = 4 ∧
  (okI u ns = false → Q (.int (-2)) H) ∧ (okI u ns = true → ∀ H' F', Step H H' F F' → DevAt A.C H' d (Sg46.fresh u.toNat (ns.map Int.toNat)) F' → Q (.int 0) H')
theorem no_clear (u t c : V) : (dF u t c).lookup ("clear_tallies" : Str) = none := dF_no (by decide +kernel) (by decide +kernel) (by decide +kernel) u t c
theorem ints_one {l : List Int} {i : Nat} {v : V} (h : (l.map V.int)[i]? = some v) : ∃ n, l[i]? = some n ∧ v = V.int n := by
  rw [List.getElem?_map] at h
  cases e : l[i]? with
  | none => rw [e] at h; cases h
  | some n => rw [e] at h; exact ⟨n, rfl, (Option.some.inj h).symm⟩
theorem ok_begin {f : Addr} {fd : FuncData} (Fn : Fun K "begin" "Device.begin" s_begin f fd) (T : Txt K mg A) (c_clear_tallies : C8.Met P w K mg base 1 A.C "clear_tallies" (sp_clear_tallies A) []) : FnOk P w K mg base CX0 2 f fd ["self", "unit", "sizes"] (sp_begin A) := by
  refine Fn.ok sc_begin (fun vs H Q E h => ?_) (fun cdv Ar outer sh H vs Q E hr h => ?_)
  · obtain ⟨_, _, _, _, _, _, rfl, _⟩ := h
    rfl
  · have sc := sc_begin
    refine ⟨_, (pss_cons (ps_if (pt_not (pt_chain op_le op_le pe_int (pv 1) pe_int)) (pss_one (ps_ret (pe_gi (by rfl) T.g_OUT_OF_RANGE))) pss_nil)
      (pss_cons (ps_for PassesOwn.never rfl (pi_list (pv 2)) (pg_name (i := 3) sc.nd rfl (Or.inl rfl)) (pss_one (ps_if (pt_not (pt_chain op_le op_le pe_int (pv 3) (pe_gi (by rfl) T.g_GREATEST_SIZE))) (pss_one (ps_ret (pe_gi (by rfl) T.g_OUT_OF_RANGE))) pss_nil)))
      (pss_cons (ps_fld (pv 0) (pv 1) rfl)
      (pss_cons (ps_fld (pv 0) (pe_lc (own := [("size", 3)]) (g := gName 3) rfl sc.nd (pi_list (pv 2)) (blkOk_by (own := [("size", 3)]) (N := n_begin) (sc := defScope s_begin) (by decide +kernel)) (fun _ _ _ _ _ => (pg_name (i := 3) sc.nd rfl (Or.inl rfl))) (fun _ _ _ _ _ => pts_nil) (fun _ _ _ _ _ => (pe_op op_rep (pe_lst (pa_cons pe_int pa_nil)) (pv 3)))) rfl)
      (pss_cons (ps_expr (C8.pe_mt0 c_clear_tallies hr (by decide) (pv 0)))
      (pss_one (ps_ret pe_int))))))), ?_⟩
    obtain ⟨d, u, r, ns, s, F, rfl, D, O, hl, q0, q1⟩ := h
    have no1 : Sg46.within u 1 247 = false → okI u ns = false := fun z => by unfold okI; rw [z]; rfl
    refine ⟨_, rfl, _, _, rfl, rfl, _, rfl, ifb (fun b1 => ⟨_, _, rfl, rfl, _, rfl, ifb (fun b2 => ?_) (fun b2 => ?_)⟩) (fun b1 => ⟨_, rfl, iteT ?_⟩)⟩
    · refine q0 (no1 ?_)
      unfold Sg46.within
      simp at b2 ⊢
      omega
    · have hu : Sg46.within u 1 247 = true := by
        unfold Sg46.within
        simp at b1 b2 ⊢
        omega
      refine ⟨_, rfl, r, rfl, ⟨_, O.sq⟩, for_list (K := K) (a := r) (xs := ns.map V.int) (fun i σ H' => ∃ v : Option V, σ = [some (.ref d), some (.int u), some (.ref r), v] ∧ H' = H ∧ ∀ n ∈ ns.take i, Sg46.within n 0 65536 = true)
        ⟨none, rfl, rfl, fun n m => absurd m (by simp)⟩ (fun i σ H' _ ⟨_, _, e, _⟩ => by rw [e]; exact O.sq) ?_ ?_⟩
      · rintro i y σ H' hi ⟨v, rfl, rfl, ha⟩
        obtain ⟨n, hn, rfl⟩ := ints_one hi
        have bad : Sg46.within n 0 65536 = false → okI u ns = false := fun z => by
          unfold okI
          rw [Bool.and_eq_false_iff]
          exact .inr (List.all_eq_false.mpr ⟨n, List.mem_of_getElem? hn, by rw [z]; decide⟩)
        refine ⟨_, rfl, _, _, rfl, rfl, _, rfl, ifb (fun c1 => ⟨_, _, rfl, rfl, _, rfl, ifb (fun c2 => ?_) (fun c2 => ?_)⟩) (fun c1 => ⟨_, rfl, iteT ?_⟩)⟩
        · refine q0 (bad ?_)
          unfold Sg46.within
          simp at c2 ⊢
          omega
        · refine ⟨some (.int n), rfl, rfl, fun m hm => ?_⟩
          rw [take_more hn] at hm
          rcases List.mem_append.mp hm with z | z
          · exact ha m z
          · rw [List.mem_singleton] at z
            subst z
            unfold Sg46.within
            simp at c1 c2 ⊢
            omega
        · refine q0 (bad ?_)
          unfold Sg46.within
          simp at c1 ⊢
          omega
      · rintro σ H' ⟨v, rfl, rfl, ha⟩
        rw [List.length_map, List.take_length] at ha
        have hok : okI u ns = true := by
          unfold okI
          rw [hu, List.all_eq_true.mpr ha]
          rfl
        obtain ⟨dx, ta, c, ts, hF, hN, h3, h4, h5, h6, h7⟩ := D.ex
        have hN2 := hN
        rw [hF] at hN2
        simp only [List.nodup_cons, List.mem_cons, not_or] at hN2
        obtain ⟨⟨d1, d2, d3⟩, ⟨t1, t2⟩, c1, n1⟩ := hN2
        refine ⟨_, rfl, _, rfl, d, _, dx, _, rfl, h4, T.cl, T.n_unit, (by show 3 < 1000; decide), ?_⟩
        rw [dF_putU]
        generalize hH1 : upd H' d (.ins A.C dx (dF (V.int u) (V.ref ta) (V.ref c))) = H1
        have k1 : ∀ b o, H' b = some o → b ≠ d → H1 b = some o := fun b o hb nb => by rw [← hH1, upd_ne nb]; exact hb
        have kd : H1 d = some (.ins A.C dx (dF (V.int u) (V.ref ta) (V.ref c))) := by rw [← hH1]; exact upd_same
        have free1 : ∀ b, H1 b = none → H' b = none := fun b hb => by
          cases z : H' b with
          | none => rfl
          | some o =>
            by_cases e : b = d
            · rw [e, kd] at hb; cases hb
            · rw [k1 b o z e] at hb; cases hb
        have O1 : SqL K H1 r (ns.map V.int) := by
          have rd : r ≠ d := fun z => O.ap (by rw [hF, z]; simp)
          rcases O.rd with z | ⟨x, z⟩
          · exact .inl (.inl (k1 _ _ z rd))
          · exact .inl (.inr ⟨x, k1 _ _ z rd⟩)
        refine ⟨_, rfl, r, rfl, ⟨_, O1⟩, fun L hL => ?_⟩
        refine lc_list (K := K) (a := r) (xs := ns.map V.int) (fun i H2 => Same H1 H2 ∧ ∃ as : List Addr, as.length = i ∧ H2 L = some (.lst (as.map V.ref)) ∧ as.Nodup ∧ L ∉ as ∧ (∀ a ∈ as, H1 a = none) ∧ ∀ j a, as[j]? = some a → H2 a = some (.lst (nv (List.replicate (ns.getD j 0).toNat 0))))
          ⟨same_upd hL, [], rfl, upd_same, List.nodup_nil, by simp, by simp, by simp⟩ (fun i H2 _ z => z.1.seq O1) ?_ ?_
        · rintro i y H2 hi ⟨e, as, al, hLa, an, nL, af, ag⟩
          obtain ⟨n, hn, rfl⟩ := ints_one hi
          have hn2 := ha n (List.mem_of_getElem? hn)
          unfold Sg46.within at hn2
          simp at hn2
          have hgn : ns.getD i 0 = n := by rw [List.getD_eq_getElem?_getD, hn]; rfl
          refine ⟨rfl, ?_⟩
          refine ⟨by show 1 ≤ sizeLine; decide, fun o no => ?_⟩
          have s1 : Same H2 (upd H2 o (.lst [V.int 0])) := same_upd no
          refine ⟨_, rfl, o, _, _, rfl, rfl, upd_same, by omega, by omega, ?_, fun p np => ?_⟩
          · exact sz (by show 1 * _ ≤ _; omega)
          · have np2 : H2 p = none := s1.free np
            have pL : p ≠ L := (ne_of_none hLa np2).symm
            have pa : p ∉ as := fun m => by
              obtain ⟨j, hj⟩ := List.getElem?_of_mem m
              exact ne_of_none (ag j p hj) np2 rfl
            have s2 : Same H2 (upd (upd H2 o (.lst [V.int 0])) p (.lst (List.replicate n.toNat [V.int 0]).flatten)) := same_new s1 np2
            refine ⟨_, s2 _ _ hLa, szlt (by rw [List.length_map]; have := (List.getElem?_eq_some_iff.mp hn).1; omega), ?_⟩
            have s3 : ∀ b o', H2 b = some o' → b ≠ L → upd (upd (upd H2 o (.lst [V.int 0])) p (.lst (List.replicate n.toNat [V.int 0]).flatten)) L (.lst (as.map V.ref ++ [V.ref p])) b = some o' := fun b o' hb nb => by
              rw [upd_ne nb]
              exact s2 b o' hb
            refine ⟨fun b o' hb => s3 b o' (e b o' hb) (ne_of_none hb hL), as ++ [p], by rw [List.length_append, al]; rfl, ?_, ?_, ?_, ?_, ?_⟩
            · rw [upd_same, List.map_append]
              rfl
            · rw [List.nodup_append]
              refine ⟨an, by simp, fun x hx z hz => ?_⟩
              rw [List.mem_singleton] at hz
              rw [hz]
              exact fun w => pa (by rw [← w]; exact hx)
            · simp only [List.mem_append, List.mem_singleton, not_or]
              exact ⟨nL, fun z => pL z.symm⟩
            · intro a ha2
              rcases List.mem_append.mp ha2 with z | z
              · exact af a z
              · rw [List.mem_singleton] at z
                rw [z]
                exact e.free np2
            · intro j a hj
              by_cases z : j < as.length
              · rw [List.getElem?_append_left z] at hj
                exact s3 a _ (ag j a hj) (fun w => nL (by rw [← w]; exact List.mem_of_getElem? hj))
              · have z2 : j = as.length := by
                  have := (List.getElem?_eq_some_iff.mp hj).1
                  rw [List.length_append] at this
                  simp at this
                  omega
                subst z2
                rw [List.getElem?_append_right (by omega), Nat.sub_self] at hj
                obtain rfl := Option.some.inj hj
                rw [upd_ne pL, upd_same, al, hgn, ← rep_flat]
        · rintro H2 ⟨e, as, al, hLa, an, nL, af, ag⟩
          rw [List.length_map, hl] at al
          refine ⟨_, rfl, d, _, dx, _, rfl, e _ _ kd, T.cl, T.n_tables, (by show 3 < 1000; decide), ?_⟩
          rw [dF_putT]
          generalize hH3 : upd H2 d (.ins A.C dx (dF (V.int u) (V.ref L) (V.ref c))) = H3
          have k3 : ∀ b o, H2 b = some o → b ≠ d → H3 b = some o := fun b o hb nb => by rw [← hH3, upd_ne nb]; exact hb
          have kd3 : H3 d = some (.ins A.C dx (dF (V.int u) (V.ref L) (V.ref c))) := by rw [← hH3]; exact upd_same
          have cd : c ≠ d := fun z => d2 z.symm
          have hc1 : H1 c = some (.lst (nv s.counts)) := k1 _ _ h6 cd
          have eu : u = ((u.toNat : Nat) : Int) := by simp at b1; omega
          have D3 : DevAt A.C H3 d ⟨u.toNat, ns.map Int.toNat, fun _ _ => 0, s.counts⟩ (d :: L :: c :: as) := by
            have dL : d ≠ L := ne_of_none kd hL
            have cL : c ≠ L := ne_of_none hc1 hL
            have da : d ∉ as := fun m => ne_of_none kd (af d m) rfl
            have ca : c ∉ as := fun m => ne_of_none hc1 (af c m) rfl
            refine ⟨dx, L, c, as, rfl, ?_, al, ?_, k3 _ _ hLa dL.symm, k3 _ _ (e _ _ hc1) cd, fun j a hj => ?_⟩
            · simp only [List.nodup_cons, List.mem_cons, not_or]
              exact ⟨⟨dL, d2, da⟩, ⟨cL.symm, nL⟩, ca, an⟩
            · rw [kd3]
              show some (HO.ins A.C dx (dF (V.int u) (V.ref L) (V.ref c))) = some (HO.ins A.C dx (dF (V.int ((u.toNat : Nat) : Int)) (V.ref L) (V.ref c)))
              rw [← eu]
            · rw [k3 _ _ (ag j a hj) (fun z => da (by rw [← z]; exact List.mem_of_getElem? hj))]
              have hj4 : j < 4 := by
                have := (List.getElem?_eq_some_iff.mp hj).1
                omega
              have e1 : tab ⟨u.toNat, ns.map Int.toNat, fun _ _ => 0, s.counts⟩ j = List.replicate (ns.getD j 0).toNat 0 := by
                unfold tab Sg46.Dev.size
                rw [List.map_const', List.length_range]
                congr 1
                simp [List.getD_eq_getElem?_getD, hl, hj4]
              rw [e1]
          refine ⟨_, rfl, d, dx, _, rfl, kd3, no_clear _ _ _, d, _, _, rfl, D3, fun H4 F4 st D4 => ?_⟩
          have st3 : Step H' H3 F (d :: L :: c :: as) := by
            refine ⟨fun b o hb nb => ?_, fun b hb => ?_, ?_⟩
            · have nbd : b ≠ d := fun z => nb (by rw [hF, z]; simp)
              exact k3 b o (e b o (k1 b o hb nbd)) nbd
            · simp only [List.mem_cons] at hb
              rw [hF]
              simp only [List.mem_cons]
              rcases hb with z | z | z | z
              · exact .inl (.inl z)
              · exact .inr (by rw [z]; exact free1 L hL)
              · exact .inl (.inr (.inr (.inl z)))
              · exact .inr (free1 b (af b z))
            · intro b o hb
              obtain ⟨o1, h1⟩ : ∃ o1, H1 b = some o1 := by rw [← hH1]; exact old_upd (old_same (Same.refl _)) _ _ b o hb
              rw [← hH3]
              exact old_upd (old_same e) _ _ b o1 h1
          exact q1 hok H4 F4 (st3.trans st) D4
    · refine q0 (no1 ?_)
      unfold Sg46.within
      simp at b1 ⊢
      omega
/-! ### __init__ -/
def sp_init (A : Ad) : Sp := fun vs H Q _ => ∃ (p dx : Addr), vs = [.ref p] ∧ H p = some (.ins A.C dx []) ∧
  ∀ H' F', DevAt A.C H' p (Sg46.fresh 0 []) F' → (∀ b o, H b = some o → b ≠ p → H' b = some o) → (∀ b ∈ F', b = p ∨ H b = none) → Q .non H'
theorem ok___init__ {f : Addr} {fd : FuncData} (Fn : Fun K "__init__" "Device.__init__" s___init__ f fd) (T : Txt K mg A) : FnOk P w K mg base CX0 1 f fd ["self"] (sp_init A) := by
  refine Fn.ok sc___init__ (fun vs H Q E h => ?_) (fun cdv Ar outer sh H vs Q E hr h => ?_)
  · obtain ⟨_, _, rfl, _⟩ := h
    rfl
  · have sc := sc___init__
    refine ⟨_, (pss_cons (ps_fld (pv 0) pe_int rfl)
      (pss_cons (ps_fld (pv 0) (pe_lst (pa_cons (pe_lst pa_nil) (pa_cons (pe_lst pa_nil) (pa_cons (pe_lst pa_nil) (pa_cons (pe_lst pa_nil) pa_nil))))) rfl)
      (pss_one (ps_fld (pv 0) (pe_op op_rep (pe_lst (pa_cons pe_int pa_nil)) pe_int) rfl)))), ?_⟩
    obtain ⟨p, dx, rfl, hp, q⟩ := h
    refine ⟨_, rfl, p, _, dx, _, rfl, hp, T.cl, T.n_unit, (by show 0 < 1000; decide), ?_⟩
    generalize hH1 : upd H p (.ins A.C dx (putF "unit" (V.int 0) [])) = H1
    have k1 : ∀ b o, H b = some o → b ≠ p → H1 b = some o := fun b o hb nb => by rw [← hH1, upd_ne nb]; exact hb
    have kp1 : H1 p = some (.ins A.C dx [("unit", V.int 0)]) := by rw [← hH1]; exact upd_same
    refine ⟨by show 0 ≤ sizeLine; decide, fun t0 n0 => ⟨by show 0 ≤ sizeLine; decide, fun t1 n1 => ⟨by show 0 ≤ sizeLine; decide, fun t2 n2 => ⟨by show 0 ≤ sizeLine; decide, fun t3 n3 => ⟨by show 4 ≤ sizeLine; decide, fun t nt => ?_⟩⟩⟩⟩⟩
    have e0 := same_upd (o := .lst []) n0
    have e1 := same_upd (o := .lst []) n1
    have e2 := same_upd (o := .lst []) n2
    have e3 := same_upd (o := .lst []) n3
    have et := same_upd (o := .lst [.ref t0, .ref t1, .ref t2, .ref t3]) nt
    have a0 := (e1.trans e2).trans (e3.trans et) t0 _ upd_same
    have a1 := (e2.trans e3).trans et t1 _ upd_same
    have a2 := e3.trans et t2 _ upd_same
    have a3 := et t3 _ upd_same
    have m1 : H1 t1 = none := e0.free n1
    have m2 : H1 t2 = none := (e0.trans e1).free n2
    have m3 : H1 t3 = none := ((e0.trans e1).trans e2).free n3
    have mt : H1 t = none := (((e0.trans e1).trans e2).trans e3).free nt
    have t01 : t0 ≠ t1 := ne_of_none (upd_same) n1
    have t02 : t0 ≠ t2 := ne_of_none (e1 t0 _ upd_same) n2
    have t03 : t0 ≠ t3 := ne_of_none ((e1.trans e2) t0 _ upd_same) n3
    have t0t : t0 ≠ t := ne_of_none (((e1.trans e2).trans e3) t0 _ upd_same) nt
    have t12 : t1 ≠ t2 := ne_of_none (upd_same) n2
    have t13 : t1 ≠ t3 := ne_of_none (e2 t1 _ upd_same) n3
    have t1t : t1 ≠ t := ne_of_none ((e2.trans e3) t1 _ upd_same) nt
    have t23 : t2 ≠ t3 := ne_of_none (upd_same) n3
    have t2t : t2 ≠ t := ne_of_none (e3 t2 _ upd_same) nt
    have t3t : t3 ≠ t := ne_of_none (upd_same) nt
    have s5 : Same H1 _ := (((e0.trans e1).trans e2).trans e3).trans et
    have att : upd (upd (upd (upd (upd H1 t0 (.lst [])) t1 (.lst [])) t2 (.lst [])) t3 (.lst [])) t (.lst [.ref t0, .ref t1, .ref t2, .ref t3]) t = some (.lst [.ref t0, .ref t1, .ref t2, .ref t3]) := upd_same
    generalize upd (upd (upd (upd (upd H1 t0 (.lst [])) t1 (.lst [])) t2 (.lst [])) t3 (.lst [])) t (.lst [.ref t0, .ref t1, .ref t2, .ref t3]) = H2 at *
    refine ⟨_, rfl, p, _, dx, _, rfl, s5 _ _ kp1, T.cl, T.n_tables, (by show 1 < 1000; decide), ?_⟩
    generalize hH3 : upd H2 p (.ins A.C dx (putF "tables" (V.ref t) [("unit", V.int 0)])) = H3
    have k3 : ∀ b o, H2 b = some o → b ≠ p → H3 b = some o := fun b o hb nb => by rw [← hH3, upd_ne nb]; exact hb
    have kp3 : H3 p = some (.ins A.C dx [("unit", V.int 0), ("tables", V.ref t)]) := by
      rw [← hH3, upd_same]
      exact congrArg (fun z => some (HO.ins A.C dx z)) ((putF_past (by decide +kernel)).trans rfl)
    refine ⟨by show 1 ≤ sizeLine; decide, fun o no => ?_⟩
    refine ⟨o, _, _, rfl, rfl, upd_same, by decide, by decide, by decide, fun c nc => ?_⟩
    have s6 : Same H3 (upd H3 o (.lst [V.int 0])) := same_upd no
    have nc3 : H3 c = none := s6.free nc
    have s7 : Same H3 (upd (upd H3 o (.lst [V.int 0])) c (.lst (List.replicate (6 : Int).toNat [V.int 0]).flatten)) := same_new s6 nc3
    have atc : upd (upd H3 o (.lst [V.int 0])) c (.lst (List.replicate (6 : Int).toNat [V.int 0]).flatten) c = some (.lst (nv (List.replicate 6 0))) := by
      rw [upd_same]
      exact congrArg (fun z => some (HO.lst z)) (rep_flat 6)
    generalize upd (upd H3 o (.lst [V.int 0])) c (.lst (List.replicate (6 : Int).toNat [V.int 0]).flatten) = H4 at *
    refine ⟨_, rfl, p, _, dx, _, rfl, s7 _ _ kp3, T.cl, T.n_tallies, (by show 2 < 1000; decide), ?_⟩
    have ef : putF "tallies" (V.ref c) [("unit", V.int 0), ("tables", V.ref t)] = dF (V.int 0) (V.ref t) (V.ref c) := (putF_past (by decide +kernel)).trans (congrArg _ ((putF_past (by decide +kernel)).trans rfl))
    rw [ef]
    have np : ∀ b, H1 b = none → b ≠ p := fun b hb => (ne_of_none kp1 hb).symm
    have c3 : ∀ b u, H3 b = some u → b ≠ c := fun b u hb => ne_of_none hb nc3
    have x0 := k3 _ _ a0 (np _ n0)
    have x1 := k3 _ _ a1 (np _ m1)
    have x2 := k3 _ _ a2 (np _ m2)
    have x3 := k3 _ _ a3 (np _ m3)
    have xt := k3 _ _ att (np _ mt)
    have pc := c3 _ _ kp3
    refine q _ (p :: t :: c :: [t0, t1, t2, t3]) ⟨dx, t, c, [t0, t1, t2, t3], rfl, ?_, rfl, upd_same, ?_, ?_, ?_⟩ (fun b u hb nb => ?_) (fun b hb => ?_)
    · have h1 := np _ n0
      have h2 := np _ m1
      have h3 := np _ m2
      have h4 := np _ m3
      have h5 := np _ mt
      have h6 := c3 _ _ x0
      have h7 := c3 _ _ x1
      have h8 := c3 _ _ x2
      have h9 := c3 _ _ x3
      have h10 := c3 _ _ xt
      simp only [List.nodup_cons, List.mem_cons, not_or, List.not_mem_nil, not_false_eq_true, and_true, List.nodup_nil]
      exact ⟨⟨h5.symm, pc, h1.symm, h2.symm, h3.symm, h4.symm⟩, ⟨h10, t0t.symm, t1t.symm, t2t.symm, t3t.symm⟩, ⟨h6.symm, h7.symm, h8.symm, h9.symm⟩, ⟨t01, t02, t03⟩, ⟨t12, t13⟩, t23⟩
    · rw [upd_ne (np _ mt)]
      exact s7 _ _ xt
    · rw [upd_ne pc.symm]
      exact atc
    · intro i a ha
      have tz : ∀ i, tab (Sg46.fresh 0 []) i = [] := fun i => by
        unfold tab Sg46.Dev.size
        simp [Sg46.fresh]
      rw [tz]
      have fin : ∀ b, H1 b = none → H3 b = some (.lst []) → upd H4 p (.ins A.C dx (dF (V.int 0) (V.ref t) (V.ref c))) b = some (.lst (nv [])) := fun b h1 h2 => by
        rw [upd_ne (np b h1)]
        exact s7 _ _ h2
      match i, ha with
      | 0, ha => obtain rfl := Option.some.inj ha; exact fin _ n0 x0
      | 1, ha => obtain rfl := Option.some.inj ha; exact fin _ m1 x1
      | 2, ha => obtain rfl := Option.some.inj ha; exact fin _ m2 x2
      | 3, ha => obtain rfl := Option.some.inj ha; exact fin _ m3 x3
    · rw [upd_ne nb]
      exact s7 _ _ (k3 _ _ (s5 _ _ (k1 _ _ hb nb)) nb)
    · have back : ∀ b, H1 b = none → H b = none := fun b hb => by
        cases z : H b with
        | none => rfl
        | some u =>
          by_cases e : b = p
          · rw [e, kp1] at hb; cases hb
          · rw [k1 b u z e] at hb; cases hb
      have back3 : ∀ b, H3 b = none → H1 b = none := fun b hb => by
        cases z : H1 b with
        | none => rfl
        | some u =>
          by_cases e : b = p
          · rw [e, kp3] at hb; cases hb
          · rw [k3 b u (s5 b u z) e] at hb; cases hb
      simp only [List.mem_cons, List.not_mem_nil, or_false] at hb
      rcases hb with z | z | z | z | z | z | z
      · exact .inl z
      · exact .inr (by rw [z]; exact back _ mt)
      · exact .inr (by rw [z]; exact back _ (back3 _ nc3))
      · exact .inr (by rw [z]; exact back _ n0)
      · exact .inr (by rw [z]; exact back _ m1)
      · exact .inr (by rw [z]; exact back _ m2)
      · exact .inr (by rw [z]; exact back _ m3)
end
end Bd

set_option Elab.async false
set_option linter.all false
set_option maxRecDepth 100000
set_option maxHeartbeats 2000000
namespace Bd
open PySem PySem.Spec PyProof.Rows L2
theorem GivV.bl {H H' : Hp} {Q : VK} {b b' : Bool} (g : GivV H Q (.bl b)) (e : Same H H') (h : b = b') : Q (.bl b') H' := by
  rw [← h]
  exact g H' e
theorem GivV.at {H H' : Hp} {Q : VK} {v v' : V} (g : GivV H Q v) (e : Same H H') (h : v = v') : Q v' H' := by
  rw [← h]
  exact g H' e
/-- a chain of two tests of numbers, the third written: one answer -/
theorem chain_le {b1 : Bool} {f m : Int} {QQ : Bool → Prop} (h : QQ (b1 && decide (f ≤ m))) :
    ∃ k, V.bl b1 = V.bl k ∧ if k = true then (∃ i j, V.int f = V.int i ∧ V.int m = V.int j ∧ ∃ k', V.bl (decide (i ≤ j)) = V.bl k' ∧ QQ k') else ∃ k', V.bl false = V.bl k' ∧ QQ k' := by
  refine ⟨b1, rfl, ?_⟩
  cases b1 with
  | true => exact iteT ⟨f, m, rfl, rfl, _, rfl, h⟩
  | false => exact iteF ⟨_, rfl, h⟩
section
variable {P : Program} {w : World} {K : PySem.W.Frag} {mg : Str → Option Value} {base : Heap} {A : Ad}
/-! ### the forms -/
def sp_form (K : PySem.W.Frag) (f : List Nat → Bool) : Sp := fun vs H Q _ => ∃ (a : Addr) (q : List Nat), vs = [.ref a] ∧ SqL K H a (nv q) ∧ GivV H Q (.bl (f q))
def fBits (q : List Nat) : Bool := decide (q.length = 5) && (decide (1 ≤ Sg46.at2 q 3) && decide (Sg46.at2 q 3 ≤ 2000))
def fNums (q : List Nat) : Bool := decide (q.length = 5) && (decide (1 ≤ Sg46.at2 q 3) && decide (Sg46.at2 q 3 ≤ 125))
def fCoil (q : List Nat) : Bool := decide (q.length = 5) && (decide (Sg46.at2 q 3 = 0) || decide (Sg46.at2 q 3 = 0xFF00))
def fLen (n : Nat) (q : List Nat) : Bool := decide (q.length = n)
def fCoils (q : List Nat) : Bool := decide (6 ≤ q.length) && (decide (1 ≤ Sg46.at2 q 3) && (decide (Sg46.at2 q 3 ≤ 1968) && (decide (q.getD 5 0 = (Sg46.at2 q 3 + 7) / 8) && decide (q.length = 6 + (Sg46.at2 q 3 + 7) / 8))))
def fRow (q : List Nat) : Bool := decide (6 ≤ q.length) && (decide (1 ≤ Sg46.at2 q 3) && (decide (Sg46.at2 q 3 ≤ 123) && (decide (q.getD 5 0 = 2 * Sg46.at2 q 3) && decide (q.length = 6 + 2 * Sg46.at2 q 3))))
def fBoth (q : List Nat) : Bool := decide (10 ≤ q.length) && (decide (1 ≤ Sg46.at2 q 3) && (decide (Sg46.at2 q 3 ≤ 125) && (decide (1 ≤ Sg46.at2 q 7) && (decide (Sg46.at2 q 7 ≤ 121) && (decide (q.getD 9 0 = 2 * Sg46.at2 q 7) && decide (q.length = 10 + 2 * Sg46.at2 q 7))))))
def fCheck (q : List Nat) : Bool := decide (q.length = 5) && (decide (Sg46.at2 q 1 = 0) || decide (Sg46.at2 q 3 = 0))
theorem ok_is_read_of_bits {f : Addr} {fd : FuncData} (Fn : Fun K "is_read_of_bits" "is_read_of_bits" s_is_read_of_bits f fd) (T : Txt K mg A) (c_number_at : C8.Cal P w K mg base 1 "number_at" (sp_number_at K) []) : FnOk P w K mg base CX0 2 f fd ["request"] (sp_form K fBits) := by
  refine Fn.ok sc_is_read_of_bits (fun vs H Q E h => ?_) (fun cdv Ar outer sh H vs Q E hr h => ?_)
  · obtain ⟨_, _, rfl, _⟩ := h
    rfl
  · have sc := sc_is_read_of_bits
    refine ⟨_, (pss_one (ps_ret (pe_and (pe_cmpR op_eq (pe_callB call_len_seq (by rfl) T.b_len PySem.boot_len (pa_cons (pv 0) pa_nil)) pe_int (nomark _)) (pe_one (pe_chain op_le op_le pe_int (C8.pe_c c_number_at hr (by decide) (by rfl) (pa_cons (pv 0) (pa_cons pe_int pa_nil))) (pe_gi (by rfl) T.g_MOST_BITS_READ)))))), ?_⟩
    obtain ⟨a, q, rfl, hs, g⟩ := h
    refine ⟨_, rfl, a, _, rfl, .inl hs, rfl, _, rfl, ifb (fun b1 => ?_) (fun b1 => ?_)⟩
    · simp [nv_len] at b1
      refine ⟨_, rfl, a, q, 3, rfl, hs, by omega, _, _, rfl, rfl, _, rfl, ifb (fun b2 => ?_) (fun b2 => ?_)⟩
      · refine ⟨_, _, rfl, rfl, g.bl (Same.refl _) ?_⟩
        simp at b2
        rw [Bool.eq_iff_iff]
        simp [fBits]
        omega
      · refine g.bl (Same.refl _) ?_
        simp at b2
        simp [fBits]
        omega
    · refine g.bl (Same.refl _) ?_
      simp [nv_len] at b1
      simp [fBits]
      omega
theorem ok_is_read_of_numbers {f : Addr} {fd : FuncData} (Fn : Fun K "is_read_of_numbers" "is_read_of_numbers" s_is_read_of_numbers f fd) (T : Txt K mg A) (c_number_at : C8.Cal P w K mg base 1 "number_at" (sp_number_at K) []) : FnOk P w K mg base CX0 2 f fd ["request"] (sp_form K fNums) := by
  refine Fn.ok sc_is_read_of_numbers (fun vs H Q E h => ?_) (fun cdv Ar outer sh H vs Q E hr h => ?_)
  · obtain ⟨_, _, rfl, _⟩ := h
    rfl
  · have sc := sc_is_read_of_numbers
    refine ⟨_, (pss_one (ps_ret (pe_and (pe_cmpR op_eq (pe_callB call_len_seq (by rfl) T.b_len PySem.boot_len (pa_cons (pv 0) pa_nil)) pe_int (nomark _)) (pe_one (pe_chain op_le op_le pe_int (C8.pe_c c_number_at hr (by decide) (by rfl) (pa_cons (pv 0) (pa_cons pe_int pa_nil))) (pe_gi (by rfl) T.g_MOST_NUMBERS_READ)))))), ?_⟩
    obtain ⟨a, q, rfl, hs, g⟩ := h
    refine ⟨_, rfl, a, _, rfl, .inl hs, rfl, _, rfl, ifb (fun b1 => ?_) (fun b1 => ?_)⟩
    · simp [nv_len] at b1
      refine ⟨_, rfl, a, q, 3, rfl, hs, by omega, _, _, rfl, rfl, _, rfl, ifb (fun b2 => ?_) (fun b2 => ?_)⟩
      · refine ⟨_, _, rfl, rfl, g.bl (Same.refl _) ?_⟩
        simp at b2
        rw [Bool.eq_iff_iff]
        simp [fNums]
        omega
      · refine g.bl (Same.refl _) ?_
        simp at b2
        simp [fNums]
        omega
    · refine g.bl (Same.refl _) ?_
      simp [nv_len] at b1
      simp [fNums]
      omega
theorem ok_is_write_of_coil {f : Addr} {fd : FuncData} (Fn : Fun K "is_write_of_coil" "is_write_of_coil" s_is_write_of_coil f fd) (T : Txt K mg A) (c_number_at : C8.Cal P w K mg base 1 "number_at" (sp_number_at K) []) : FnOk P w K mg base CX0 2 f fd ["request"] (sp_form K fCoil) := by
  refine Fn.ok sc_is_write_of_coil (fun vs H Q E h => ?_) (fun cdv Ar outer sh H vs Q E hr h => ?_)
  · obtain ⟨_, _, rfl, _⟩ := h
    rfl
  · have sc := sc_is_write_of_coil
    refine ⟨_, (pss_one (ps_ret (pe_and (pe_cmpR op_eq (pe_callB call_len_seq (by rfl) T.b_len PySem.boot_len (pa_cons (pv 0) pa_nil)) pe_int (nomark _)) (pe_one (pe_cmpR op_in_seq (C8.pe_c c_number_at hr (by decide) (by rfl) (pa_cons (pv 0) (pa_cons pe_int pa_nil))) (pe_tup (pa_cons pe_int (pa_cons (pe_gi (by rfl) T.g_COIL_ON) pa_nil))) (by rfl)))))), ?_⟩
    obtain ⟨a, q, rfl, hs, g⟩ := h
    refine ⟨_, rfl, a, _, rfl, .inl hs, rfl, _, rfl, ifb (fun b1 => ?_) (fun b1 => ?_)⟩
    · simp [nv_len] at b1
      refine ⟨_, rfl, a, q, 3, rfl, hs, by omega, (by show 2 ≤ sizeLine; decide), fun p np => ?_⟩
      refine ⟨p, _, rfl, .inr (SqT.of upd_same), rfl, rfl, g.bl (same_upd np) ?_⟩
      rw [Bool.eq_iff_iff]
      simp [fCoil, inV, eqV, b1]
      omega
    · refine g.bl (Same.refl _) ?_
      simp [nv_len] at b1
      simp [fCoil]
      omega
theorem ok_is_write_of_kept {f : Addr} {fd : FuncData} (Fn : Fun K "is_write_of_kept" "is_write_of_kept" s_is_write_of_kept f fd) (T : Txt K mg A) : FnOk P w K mg base CX0 1 f fd ["request"] (sp_form K (fLen 5)) := by
  refine Fn.ok sc_is_write_of_kept (fun vs H Q E h => ?_) (fun cdv Ar outer sh H vs Q E hr h => ?_)
  · obtain ⟨_, _, rfl, _⟩ := h
    rfl
  · have sc := sc_is_write_of_kept
    refine ⟨_, (pss_one (ps_ret (pe_cmpR op_eq (pe_callB call_len_seq (by rfl) T.b_len PySem.boot_len (pa_cons (pv 0) pa_nil)) pe_int (nomark _)))), ?_⟩
    obtain ⟨a, q, rfl, hs, g⟩ := h
    refine ⟨_, rfl, a, _, rfl, .inl hs, rfl, g.bl (Same.refl _) ?_⟩
    rw [Bool.eq_iff_iff]
    simp [fLen, nv_len]
    omega
theorem ok_is_mask_of_kept {f : Addr} {fd : FuncData} (Fn : Fun K "is_mask_of_kept" "is_mask_of_kept" s_is_mask_of_kept f fd) (T : Txt K mg A) : FnOk P w K mg base CX0 1 f fd ["request"] (sp_form K (fLen 7)) := by
  refine Fn.ok sc_is_mask_of_kept (fun vs H Q E h => ?_) (fun cdv Ar outer sh H vs Q E hr h => ?_)
  · obtain ⟨_, _, rfl, _⟩ := h
    rfl
  · have sc := sc_is_mask_of_kept
    refine ⟨_, (pss_one (ps_ret (pe_cmpR op_eq (pe_callB call_len_seq (by rfl) T.b_len PySem.boot_len (pa_cons (pv 0) pa_nil)) pe_int (nomark _)))), ?_⟩
    obtain ⟨a, q, rfl, hs, g⟩ := h
    refine ⟨_, rfl, a, _, rfl, .inl hs, rfl, g.bl (Same.refl _) ?_⟩
    rw [Bool.eq_iff_iff]
    simp [fLen, nv_len]
    omega
theorem ok_is_alone {f : Addr} {fd : FuncData} (Fn : Fun K "is_alone" "is_alone" s_is_alone f fd) (T : Txt K mg A) : FnOk P w K mg base CX0 1 f fd ["request"] (sp_form K (fLen 1)) := by
  refine Fn.ok sc_is_alone (fun vs H Q E h => ?_) (fun cdv Ar outer sh H vs Q E hr h => ?_)
  · obtain ⟨_, _, rfl, _⟩ := h
    rfl
  · have sc := sc_is_alone
    refine ⟨_, (pss_one (ps_ret (pe_cmpR op_eq (pe_callB call_len_seq (by rfl) T.b_len PySem.boot_len (pa_cons (pv 0) pa_nil)) pe_int (nomark _)))), ?_⟩
    obtain ⟨a, q, rfl, hs, g⟩ := h
    refine ⟨_, rfl, a, _, rfl, .inl hs, rfl, g.bl (Same.refl _) ?_⟩
    rw [Bool.eq_iff_iff]
    simp [fLen, nv_len]
    omega
def sp_ends_with_row (K : PySem.W.Frag) : Sp := fun vs H Q _ => ∃ (a : Addr) (q : List Nat) (k n : Nat), vs = [.ref a, .int k, .int n] ∧ SqL K H a (nv q) ∧ k < q.length ∧ GivV H Q (.bl (decide (q.getD k 0 = n) && decide (q.length = k + 1 + n)))
theorem ok_ends_with_row {f : Addr} {fd : FuncData} (Fn : Fun K "ends_with_row" "ends_with_row" s_ends_with_row f fd) (T : Txt K mg A) : FnOk P w K mg base CX0 1 f fd ["request", "k", "size"] (sp_ends_with_row K) := by
  refine Fn.ok sc_ends_with_row (fun vs H Q E h => ?_) (fun cdv Ar outer sh H vs Q E hr h => ?_)
  · obtain ⟨_, _, _, _, rfl, _⟩ := h
    rfl
  · have sc := sc_ends_with_row
    refine ⟨_, (pss_one (ps_ret (pe_and (pe_cmpR op_eq (pe_ix ix_list (pv 0) (pv 1) (fun _ _ => rfl)) (pv 2) (nomark _)) (pe_one (pe_cmpR op_eq (pe_callB call_len_seq (by rfl) T.b_len PySem.boot_len (pa_cons (pv 0) pa_nil)) (pe_op op_add (pe_op op_add (pv 1) pe_int) (pv 2)) (nomark _)))))), ?_⟩
    obtain ⟨a, q, k, n, rfl, hs, hk, g⟩ := h
    refine ⟨_, rfl, _, rfl, a, _, _, _, rfl, rfl, hs, nv_at hk, _, rfl, rfl, _, rfl, ifb (fun b1 => ?_) (fun b1 => ?_)⟩
    · refine ⟨_, rfl, a, _, rfl, .inl hs, _, rfl, _, _, rfl, rfl, _, rfl, _, _, rfl, rfl, rfl, g.bl (Same.refl _) ?_⟩
      simp at b1
      rw [Bool.eq_iff_iff]
      simp [nv_len]
      omega
    · refine g.bl (Same.refl _) ?_
      simp at b1
      simp
      omega
theorem ok_is_write_of_coils {f : Addr} {fd : FuncData} (Fn : Fun K "is_write_of_coils" "is_write_of_coils" s_is_write_of_coils f fd) (T : Txt K mg A) (c_number_at : C8.Cal P w K mg base 1 "number_at" (sp_number_at K) []) (c_ends_with_row : C8.Cal P w K mg base 1 "ends_with_row" (sp_ends_with_row K) []) (c_bytes_for_bits : C8.Cal P w K mg base 1 "bytes_for_bits" sp_bytes_for_bits []) : FnOk P w K mg base CX0 2 f fd ["request"] (sp_form K fCoils) := by
  refine Fn.ok sc_is_write_of_coils (fun vs H Q E h => ?_) (fun cdv Ar outer sh H vs Q E hr h => ?_)
  · obtain ⟨_, _, rfl, _⟩ := h
    rfl
  · have sc := sc_is_write_of_coils
    refine ⟨_, (pss_cons (ps_if (pt_cmpR op_lt (pe_callB call_len_seq (by rfl) T.b_len PySem.boot_len (pa_cons (pv 0) pa_nil)) pe_int (nomark _)) (pss_one (ps_ret pe_bl)) pss_nil)
      (pss_cons (ps_set (i := 1) sc.nd rfl (Or.inl rfl) (C8.pe_c c_number_at hr (by decide) (by rfl) (pa_cons (pv 0) (pa_cons pe_int pa_nil))))
      (pss_one (ps_ret (pe_and (pe_chain op_le op_le pe_int (pv 1) (pe_gi (by rfl) T.g_MOST_COILS_WRITTEN)) (pe_one (C8.pe_c c_ends_with_row hr (by decide) (by rfl) (pa_cons (pv 0) (pa_cons pe_int (pa_cons (C8.pe_c c_bytes_for_bits hr (by decide) (by rfl) (pa_cons (pv 1) pa_nil)) pa_nil)))))))))), ?_⟩
    obtain ⟨a, q, rfl, hs, g⟩ := h
    refine ⟨_, rfl, a, _, rfl, .inl hs, _, _, rfl, rfl, _, rfl, ifb (fun b1 => ?_) (fun b1 => ?_)⟩
    · refine g.bl (Same.refl _) ?_
      simp [nv_len] at b1
      simp [fCoils]
      omega
    · simp [nv_len] at b1
      refine ⟨_, rfl, a, q, 3, rfl, hs, by omega, ?_⟩
      refine ⟨_, rfl, _, _, rfl, rfl, _, rfl, ifb (fun b2 => ?_) (fun b2 => ?_)⟩
      · simp at b2
        refine ⟨_, _, rfl, rfl, _, rfl, ifb (fun b3 => ?_) (fun b3 => ?_)⟩
        · simp at b3
          refine ⟨_, rfl, _, rfl, _, rfl, a, q, 5, (Sg46.at2 q 3 + 7) / 8, rfl, hs, by omega, fun H' e => g.bl e ?_⟩
          rw [Bool.eq_iff_iff]
          simp [fCoils]
          omega
        · refine g.bl (Same.refl _) ?_
          simp at b3
          simp [fCoils]
          omega
      · refine ⟨_, rfl, g.bl (Same.refl _) ?_⟩
        simp at b2
        simp [fCoils]
        omega
theorem ok_is_write_of_kept_row {f : Addr} {fd : FuncData} (Fn : Fun K "is_write_of_kept_row" "is_write_of_kept_row" s_is_write_of_kept_row f fd) (T : Txt K mg A) (c_number_at : C8.Cal P w K mg base 1 "number_at" (sp_number_at K) []) (c_ends_with_row : C8.Cal P w K mg base 1 "ends_with_row" (sp_ends_with_row K) []) : FnOk P w K mg base CX0 2 f fd ["request"] (sp_form K fRow) := by
  refine Fn.ok sc_is_write_of_kept_row (fun vs H Q E h => ?_) (fun cdv Ar outer sh H vs Q E hr h => ?_)
  · obtain ⟨_, _, rfl, _⟩ := h
    rfl
  · have sc := sc_is_write_of_kept_row
    refine ⟨_, (pss_cons (ps_if (pt_cmpR op_lt (pe_callB call_len_seq (by rfl) T.b_len PySem.boot_len (pa_cons (pv 0) pa_nil)) pe_int (nomark _)) (pss_one (ps_ret pe_bl)) pss_nil)
      (pss_cons (ps_set (i := 1) sc.nd rfl (Or.inl rfl) (C8.pe_c c_number_at hr (by decide) (by rfl) (pa_cons (pv 0) (pa_cons pe_int pa_nil))))
      (pss_one (ps_ret (pe_and (pe_chain op_le op_le pe_int (pv 1) (pe_gi (by rfl) T.g_MOST_KEPT_WRITTEN)) (pe_one (C8.pe_c c_ends_with_row hr (by decide) (by rfl) (pa_cons (pv 0) (pa_cons pe_int (pa_cons (pe_op op_mul (pv 1) pe_int) pa_nil)))))))))), ?_⟩
    obtain ⟨a, q, rfl, hs, g⟩ := h
    refine ⟨_, rfl, a, _, rfl, .inl hs, _, _, rfl, rfl, _, rfl, ifb (fun b1 => ?_) (fun b1 => ?_)⟩
    · refine g.bl (Same.refl _) ?_
      simp [nv_len] at b1
      simp [fRow]
      omega
    · simp [nv_len] at b1
      refine ⟨_, rfl, a, q, 3, rfl, hs, by omega, ?_⟩
      refine ⟨_, rfl, _, _, rfl, rfl, _, rfl, ifb (fun b2 => ?_) (fun b2 => ?_)⟩
      · simp at b2
        refine ⟨_, _, rfl, rfl, _, rfl, ifb (fun b3 => ?_) (fun b3 => ?_)⟩
        · simp at b3
          refine ⟨_, rfl, _, rfl, _, _, rfl, rfl, .inr ⟨by decide, by decide⟩, a, q, 5, Sg46.at2 q 3 * 2, rfl, hs, by omega, fun H' e => g.bl e ?_⟩
          rw [Bool.eq_iff_iff]
          simp [fRow]
          omega
        · refine g.bl (Same.refl _) ?_
          simp at b3
          simp [fRow]
          omega
      · refine ⟨_, rfl, g.bl (Same.refl _) ?_⟩
        simp at b2
        simp [fRow]
        omega
theorem ok_is_write_and_read {f : Addr} {fd : FuncData} (Fn : Fun K "is_write_and_read" "is_write_and_read" s_is_write_and_read f fd) (T : Txt K mg A) (c_number_at : C8.Cal P w K mg base 1 "number_at" (sp_number_at K) []) (c_ends_with_row : C8.Cal P w K mg base 1 "ends_with_row" (sp_ends_with_row K) []) : FnOk P w K mg base CX0 2 f fd ["request"] (sp_form K fBoth) := by
  refine Fn.ok sc_is_write_and_read (fun vs H Q E h => ?_) (fun cdv Ar outer sh H vs Q E hr h => ?_)
  · obtain ⟨_, _, rfl, _⟩ := h
    rfl
  · have sc := sc_is_write_and_read
    refine ⟨_, (pss_cons (ps_if (pt_cmpR op_lt (pe_callB call_len_seq (by rfl) T.b_len PySem.boot_len (pa_cons (pv 0) pa_nil)) pe_int (nomark _)) (pss_one (ps_ret pe_bl)) pss_nil)
      (pss_cons (ps_if (pt_not (pt_chain op_le op_le pe_int (C8.pe_c c_number_at hr (by decide) (by rfl) (pa_cons (pv 0) (pa_cons pe_int pa_nil))) (pe_gi (by rfl) T.g_MOST_NUMBERS_READ))) (pss_one (ps_ret pe_bl)) pss_nil)
      (pss_cons (ps_set (i := 1) sc.nd rfl (Or.inl rfl) (C8.pe_c c_number_at hr (by decide) (by rfl) (pa_cons (pv 0) (pa_cons pe_int pa_nil))))
      (pss_cons (ps_if (pt_not (pt_chain op_le op_le pe_int (pv 1) (pe_gi (by rfl) T.g_MOST_KEPT_WRITTEN_AND_READ))) (pss_one (ps_ret pe_bl)) pss_nil)
      (pss_one (ps_ret (C8.pe_c c_ends_with_row hr (by decide) (by rfl) (pa_cons (pv 0) (pa_cons pe_int (pa_cons (pe_op op_mul (pv 1) pe_int) pa_nil)))))))))), ?_⟩
    obtain ⟨a, q, rfl, hs, g⟩ := h
    refine ⟨_, rfl, a, _, rfl, .inl hs, _, _, rfl, rfl, _, rfl, ifb (fun b1 => ?_) (fun b1 => ?_)⟩
    · refine g.bl (Same.refl _) ?_
      simp [nv_len] at b1
      simp [fBoth]
      omega
    · simp [nv_len] at b1
      have no : ¬ (1 ≤ Sg46.at2 q 3 ∧ Sg46.at2 q 3 ≤ 125 ∧ 1 ≤ Sg46.at2 q 7 ∧ Sg46.at2 q 7 ≤ 121) → Q (.bl false) H := fun z => g.bl (Same.refl _) (by
        simp [fBoth]
        omega)
      refine ⟨_, rfl, a, q, 3, rfl, hs, by omega, _, _, rfl, rfl, chain_le (ifb (fun b2 => ?_) (fun b2 => ?_))⟩
      · simp at b2
        exact no (by omega)
      · simp at b2
        refine ⟨_, rfl, a, q, 7, rfl, hs, by omega, ?_⟩
        refine ⟨_, rfl, _, _, rfl, rfl, chain_le (ifb (fun b3 => ?_) (fun b3 => ?_))⟩
        · simp at b3
          exact no (by omega)
        · simp at b3
          refine ⟨_, rfl, _, rfl, _, _, rfl, rfl, .inr ⟨by decide, by decide⟩, a, q, 9, Sg46.at2 q 7 * 2, rfl, hs, by omega, fun H' e => g.bl e ?_⟩
          rw [Bool.eq_iff_iff]
          simp [fBoth]
          omega
def kCheck (c : Nat) : Bool := decide (c = 0) || (decide (c = 10) || (decide (11 ≤ c) && decide (c ≤ 15)))
def sp_is_known_check : Sp := fun vs H Q _ => ∃ (c : Nat), vs = [.int c] ∧ GivV H Q (.bl (kCheck c))
theorem ok_is_known_check {f : Addr} {fd : FuncData} (Fn : Fun K "is_known_check" "is_known_check" s_is_known_check f fd) (T : Txt K mg A) : FnOk P w K mg base CX0 1 f fd ["check"] (sp_is_known_check) := by
  refine Fn.ok sc_is_known_check (fun vs H Q E h => ?_) (fun cdv Ar outer sh H vs Q E hr h => ?_)
  · obtain ⟨_, rfl, _⟩ := h
    rfl
  · have sc := sc_is_known_check
    refine ⟨_, (pss_one (ps_ret (pe_or (pe_cmpR op_in_seq (pv 0) (pe_tup (pa_cons (pe_gi (by rfl) T.g_ECHO) (pa_cons (pe_gi (by rfl) T.g_CLEAR_COUNTS) pa_nil))) (by rfl)) (pe_one (pe_chain op_le op_le (pe_gi (by rfl) T.g_FIRST_COUNT) (pv 0) (pe_gi (by rfl) T.g_LAST_COUNT)))))), ?_⟩
    obtain ⟨c, rfl, g⟩ := h
    refine ⟨_, rfl, (by show 2 ≤ sizeLine; decide), fun p np => ?_⟩
    refine ⟨p, _, rfl, .inr (SqT.of upd_same), rfl, rfl, _, rfl, ifb (fun b1 => ?_) (fun b1 => ?_)⟩
    · refine g.bl (same_upd np) ?_
      simp [inV, eqV] at b1
      simp [kCheck]
      omega
    · simp [inV, eqV] at b1
      refine ⟨_, rfl, _, _, rfl, rfl, _, rfl, ifb (fun b2 => ?_) (fun b2 => ?_)⟩
      · refine ⟨_, _, rfl, rfl, g.bl (same_upd np) ?_⟩
        simp at b2
        rw [Bool.eq_iff_iff]
        simp [kCheck]
        omega
      · refine g.bl (same_upd np) ?_
        simp at b2
        simp [kCheck]
        omega
theorem ok_is_check {f : Addr} {fd : FuncData} (Fn : Fun K "is_check" "is_check" s_is_check f fd) (T : Txt K mg A) (c_number_at : C8.Cal P w K mg base 1 "number_at" (sp_number_at K) []) : FnOk P w K mg base CX0 2 f fd ["request"] (sp_form K fCheck) := by
  refine Fn.ok sc_is_check (fun vs H Q E h => ?_) (fun cdv Ar outer sh H vs Q E hr h => ?_)
  · obtain ⟨_, _, rfl, _⟩ := h
    rfl
  · have sc := sc_is_check
    refine ⟨_, (pss_cons (ps_if (pt_cmpR op_ne (pe_callB call_len_seq (by rfl) T.b_len PySem.boot_len (pa_cons (pv 0) pa_nil)) pe_int (nomark _)) (pss_one (ps_ret pe_bl)) pss_nil)
      (pss_one (ps_ret (pe_or (pe_cmpR op_eq (C8.pe_c c_number_at hr (by decide) (by rfl) (pa_cons (pv 0) (pa_cons pe_int pa_nil))) (pe_gi (by rfl) T.g_ECHO) (nomark _)) (pe_one (pe_cmpR op_eq (C8.pe_c c_number_at hr (by decide) (by rfl) (pa_cons (pv 0) (pa_cons pe_int pa_nil))) pe_int (nomark _))))))), ?_⟩
    obtain ⟨a, q, rfl, hs, g⟩ := h
    refine ⟨_, rfl, a, _, rfl, .inl hs, rfl, _, rfl, ifb (fun b1 => ?_) (fun b1 => ?_)⟩
    · refine g.bl (Same.refl _) ?_
      simp [nv_len] at b1
      simp [fCheck]
      omega
    · simp [nv_len] at b1
      refine ⟨_, rfl, a, q, 1, rfl, hs, by omega, rfl, _, rfl, ifb (fun b2 => ?_) (fun b2 => ?_)⟩
      · refine g.bl (Same.refl _) ?_
        simp at b2
        simp [fCheck]
        omega
      · simp at b2
        refine ⟨_, rfl, a, q, 3, rfl, hs, by omega, rfl, g.bl (Same.refl _) ?_⟩
        rw [Bool.eq_iff_iff]
        simp [fCheck]
        omega
/-! ### is_known -/
def fns : List Nat := [1, 2, 3, 4, 5, 6, 7, 8, 11, 15, 16, 22, 23]
def known (q : List Nat) : Bool := if q.getD 0 0 = 8 ∧ 3 ≤ q.length then kCheck (Sg46.at2 q 1) else fns.contains (q.getD 0 0)
theorem pick_has {α : Type} (k : Int) : ∀ kvs : List (Int × α), (pickT kvs k).isSome = kvs.any fun p => decide (p.1 = k)
  | [] => rfl
  | (j, v) :: r => by
    unfold pickT
    rw [List.any_cons, ← pick_has k r]
    by_cases e : j = k
    · rw [if_pos e, decide_eq_true e]
      rfl
    · rw [if_neg e, decide_eq_false e]
      rfl
def sp_is_known (K : PySem.W.Frag) : Sp := fun vs H Q _ => ∃ (a : Addr) (q : List Nat), vs = [.ref a] ∧ SqL K H a (nv q) ∧ 0 < q.length ∧ GivV H Q (.bl (known q))
theorem ok_is_known {f : Addr} {fd : FuncData} (Fn : Fun K "is_known" "is_known" s_is_known f fd) (T : Txt K mg A) (c_number_at : C8.Cal P w K mg base 1 "number_at" (sp_number_at K) []) (c_is_known_check : C8.Cal P w K mg base 1 "is_known_check" sp_is_known_check []) : FnOk P w K mg base CX0 2 f fd ["request"] (sp_is_known K) := by
  refine Fn.ok sc_is_known (fun vs H Q E h => ?_) (fun cdv Ar outer sh H vs Q E hr h => ?_)
  · obtain ⟨_, _, rfl, _⟩ := h
    rfl
  · have sc := sc_is_known
    refine ⟨_, (pss_cons (ps_if (PW.pt (pw_and (pt_cmpR op_eq (pe_ix ix_list (pv 0) pe_int (fun _ _ => rfl)) pe_int (nomark _)) (pw_and1 (pt_cmpR op_ge (pe_callB call_len_seq (by rfl) T.b_len PySem.boot_len (pa_cons (pv 0) pa_nil)) pe_int (nomark _))))) (pss_one (ps_ret (C8.pe_c c_is_known_check hr (by decide) (by rfl) (pa_cons (C8.pe_c c_number_at hr (by decide) (by rfl) (pa_cons (pv 0) (pa_cons pe_int pa_nil))) pa_nil)))) pss_nil)
      (pss_one (ps_ret (pe_cmpR op_in_ktab (pe_ix ix_list (pv 0) pe_int (fun _ _ => rfl)) (pe_gr (by rfl) T.g_FORMS) (by rfl))))), ?_⟩
    obtain ⟨a, q, rfl, hs, h0, g⟩ := h
    have rest : ¬ (q.getD 0 0 = 8 ∧ 3 ≤ q.length) → tRet (tOp (rInK K) (tOp (rIxL K) (tVar 0) (tC (.int 0))) (tC (.ref A.FORMS))) { nx := fun _ H' => Q .non H', rt := Q } [some (.ref a)] H := fun z => by
      refine ⟨_, rfl, a, _, _, _, rfl, rfl, hs, (nv_at (i := 0) h0), _, _, _, rfl, rfl, T.k_FORMS, g.bl (Same.refl _) ?_⟩
      unfold known
      rw [if_neg z, pick_has]
      generalize q.getD 0 0 = n
      rw [Bool.eq_iff_iff]
      simp [fns]
      omega
    refine ⟨_, rfl, a, _, _, _, rfl, rfl, hs, (nv_at (i := 0) h0), rfl, _, rfl, ifb (fun b1 => ?_) (fun b1 => ?_)⟩
    · simp only [decide_eq_true_eq, V.int.injEq] at b1
      refine ⟨_, rfl, a, _, rfl, .inl hs, _, _, rfl, rfl, _, rfl, ifb (fun b2 => ?_) (fun b2 => ?_)⟩
      · simp [nv_len] at b2
        refine ⟨_, rfl, a, q, 1, rfl, hs, by omega, Sg46.at2 q 1, rfl, fun H' e => g.bl e ?_⟩
        unfold known
        rw [if_pos ⟨by omega, by omega⟩]
      · simp [nv_len] at b2
        exact rest (by omega)
    · simp only [decide_eq_false_iff_not, V.int.injEq] at b1
      exact iteF (rest (by omega))
/-! ### table_read_by -/
def sp_table_read_by : Sp := fun vs H Q _ => ∃ (n : Nat), vs = [.int n] ∧ 1 ≤ n ∧ n ≤ 4 ∧ GivV H Q (.int (n - 1 : Nat))
theorem ok_table_read_by {f : Addr} {fd : FuncData} (Fn : Fun K "table_read_by" "table_read_by" s_table_read_by f fd) (T : Txt K mg A) : FnOk P w K mg base CX0 1 f fd ["function"] (sp_table_read_by) := by
  refine Fn.ok sc_table_read_by (fun vs H Q E h => ?_) (fun cdv Ar outer sh H vs Q E hr h => ?_)
  · obtain ⟨_, rfl, _⟩ := h
    rfl
  · have sc := sc_table_read_by
    refine ⟨_, (pss_one (ps_ret (pe_dget (hu_of hr) (pe_disp (pps_cons pe_int (pe_gi (by rfl) T.g_COILS) (pps_cons pe_int (pe_gi (by rfl) T.g_INPUTS) (pps_cons pe_int (pe_gi (by rfl) T.g_KEPT) (pps_cons pe_int (pe_gi (by rfl) T.g_READ_ONLY) pps_nil)))) (by rfl) (by rfl) (fun z => by cases z) (by decide)) (pv 0) (fun _ _ => rfl)))), ?_⟩
    obtain ⟨n, rfl, h1, h4, g⟩ := h
    refine fun p np => ⟨upd_same, [(.inl 1, .int 0), (.inl 2, .int 1), (.inl 3, .int 2), (.inl 4, .int 3)], rfl, by decide, _, rfl, p, .int (n - 1 : Nat), rfl, ?_, ?_⟩
    · have hn : n = 1 ∨ n = 2 ∨ n = 3 ∨ n = 4 := by omega
      rcases hn with rfl | rfl | rfl | rfl
      · exact DGet.k (k := Sum.inl 1) upd_same
      · exact DGet.k (k := Sum.inl 2) upd_same
      · exact DGet.k (k := Sum.inl 3) upd_same
      · exact DGet.k (k := Sum.inl 4) upd_same
    · exact g _ (same_new (same_upd np) np)
/-! ### spans_of -/
def spansF (f : Nat) (q : List Nat) : List (Nat × Nat × Nat) :=
  if 1 ≤ f ∧ f ≤ 4 then [(f - 1, Sg46.at2 q 1, Sg46.at2 q 3)]
  else if f = 5 then [(0, Sg46.at2 q 1, 1)]
  else if f = 6 ∨ f = 22 then [(2, Sg46.at2 q 1, 1)]
  else if f = 15 then [(0, Sg46.at2 q 1, Sg46.at2 q 3)]
  else if f = 16 then [(2, Sg46.at2 q 1, Sg46.at2 q 3)]
  else if f = 23 then [(2, Sg46.at2 q 1, Sg46.at2 q 3), (2, Sg46.at2 q 5, Sg46.at2 q 7)]
  else []
def spans (q : List Nat) : List (Nat × Nat × Nat) := spansF (q.getD 0 0) q
/-- how many bytes a request must have ahead of its places' reading -/
def spanLen (q : List Nat) : Prop :=
  ((q.getD 0 0 = 1 ∨ q.getD 0 0 = 2 ∨ q.getD 0 0 = 3 ∨ q.getD 0 0 = 4 ∨ q.getD 0 0 = 5 ∨ q.getD 0 0 = 6 ∨ q.getD 0 0 = 22 ∨ q.getD 0 0 = 15 ∨ q.getD 0 0 = 16) → 5 ≤ q.length) ∧ (q.getD 0 0 = 23 → 9 ≤ q.length)
def tri (x : Nat × Nat × Nat) : List V := [.int (x.1 : Nat), .int (x.2.1 : Nat), .int (x.2.2 : Nat)]
def sp_spans_of (K : PySem.W.Frag) : Sp := fun vs H Q _ => ∃ (a : Addr) (q : List Nat), vs = [.ref a] ∧ SqL K H a (nv q) ∧ 0 < q.length ∧ spanLen q ∧
  ∀ H' p (ps : List Addr), Same H H' → H' p = some (.lst (ps.map V.ref)) → ps.length = (spans q).length → (∀ (i : Nat) (t : Addr) (x : Nat × Nat × Nat), ps[i]? = some t → (spans q)[i]? = some x → H' t = some (.tup (tri x))) → Q (.ref p) H'
theorem ok_spans_of {f : Addr} {fd : FuncData} (Fn : Fun K "spans_of" "spans_of" s_spans_of f fd) (T : Txt K mg A) (c_number_at : C8.Cal P w K mg base 1 "number_at" (sp_number_at K) []) (c_table_read_by : C8.Cal P w K mg base 1 "table_read_by" sp_table_read_by []) : FnOk P w K mg base CX0 2 f fd ["request"] (sp_spans_of K) := by
  refine Fn.ok sc_spans_of (fun vs H Q E h => ?_) (fun cdv Ar outer sh H vs Q E hr h => ?_)
  · obtain ⟨_, _, rfl, _⟩ := h
    rfl
  · have sc := sc_spans_of
    refine ⟨_, (pss_cons (ps_set (i := 1) sc.nd rfl (Or.inl rfl) (pe_ix ix_list (pv 0) pe_int (fun _ _ => rfl)))
      (pss_cons (ps_if (pt_chain op_le op_le pe_int (pv 1) pe_int) (pss_one (ps_ret (pe_lst (pa_cons (pe_tup (pa_cons (C8.pe_c c_table_read_by hr (by decide) (by rfl) (pa_cons (pv 1) pa_nil)) (pa_cons (C8.pe_c c_number_at hr (by decide) (by rfl) (pa_cons (pv 0) (pa_cons pe_int pa_nil))) (pa_cons (C8.pe_c c_number_at hr (by decide) (by rfl) (pa_cons (pv 0) (pa_cons pe_int pa_nil))) pa_nil)))) pa_nil)))) pss_nil)
      (pss_cons (ps_if (pt_cmpR op_eq (pv 1) pe_int (nomark _)) (pss_one (ps_ret (pe_lst (pa_cons (pe_tup (pa_cons (pe_gi (by rfl) T.g_COILS) (pa_cons (C8.pe_c c_number_at hr (by decide) (by rfl) (pa_cons (pv 0) (pa_cons pe_int pa_nil))) (pa_cons pe_int pa_nil)))) pa_nil)))) pss_nil)
      (pss_cons (ps_if (pt_cmpR op_in_seq (pv 1) (pe_tup (pa_cons pe_int (pa_cons pe_int pa_nil))) (by rfl)) (pss_one (ps_ret (pe_lst (pa_cons (pe_tup (pa_cons (pe_gi (by rfl) T.g_KEPT) (pa_cons (C8.pe_c c_number_at hr (by decide) (by rfl) (pa_cons (pv 0) (pa_cons pe_int pa_nil))) (pa_cons pe_int pa_nil)))) pa_nil)))) pss_nil)
      (pss_cons (ps_if (pt_cmpR op_eq (pv 1) pe_int (nomark _)) (pss_one (ps_ret (pe_lst (pa_cons (pe_tup (pa_cons (pe_gi (by rfl) T.g_COILS) (pa_cons (C8.pe_c c_number_at hr (by decide) (by rfl) (pa_cons (pv 0) (pa_cons pe_int pa_nil))) (pa_cons (C8.pe_c c_number_at hr (by decide) (by rfl) (pa_cons (pv 0) (pa_cons pe_int pa_nil))) pa_nil)))) pa_nil)))) pss_nil)
      (pss_cons (ps_if (pt_cmpR op_eq (pv 1) pe_int (nomark _)) (pss_one (ps_ret (pe_lst (pa_cons (pe_tup (pa_cons (pe_gi (by rfl) T.g_KEPT) (pa_cons (C8.pe_c c_number_at hr (by decide) (by rfl) (pa_cons (pv 0) (pa_cons pe_int pa_nil))) (pa_cons (C8.pe_c c_number_at hr (by decide) (by rfl) (pa_cons (pv 0) (pa_cons pe_int pa_nil))) pa_nil)))) pa_nil)))) pss_nil)
      (pss_cons (ps_if (pt_cmpR op_eq (pv 1) pe_int (nomark _)) (pss_one (ps_ret (pe_lst (pa_cons (pe_tup (pa_cons (pe_gi (by rfl) T.g_KEPT) (pa_cons (C8.pe_c c_number_at hr (by decide) (by rfl) (pa_cons (pv 0) (pa_cons pe_int pa_nil))) (pa_cons (C8.pe_c c_number_at hr (by decide) (by rfl) (pa_cons (pv 0) (pa_cons pe_int pa_nil))) pa_nil)))) (pa_cons (pe_tup (pa_cons (pe_gi (by rfl) T.g_KEPT) (pa_cons (C8.pe_c c_number_at hr (by decide) (by rfl) (pa_cons (pv 0) (pa_cons pe_int pa_nil))) (pa_cons (C8.pe_c c_number_at hr (by decide) (by rfl) (pa_cons (pv 0) (pa_cons pe_int pa_nil))) pa_nil)))) pa_nil))))) pss_nil)
      (pss_one (ps_ret (pe_lst pa_nil)))))))))), ?_⟩
    obtain ⟨a, q, rfl, hs, h0, ⟨hl, hl2⟩, g⟩ := h
    have one : ∀ (x : Nat × Nat × Nat) H1 t p, Same H H1 → H1 t = none → spans q = [x] → upd H1 t (.tup (tri x)) p = none → Q (.ref p) (upd (upd H1 t (.tup (tri x))) p (.lst [.ref t])) := fun x H1 t p e nt es np => by
      refine g _ p [t] (same_new (same_new e (e.free nt)) ((e.trans (same_upd nt)).free np)) upd_same (by rw [es]; rfl) fun i t' x' h1 h2 => ?_
      rw [es] at h2
      match i, h1, h2 with
      | 0, h1, h2 =>
        obtain rfl := Option.some.inj h1
        obtain rfl := Option.some.inj h2
        rw [upd_ne (ne_of_none upd_same np), upd_same]
    refine ⟨_, rfl, a, _, _, _, rfl, rfl, hs, (nv_at (i := 0) h0), ?_⟩
    generalize hf : q.getD 0 0 = f at *
    refine ⟨_, rfl, _, _, rfl, rfl, chain_le (ifb (fun b1 => ?_) (fun b1 => ?_))⟩
    · simp at b1
      have h5 : 5 ≤ q.length := hl (by omega)
      refine ⟨_, rfl, f, rfl, by omega, by omega, fun H1 e1 => ?_⟩
      refine ⟨_, rfl, a, q, 1, rfl, e1.seq hs, by omega, _, rfl, a, q, 3, rfl, e1.seq hs, by omega, (by show 3 ≤ sizeLine; decide), fun t nt => ⟨(by show 1 ≤ sizeLine; decide), fun p np => ?_⟩⟩
      refine one (f - 1, Sg46.at2 q 1, Sg46.at2 q 3) H1 t p e1 nt ?_ np
      unfold spans spansF
      rw [hf, if_pos (by omega)]
    · simp at b1
      refine ⟨_, rfl, rfl, _, rfl, ifb (fun b2 => ?_) (fun b2 => ?_)⟩
      · simp at b2
        have h5 : 5 ≤ q.length := hl (by omega)
        refine ⟨_, rfl, a, q, 1, rfl, hs, by omega, (by show 3 ≤ sizeLine; decide), fun t nt => ⟨(by show 1 ≤ sizeLine; decide), fun p np => ?_⟩⟩
        refine one (0, Sg46.at2 q 1, 1) H t p (Same.refl _) nt ?_ np
        unfold spans spansF
        rw [hf, if_neg (by omega), if_pos (by omega)]
      · simp at b2
        refine ⟨_, rfl, (by show 2 ≤ sizeLine; decide), fun z nz => ?_⟩
        have e1 : Same H (upd H z (.tup [.int 6, .int 22])) := same_upd nz
        refine ⟨z, _, rfl, .inr (SqT.of upd_same), rfl, rfl, _, rfl, ifb (fun b3 => ?_) (fun b3 => ?_)⟩
        · simp [inV, eqV] at b3
          have h5 : 5 ≤ q.length := hl (by omega)
          refine ⟨_, rfl, a, q, 1, rfl, e1.seq hs, by omega, (by show 3 ≤ sizeLine; decide), fun t nt => ⟨(by show 1 ≤ sizeLine; decide), fun p np => ?_⟩⟩
          refine one (2, Sg46.at2 q 1, 1) _ t p e1 nt ?_ np
          unfold spans spansF
          rw [hf, if_neg (by omega), if_neg (by omega), if_pos (by omega)]
        · simp [inV, eqV] at b3
          generalize upd H z (.tup [.int 6, .int 22]) = H1 at *
          refine ⟨_, rfl, rfl, _, rfl, ifb (fun b4 => ?_) (fun b4 => ?_)⟩
          · simp at b4
            have h5 : 5 ≤ q.length := hl (by omega)
            refine ⟨_, rfl, a, q, 1, rfl, e1.seq hs, by omega, _, rfl, a, q, 3, rfl, e1.seq hs, by omega, (by show 3 ≤ sizeLine; decide), fun t nt => ⟨(by show 1 ≤ sizeLine; decide), fun p np => ?_⟩⟩
            refine one (0, Sg46.at2 q 1, Sg46.at2 q 3) H1 t p e1 nt ?_ np
            unfold spans spansF
            rw [hf, if_neg (by omega), if_neg (by omega), if_neg (by omega), if_pos (by omega)]
          · simp at b4
            refine ⟨_, rfl, rfl, _, rfl, ifb (fun b5 => ?_) (fun b5 => ?_)⟩
            · simp at b5
              have h5 : 5 ≤ q.length := hl (by omega)
              refine ⟨_, rfl, a, q, 1, rfl, e1.seq hs, by omega, _, rfl, a, q, 3, rfl, e1.seq hs, by omega, (by show 3 ≤ sizeLine; decide), fun t nt => ⟨(by show 1 ≤ sizeLine; decide), fun p np => ?_⟩⟩
              refine one (2, Sg46.at2 q 1, Sg46.at2 q 3) H1 t p e1 nt ?_ np
              unfold spans spansF
              rw [hf, if_neg (by omega), if_neg (by omega), if_neg (by omega), if_neg (by omega), if_pos (by omega)]
            · simp at b5
              refine ⟨_, rfl, rfl, _, rfl, ifb (fun b6 => ?_) (fun b6 => ?_)⟩
              · simp at b6
                have h9 : 9 ≤ q.length := hl2 (by omega)
                have es : spans q = [(2, Sg46.at2 q 1, Sg46.at2 q 3), (2, Sg46.at2 q 5, Sg46.at2 q 7)] := by
                  unfold spans spansF
                  rw [hf, if_neg (by omega), if_neg (by omega), if_neg (by omega), if_neg (by omega), if_neg (by omega), if_pos (by omega)]
                refine ⟨_, rfl, a, q, 1, rfl, e1.seq hs, by omega, _, rfl, a, q, 3, rfl, e1.seq hs, by omega, (by show 3 ≤ sizeLine; decide), fun t nt => ?_⟩
                have e2 := same_upd (o := .tup (tri (2, Sg46.at2 q 1, Sg46.at2 q 3))) nt
                refine ⟨_, rfl, a, q, 5, rfl, (e1.trans e2).seq hs, by omega, _, rfl, a, q, 7, rfl, (e1.trans e2).seq hs, by omega, (by show 3 ≤ sizeLine; decide), fun u nu => ⟨(by show 2 ≤ sizeLine; decide), fun p np => ?_⟩⟩
                have e3 := same_upd (o := .tup (tri (2, Sg46.at2 q 5, Sg46.at2 q 7))) nu
                have e4 := same_upd (o := .lst [.ref t, .ref u]) np
                refine g _ p [t, u] (((e1.trans e2).trans e3).trans e4) upd_same (by rw [es]; rfl) fun i t' x' h1 h2 => ?_
                rw [es] at h2
                match i, h1, h2 with
                | 0, h1, h2 =>
                  obtain rfl := Option.some.inj h1
                  obtain rfl := Option.some.inj h2
                  exact (e3.trans e4) _ _ upd_same
                | 1, h1, h2 =>
                  obtain rfl := Option.some.inj h1
                  obtain rfl := Option.some.inj h2
                  exact e4 _ _ upd_same
              · simp at b6
                have es : spans q = [] := by
                  unfold spans spansF
                  rw [hf, if_neg (by omega), if_neg (by omega), if_neg (by omega), if_neg (by omega), if_neg (by omega), if_neg (by omega)]
                refine ⟨(by show 0 ≤ sizeLine; decide), fun p np => ?_⟩
                exact g _ p [] (e1.trans (same_upd np)) upd_same (by rw [es]; rfl) fun i t' x' h1 h2 => by simp at h1
/-! ### reason_against -/
def formF (f : Nat) (q : List Nat) : Bool :=
  if f = 1 ∨ f = 2 then fBits q else if f = 3 ∨ f = 4 then fNums q else if f = 5 then fCoil q else if f = 6 then fLen 5 q else if f = 7 then fLen 1 q else if f = 8 then fCheck q
  else if f = 11 then fLen 1 q else if f = 15 then fCoils q else if f = 16 then fRow q else if f = 22 then fLen 7 q else if f = 23 then fBoth q else false
def formOf (q : List Nat) : Bool := formF (q.getD 0 0) q
def placeOk (s : Sg46.Dev) (q : List Nat) : Bool := (spans q).all fun x => decide (x.2.1 + x.2.2 ≤ s.size x.1)
def reason (s : Sg46.Dev) (q : List Nat) : Nat := if known q = false then 1 else if formOf q = false then 3 else if placeOk s q = false then 2 else 0
structure HForms (P : Program) (w : World) (K : PySem.W.Frag) (mg : Str → Option Value) (base : Heap) (A : Ad) : Prop where
  bits : Held P w K mg base 2 A.f_is_read_of_bits (sp_form K fBits)
  nums : Held P w K mg base 2 A.f_is_read_of_numbers (sp_form K fNums)
  coil : Held P w K mg base 2 A.f_is_write_of_coil (sp_form K fCoil)
  kept : Held P w K mg base 2 A.f_is_write_of_kept (sp_form K (fLen 5))
  alone : Held P w K mg base 2 A.f_is_alone (sp_form K (fLen 1))
  check : Held P w K mg base 2 A.f_is_check (sp_form K fCheck)
  coils : Held P w K mg base 2 A.f_is_write_of_coils (sp_form K fCoils)
  row : Held P w K mg base 2 A.f_is_write_of_kept_row (sp_form K fRow)
  mask : Held P w K mg base 2 A.f_is_mask_of_kept (sp_form K (fLen 7))
  both : Held P w K mg base 2 A.f_is_write_and_read (sp_form K fBoth)
theorem known_fns {q : List Nat} (h : known q = true) : fns.contains (q.getD 0 0) = true := by
  unfold known at h
  split at h
  · rename_i z
    rw [z.1]
    rfl
  · exact h
theorem form_pick (hF : HForms P w K mg base A) {q : List Nat} (h : fns.contains (q.getD 0 0) = true) :
    ∃ fa g, pickT [((1 : Int), Value.ref A.f_is_read_of_bits), (2, .ref A.f_is_read_of_bits), (3, .ref A.f_is_read_of_numbers), (4, .ref A.f_is_read_of_numbers), (5, .ref A.f_is_write_of_coil), (6, .ref A.f_is_write_of_kept), (7, .ref A.f_is_alone), (8, .ref A.f_is_check), (11, .ref A.f_is_alone), (15, .ref A.f_is_write_of_coils), (16, .ref A.f_is_write_of_kept_row), (22, .ref A.f_is_mask_of_kept), (23, .ref A.f_is_write_and_read)] ((q.getD 0 0 : Nat) : Int) = some (.ref fa) ∧ Held P w K mg base 2 fa (sp_form K g) ∧ g q = formOf q := by
  unfold formOf formF
  generalize q.getD 0 0 = n at *
  simp [fns] at h
  rcases h with rfl | rfl | rfl | rfl | rfl | rfl | rfl | rfl | rfl | rfl | rfl | rfl | rfl
  · exact ⟨_, _, rfl, hF.bits, rfl⟩
  · exact ⟨_, _, rfl, hF.bits, rfl⟩
  · exact ⟨_, _, rfl, hF.nums, rfl⟩
  · exact ⟨_, _, rfl, hF.nums, rfl⟩
  · exact ⟨_, _, rfl, hF.coil, rfl⟩
  · exact ⟨_, _, rfl, hF.kept, rfl⟩
  · exact ⟨_, _, rfl, hF.alone, rfl⟩
  · exact ⟨_, _, rfl, hF.check, rfl⟩
  · exact ⟨_, _, rfl, hF.alone, rfl⟩
  · exact ⟨_, _, rfl, hF.coils, rfl⟩
  · exact ⟨_, _, rfl, hF.row, rfl⟩
  · exact ⟨_, _, rfl, hF.mask, rfl⟩
  · exact ⟨_, _, rfl, hF.both, rfl⟩
theorem form_span {q : List Nat} (h : formOf q = true) : spanLen q := by
  unfold formOf formF at h
  unfold spanLen
  generalize q.getD 0 0 = n at *
  refine ⟨fun z => ?_, fun z => ?_⟩
  · rcases z with rfl | rfl | rfl | rfl | rfl | rfl | rfl | rfl | rfl <;> simp [fBits, fNums, fCoil, fLen, fCoils, fRow] at h <;> omega
  · subst z
    simp [fBoth] at h
    omega
theorem spans_four {q : List Nat} {i : Nat} {x : Nat × Nat × Nat} (h : (spans q)[i]? = some x) : x.1 < 4 := by
  have m := List.mem_of_getElem? h
  unfold spans spansF at m
  generalize q.getD 0 0 = n at *
  split at m
  · rw [List.mem_singleton] at m
    rw [m]
    show n - 1 < 4
    omega
  split at m
  · rw [List.mem_singleton] at m
    rw [m]
    simp
  split at m
  · rw [List.mem_singleton] at m
    rw [m]
    simp
  split at m
  · rw [List.mem_singleton] at m
    rw [m]
    simp
  split at m
  · rw [List.mem_singleton] at m
    rw [m]
    simp
  split at m
  · simp only [List.mem_cons, List.not_mem_nil, or_false] at m
    rcases m with m | m <;> rw [m] <;> simp
  · simp at m
theorem has_nat (s : Sg46.Dev) {t : Nat} (i n : Nat) (h : t < 4) : hasI s (t : Int) (i : Int) (n : Int) = decide (i + n ≤ s.size t) := by
  unfold hasI
  rw [Bool.eq_iff_iff]
  simp
  omega
/-! ### has_right_form -/
def sp_has_right_form (K : PySem.W.Frag) : Sp := fun vs H Q _ => ∃ (a : Addr) (q : List Nat), vs = [.ref a] ∧ SqL K H a (nv q) ∧ 0 < q.length ∧ fns.contains (q.getD 0 0) = true ∧ GivV H Q (.bl (formOf q))
theorem ok_has_right_form {f : Addr} {fd : FuncData} (Fn : Fun K "has_right_form" "has_right_form" s_has_right_form f fd) (T : Txt K mg A) (hF : HForms P w K mg base A) : FnOk P w K mg base CX0 3 f fd ["request"] (sp_has_right_form K) := by
  refine Fn.ok sc_has_right_form (fun vs H Q E h => ?_) (fun cdv Ar outer sh H vs Q E hr h => ?_)
  · obtain ⟨_, _, rfl, _⟩ := h
    rfl
  · have sc := sc_has_right_form
    refine ⟨_, (pss_one (ps_ret (pe_callE hr (pe_ix ix_ktab (pe_gr (by rfl) T.g_FORMS) (pe_ix ix_list (pv 0) pe_int (fun _ _ => rfl)) (fun _ _ => rfl)) (pa_cons (pv 0) pa_nil)))), ?_⟩
    obtain ⟨a, q, rfl, hs, h0, hk, g⟩ := h
    obtain ⟨fa, ff, hp, hh, hg⟩ := form_pick hF hk
    exact ⟨_, rfl, a, _, _, _, rfl, rfl, hs, (nv_at (i := 0) h0), _, _, _, _, .ref fa, rfl, rfl, T.k_FORMS, hp, rfl, fa, _, rfl, hh, _, rfl, a, q, rfl, hs, fun H2 e2 => g.bl e2 hg.symm⟩
def sp_reason_against (A : Ad) (K : PySem.W.Frag) : Sp := fun vs H Q _ => ∃ (d r : Addr) (q : List Nat) (s : Sg46.Dev) (F : List Addr), vs = [.ref d, .ref r] ∧ DevAt A.C H d s F ∧ SqL K H r (nv q) ∧ 0 < q.length ∧ GivV H Q (.int (reason s q : Nat))
theorem ok_reason_against {f : Addr} {fd : FuncData} (Fn : Fun K "reason_against" "reason_against" s_reason_against f fd) (T : Txt K mg A) (c_has_right_form : C8.Cal P w K mg base 3 "has_right_form" (sp_has_right_form K) []) (c_is_known : C8.Cal P w K mg base 2 "is_known" (sp_is_known K) []) (c_spans_of : C8.Cal P w K mg base 2 "spans_of" (sp_spans_of K) []) (c_has_places : C8.Met P w K mg base 1 A.C "has_places" (sp_has_places A) []) : FnOk P w K mg base CX0 4 f fd ["device", "request"] (sp_reason_against A K) := by
  refine Fn.ok sc_reason_against (fun vs H Q E h => ?_) (fun cdv Ar outer sh H vs Q E hr h => ?_)
  · obtain ⟨_, _, _, _, _, rfl, _⟩ := h
    rfl
  · have sc := sc_reason_against
    refine ⟨_, (pss_cons (ps_if (pt_not (pt_val (C8.pe_c c_is_known hr (by decide) (by rfl) (pa_cons (pv 1) pa_nil)))) (pss_one (ps_ret (pe_gi (by rfl) T.g_NO_SUCH_FUNCTION))) pss_nil)
      (pss_cons (ps_if (pt_not (pt_val (C8.pe_c c_has_right_form hr (by decide) (by rfl) (pa_cons (pv 1) pa_nil)))) (pss_one (ps_ret (pe_gi (by rfl) T.g_WRONG_FORM))) pss_nil)
      (pss_cons (ps_for PassesOwn.never rfl (pi_list (C8.pe_c c_spans_of hr (by decide) (by rfl) (pa_cons (pv 1) pa_nil))) (pg_name (i := 2) sc.nd rfl (Or.inl rfl)) (pss_one (ps_if (pt_not (pt_val (C8.pe_mt c_has_places hr (by decide) (pv 0) (pa_cons (pe_ix ix_tup (pv 2) pe_int (fun _ _ => rfl)) (pa_cons (pe_ix ix_tup (pv 2) pe_int (fun _ _ => rfl)) (pa_cons (pe_ix ix_tup (pv 2) pe_int (fun _ _ => rfl)) pa_nil)))))) (pss_one (ps_ret (pe_gi (by rfl) T.g_NO_SUCH_PLACE))) pss_nil)))
      (pss_one (ps_ret (pe_gi (by rfl) T.g_NO_REASON)))))), ?_⟩
    obtain ⟨d, r, q, s, F, rfl, D, hs, h0, g⟩ := h
    refine ⟨_, rfl, r, q, rfl, hs, h0, fun H1 e1 => ⟨_, rfl, ifb (fun b1 => ?_) (fun b1 => ?_)⟩⟩
    · simp at b1
      exact g.at e1 (by unfold reason; rw [if_pos b1]; rfl)
    · simp at b1
      refine ⟨_, rfl, r, q, rfl, e1.seq hs, h0, known_fns b1, fun H2 e2 => ⟨_, rfl, ifb (fun b2 => ?_) (fun b2 => ?_)⟩⟩
      · simp at b2
        exact g.at (e1.trans e2) (by unfold reason; rw [if_neg (by rw [b1]; decide), if_pos b2]; rfl)
      · simp at b2
        have e12 := e1.trans e2
        refine ⟨_, rfl, r, q, rfl, e12.seq hs, h0, form_span b2, fun H3 p ps e3 hp3 hl3 ht3 => ?_⟩
        have e13 := e12.trans e3
        refine ⟨p, rfl, ⟨_, SqL.of hp3⟩, for_list (K := K) (a := p) (xs := ps.map V.ref) (fun i σ H' => ∃ v : Option V, σ = [some (.ref d), some (.ref r), v] ∧ H' = H3 ∧ ∀ x ∈ (spans q).take i, x.2.1 + x.2.2 ≤ s.size x.1)
          ⟨none, rfl, rfl, fun x m => absurd m (by simp)⟩ (fun i σ H' _ ⟨_, _, e, _⟩ => by rw [e]; exact SqL.of hp3) ?_ ?_⟩
        · rintro i y σ H' hi ⟨v, rfl, rfl, ha⟩
          rw [List.getElem?_map] at hi
          have hi' := hi
          cases ht : ps[i]? with
          | none => rw [ht] at hi; cases hi
          | some t =>
            rw [ht] at hi
            obtain rfl := (Option.some.inj hi).symm
            have hil : i < (spans q).length := by
              have := (List.getElem?_eq_some_iff.mp ht).1
              omega
            obtain ⟨x, hx⟩ : ∃ x, (spans q)[i]? = some x := ⟨(spans q)[i], by simp [hil]⟩
            have htt := ht3 i t x ht hx
            obtain ⟨dx, ta, c, ts, hFF, hN, h3, h4, h5, h6, h7⟩ := (D.same e13).ex
            refine ⟨_, rfl, d, dx, _, rfl, h4, no_has _ _ _, _, rfl, t, _, _, _, rfl, rfl, SqT.of htt, atI_nat (j := 0) rfl, _, rfl, t, _, _, _, rfl, rfl, SqT.of htt, atI_nat (j := 1) rfl, _, rfl, t, _, _, _, rfl, rfl, SqT.of htt, atI_nat (j := 2) rfl, d, _, _, _, s, F, rfl, D.same e13, _, rfl, ?_⟩
            rw [has_nat s _ _ (spans_four hx)]
            refine ifb (fun b3 => ?_) (fun b3 => ?_)
            · simp at b3
              refine g.at e13 ?_
              unfold reason
              rw [if_neg (by rw [b1]; decide), if_neg (by rw [b2]; decide), if_pos]
              · rfl
              · unfold placeOk
                exact List.all_eq_false.mpr ⟨x, List.mem_of_getElem? hx, by simp; omega⟩
            · simp at b3
              refine ⟨some (.ref t), rfl, rfl, fun z hz => ?_⟩
              rw [take_more hx] at hz
              rcases List.mem_append.mp hz with m | m
              · exact ha z m
              · rw [List.mem_singleton] at m
                rw [m]
                exact b3
        · rintro σ H' ⟨v, rfl, rfl, ha⟩
          rw [List.length_map, hl3, List.take_length] at ha
          refine g.at e13 ?_
          unfold reason
          rw [if_neg (by rw [b1]; decide), if_neg (by rw [b2]; decide), if_neg]
          · rfl
          · unfold placeOk
            rw [List.all_eq_true.mpr (fun x m => decide_eq_true (ha x m))]
            decide
end
end Bd

set_option Elab.async false
set_option linter.all false
set_option maxRecDepth 100000
set_option maxHeartbeats 2000000
namespace Bd
open Sg46 (work answer Said at2 Dev)
def chk (v p : Bool) (go : Said) : Said := if v = false then .refused 3 else if p = false then .refused 2 else go
theorem headD_getD (q : List Nat) : q.headD 0 = q.getD 0 0 := by cases q <;> rfl
section
variable {s : Dev} {q : List Nat}
theorem work_bits {f : Nat} (hf : q.getD 0 0 = f) (h : f = 1 ∨ f = 2) : work s q = chk (fBits q) (s.has (f - 1) (at2 q 1) (at2 q 3)) (.done (f :: (at2 q 3 + 7) / 8 :: Sg46.packed (s.row (f - 1) (at2 q 1) (at2 q 3))) s) := by
  unfold work
  rw [headD_getD, hf]
  dsimp only
  rw [if_pos h]
  rfl
theorem work_nums {f : Nat} (hf : q.getD 0 0 = f) (h : f = 3 ∨ f = 4) : work s q = chk (fNums q) (s.has (f - 1) (at2 q 1) (at2 q 3)) (.done (f :: 2 * at2 q 3 :: Sg46.words (s.row (f - 1) (at2 q 1) (at2 q 3))) s) := by
  unfold work
  rw [headD_getD, hf]
  dsimp only
  rw [if_neg (by omega), if_pos h]
  rfl
theorem work_coil (hf : q.getD 0 0 = 5) : work s q = chk (fCoil q) (s.has 0 (at2 q 1) 1) (.done q (s.put 0 (at2 q 1) (if at2 q 3 = 0 then 0 else 1))) := by
  unfold work
  rw [headD_getD, hf]
  rfl
theorem work_kept (hf : q.getD 0 0 = 6) : work s q = chk (fLen 5 q) (s.has 2 (at2 q 1) 1) (.done q (s.put 2 (at2 q 1) (at2 q 3))) := by
  unfold work
  rw [headD_getD, hf]
  rfl
theorem work_status (hf : q.getD 0 0 = 7) : work s q = chk (fLen 1 q) true (.done [7, (Sg46.packed ((List.range 8).map fun (k : Nat) => if k < s.size 0 then s.held 0 k else 0)).headD 0] s) := by
  unfold work
  rw [headD_getD, hf]
  rfl
theorem work_check (hf : q.getD 0 0 = 8) : work s q = if q.length < 3 then .refused 3 else if at2 q 1 = 0 then chk (decide (q.length = 5)) true (.done q s)
    else if at2 q 1 = 10 then chk (decide (q.length = 5) && decide (at2 q 3 = 0)) true (.done q { s with counts := List.replicate 6 0 })
    else if 11 ≤ at2 q 1 ∧ at2 q 1 ≤ 15 then chk (decide (q.length = 5) && decide (at2 q 3 = 0)) true (.done (8 :: Sg46.two (at2 q 1) ++ Sg46.two (s.counts.getD (at2 q 1 - 11) 0)) s)
    else .refused 1 := by
  unfold work
  rw [headD_getD, hf]
  rfl
theorem work_went (hf : q.getD 0 0 = 11) : work s q = chk (fLen 1 q) true (.done (11 :: 0 :: 0 :: Sg46.two (s.counts.getD 5 0)) s) := by
  unfold work
  rw [headD_getD, hf]
  rfl
theorem work_coils (hf : q.getD 0 0 = 15) : work s q = chk (fCoils q) (s.has 0 (at2 q 1) (at2 q 3)) (.done (15 :: Sg46.two (at2 q 1) ++ Sg46.two (at2 q 3)) (s.puts 0 (at2 q 1) (Sg46.unpacked (q.drop 6) (at2 q 3)))) := by
  unfold work
  rw [headD_getD, hf]
  rfl
theorem work_row (hf : q.getD 0 0 = 16) : work s q = chk (fRow q) (s.has 2 (at2 q 1) (at2 q 3)) (.done (16 :: Sg46.two (at2 q 1) ++ Sg46.two (at2 q 3)) (s.puts 2 (at2 q 1) (Sg46.unworded (q.drop 6) (at2 q 3)))) := by
  unfold work
  rw [headD_getD, hf]
  rfl
theorem work_mask (hf : q.getD 0 0 = 22) : work s q = chk (fLen 7 q) (s.has 2 (at2 q 1) 1) (.done q (s.put 2 (at2 q 1) ((s.held 2 (at2 q 1) &&& at2 q 3) ||| (at2 q 5 &&& (65535 - at2 q 3))))) := by
  unfold work
  rw [headD_getD, hf]
  rfl
theorem work_both (hf : q.getD 0 0 = 23) : work s q = chk (fBoth q) (s.has 2 (at2 q 1) (at2 q 3) && s.has 2 (at2 q 5) (at2 q 7))
    (.done (23 :: 2 * at2 q 3 :: Sg46.words ((s.puts 2 (at2 q 5) (Sg46.unworded (q.drop 10) (at2 q 7))).row 2 (at2 q 1) (at2 q 3))) (s.puts 2 (at2 q 5) (Sg46.unworded (q.drop 10) (at2 q 7)))) := by
  unfold work
  rw [headD_getD, hf]
  rfl
theorem work_none {f : Nat} (hf : q.getD 0 0 = f) (h : fns.contains f = false) : work s q = .refused 1 := by
  unfold work
  rw [headD_getD, hf]
  simp [fns] at h
  dsimp only
  rw [if_neg (by omega), if_neg (by omega), if_neg (by omega), if_neg (by omega), if_neg (by omega), if_neg (by omega), if_neg (by omega), if_neg (by omega), if_neg (by omega), if_neg (by omega), if_neg (by omega)]
theorem chk_no {v p : Bool} {go : Said} {k : Nat} (h : (if v = false then 3 else if p = false then 2 else 0) = k) (hk : k ≠ 0) : chk v p go = .refused k := by
  subst h
  unfold chk
  cases v <;> cases p <;> simp at hk ⊢
theorem chk_yes {v p : Bool} {go : Said} (h : (if v = false then 3 else if p = false then 2 else 0) = 0) : chk v p go = go ∧ v = true ∧ p = true := by
  unfold chk
  cases v <;> cases p <;> simp at h ⊢
/-- the mirror's reason for a function that has no check of its own -/
theorem reason_of {f : Nat} (hf : q.getD 0 0 = f) (h8 : f ≠ 8) (hk : fns.contains f = true) : reason s q = if formOf q = false then 3 else if placeOk s q = false then 2 else 0 := by
  unfold reason
  rw [if_neg]
  unfold known
  rw [hf, if_neg (fun z => h8 z.1), hk]
  decide
theorem place_one {t i n : Nat} (h : spans q = [(t, i, n)]) : placeOk s q = s.has t i n := by
  unfold placeOk Sg46.Dev.has
  rw [h]
  simp
theorem place_nil (h : spans q = []) : placeOk s q = true := by
  unfold placeOk
  rw [h]
  rfl
theorem place_two {t i n u j m : Nat} (h : spans q = [(t, i, n), (u, j, m)]) : placeOk s q = (s.has t i n && s.has u j m) := by
  unfold placeOk Sg46.Dev.has
  rw [h]
  simp
theorem form_at {f : Nat} {g : Bool} (hf : q.getD 0 0 = f) (h : formF f q = g) : formOf q = g := by
  unfold formOf
  rw [hf]
  exact h
theorem span_at {f : Nat} {g : List (Nat × Nat × Nat)} (hf : q.getD 0 0 = f) (h : spansF f q = g) : spans q = g := by
  unfold spans
  rw [hf]
  exact h
/-- what the program refuses, the document refuses, for the same reason -/
theorem work_refused (h : reason s q ≠ 0) : work s q = .refused (reason s q) := by
  cases hc : fns.contains (q.getD 0 0) with
  | false =>
    rw [work_none rfl hc]
    unfold reason
    rw [if_pos]
    unfold known
    rw [if_neg, hc]
    intro z
    rw [z.1] at hc
    revert hc
    decide
  | true =>
    have hc' := hc
    generalize hf : q.getD 0 0 = f at hc
    simp [fns] at hc
    by_cases h8 : f = 8
    · subst h8
      have fo : formOf q = fCheck q := form_at hf rfl
      have sp : spans q = [] := span_at hf rfl
      rw [work_check hf]
      unfold reason at h ⊢
      rw [fo, place_nil sp] at h ⊢
      by_cases l3 : q.length < 3
      · have k : known q = true := by
          unfold known
          rw [if_neg (by omega)]
          exact hc'
        have c : fCheck q = false := by
          simp [fCheck]
          omega
        rw [if_pos l3, k, c]
        rfl
      · have k : known q = kCheck (at2 q 1) := by
          unfold known
          rw [if_pos ⟨hf, by omega⟩]
        rw [if_neg l3]
        rw [k] at h ⊢
        unfold fCheck kCheck at h ⊢
        generalize at2 q 1 = a at h ⊢
        by_cases c0 : a = 0
        · subst c0
          rw [if_pos rfl]
          simp at h ⊢
          exact chk_no (by simp) (by simpa using h)
        · rw [if_neg c0]
          by_cases c10 : a = 10
          · subst c10
            rw [if_pos rfl]
            simp at h ⊢
            exact chk_no (by simp) (by simpa using h)
          · rw [if_neg c10]
            by_cases c11 : 11 ≤ a ∧ a ≤ 15
            · rw [if_pos c11]
              simp [c0, c10, c11] at h ⊢
              exact chk_no (by simp) (by simpa using h)
            · rw [if_neg c11]
              have z : (decide (a = 0) || (decide (a = 10) || (decide (11 ≤ a) && decide (a ≤ 15)))) = false := by
                simp [c0, c10]
                omega
              rw [z]
              rfl
    · rw [reason_of hf h8 (by rw [← hf]; exact hc')] at h ⊢
      rcases hc with rfl | rfl | rfl | rfl | rfl | rfl | rfl | rfl | rfl | rfl | rfl | rfl | rfl
      · rw [work_bits hf (by decide)]; rw [form_at hf rfl, place_one (span_at hf rfl)] at h ⊢; exact chk_no rfl h
      · rw [work_bits hf (by decide)]; rw [form_at hf rfl, place_one (span_at hf rfl)] at h ⊢; exact chk_no rfl h
      · rw [work_nums hf (by decide)]; rw [form_at hf rfl, place_one (span_at hf rfl)] at h ⊢; exact chk_no rfl h
      · rw [work_nums hf (by decide)]; rw [form_at hf rfl, place_one (span_at hf rfl)] at h ⊢; exact chk_no rfl h
      · rw [work_coil hf]; rw [form_at hf rfl, place_one (span_at hf rfl)] at h ⊢; exact chk_no rfl h
      · rw [work_kept hf]; rw [form_at hf rfl, place_one (span_at hf rfl)] at h ⊢; exact chk_no rfl h
      · rw [work_status hf]; rw [form_at hf rfl, place_nil (span_at hf rfl)] at h ⊢; exact chk_no rfl h
      · exact absurd rfl h8
      · rw [work_went hf]; rw [form_at hf rfl, place_nil (span_at hf rfl)] at h ⊢; exact chk_no rfl h
      · rw [work_coils hf]; rw [form_at hf rfl, place_one (span_at hf rfl)] at h ⊢; exact chk_no rfl h
      · rw [work_row hf]; rw [form_at hf rfl, place_one (span_at hf rfl)] at h ⊢; exact chk_no rfl h
      · rw [work_mask hf]; rw [form_at hf rfl, place_one (span_at hf rfl)] at h ⊢; exact chk_no rfl h
      · rw [work_both hf]; rw [form_at hf rfl, place_two (span_at hf rfl)] at h ⊢; exact chk_no rfl h
/-! ### what is not refused -/
theorem yes_bits {f : Nat} (hf : q.getD 0 0 = f) (h : f = 1 ∨ f = 2) (hr : reason s q = 0) : fBits q = true ∧ (s.has (f - 1) (at2 q 1) (at2 q 3)) = true ∧ work s q = (.done (f :: (at2 q 3 + 7) / 8 :: Sg46.packed (s.row (f - 1) (at2 q 1) (at2 q 3))) s) := by
  rw [reason_of hf (by omega) (by rcases h with rfl | rfl <;> rfl), form_at (g := fBits q) hf (by rcases h with rfl | rfl <;> rfl), place_one (t := f - 1) (by rcases h with rfl | rfl <;> exact span_at hf rfl)] at hr
  obtain ⟨e, a, b⟩ := chk_yes (go := (.done (f :: (at2 q 3 + 7) / 8 :: Sg46.packed (s.row (f - 1) (at2 q 1) (at2 q 3))) s)) hr
  exact ⟨a, b, (work_bits hf h).trans e⟩
theorem yes_nums {f : Nat} (hf : q.getD 0 0 = f) (h : f = 3 ∨ f = 4) (hr : reason s q = 0) : fNums q = true ∧ (s.has (f - 1) (at2 q 1) (at2 q 3)) = true ∧ work s q = (.done (f :: 2 * at2 q 3 :: Sg46.words (s.row (f - 1) (at2 q 1) (at2 q 3))) s) := by
  rw [reason_of hf (by omega) (by rcases h with rfl | rfl <;> rfl), form_at (g := fNums q) hf (by rcases h with rfl | rfl <;> rfl), place_one (t := f - 1) (by rcases h with rfl | rfl <;> exact span_at hf rfl)] at hr
  obtain ⟨e, a, b⟩ := chk_yes (go := (.done (f :: 2 * at2 q 3 :: Sg46.words (s.row (f - 1) (at2 q 1) (at2 q 3))) s)) hr
  exact ⟨a, b, (work_nums hf h).trans e⟩
theorem yes_coil (hf : q.getD 0 0 = 5) (hr : reason s q = 0) : fCoil q = true ∧ (s.has 0 (at2 q 1) 1) = true ∧ work s q = (.done q (s.put 0 (at2 q 1) (if at2 q 3 = 0 then 0 else 1))) := by
  rw [reason_of hf (by decide) rfl, form_at (g := fCoil q) hf rfl, place_one (span_at hf rfl)] at hr
  obtain ⟨e, a, b⟩ := chk_yes (go := (.done q (s.put 0 (at2 q 1) (if at2 q 3 = 0 then 0 else 1)))) hr
  exact ⟨a, b, (work_coil hf).trans e⟩
theorem yes_kept (hf : q.getD 0 0 = 6) (hr : reason s q = 0) : fLen 5 q = true ∧ (s.has 2 (at2 q 1) 1) = true ∧ work s q = (.done q (s.put 2 (at2 q 1) (at2 q 3))) := by
  rw [reason_of hf (by decide) rfl, form_at (g := fLen 5 q) hf rfl, place_one (span_at hf rfl)] at hr
  obtain ⟨e, a, b⟩ := chk_yes (go := (.done q (s.put 2 (at2 q 1) (at2 q 3)))) hr
  exact ⟨a, b, (work_kept hf).trans e⟩
theorem yes_status (hf : q.getD 0 0 = 7) (hr : reason s q = 0) : fLen 1 q = true ∧ true = true ∧ work s q = (.done [7, (Sg46.packed ((List.range 8).map fun (k : Nat) => if k < s.size 0 then s.held 0 k else 0)).headD 0] s) := by
  rw [reason_of hf (by decide) rfl, form_at (g := fLen 1 q) hf rfl, place_nil (span_at hf rfl)] at hr
  obtain ⟨e, a, b⟩ := chk_yes (go := (.done [7, (Sg46.packed ((List.range 8).map fun (k : Nat) => if k < s.size 0 then s.held 0 k else 0)).headD 0] s)) hr
  exact ⟨a, b, (work_status hf).trans e⟩
theorem yes_went (hf : q.getD 0 0 = 11) (hr : reason s q = 0) : fLen 1 q = true ∧ true = true ∧ work s q = (.done (11 :: 0 :: 0 :: Sg46.two (s.counts.getD 5 0)) s) := by
  rw [reason_of hf (by decide) rfl, form_at (g := fLen 1 q) hf rfl, place_nil (span_at hf rfl)] at hr
  obtain ⟨e, a, b⟩ := chk_yes (go := (.done (11 :: 0 :: 0 :: Sg46.two (s.counts.getD 5 0)) s)) hr
  exact ⟨a, b, (work_went hf).trans e⟩
theorem yes_coils (hf : q.getD 0 0 = 15) (hr : reason s q = 0) : fCoils q = true ∧ (s.has 0 (at2 q 1) (at2 q 3)) = true ∧ work s q = (.done (15 :: Sg46.two (at2 q 1) ++ Sg46.two (at2 q 3)) (s.puts 0 (at2 q 1) (Sg46.unpacked (q.drop 6) (at2 q 3)))) := by
  rw [reason_of hf (by decide) rfl, form_at (g := fCoils q) hf rfl, place_one (span_at hf rfl)] at hr
  obtain ⟨e, a, b⟩ := chk_yes (go := (.done (15 :: Sg46.two (at2 q 1) ++ Sg46.two (at2 q 3)) (s.puts 0 (at2 q 1) (Sg46.unpacked (q.drop 6) (at2 q 3))))) hr
  exact ⟨a, b, (work_coils hf).trans e⟩
theorem yes_row (hf : q.getD 0 0 = 16) (hr : reason s q = 0) : fRow q = true ∧ (s.has 2 (at2 q 1) (at2 q 3)) = true ∧ work s q = (.done (16 :: Sg46.two (at2 q 1) ++ Sg46.two (at2 q 3)) (s.puts 2 (at2 q 1) (Sg46.unworded (q.drop 6) (at2 q 3)))) := by
  rw [reason_of hf (by decide) rfl, form_at (g := fRow q) hf rfl, place_one (span_at hf rfl)] at hr
  obtain ⟨e, a, b⟩ := chk_yes (go := (.done (16 :: Sg46.two (at2 q 1) ++ Sg46.two (at2 q 3)) (s.puts 2 (at2 q 1) (Sg46.unworded (q.drop 6) (at2 q 3))))) hr
  exact ⟨a, b, (work_row hf).trans e⟩
theorem yes_mask (hf : q.getD 0 0 = 22) (hr : reason s q = 0) : fLen 7 q = true ∧ (s.has 2 (at2 q 1) 1) = true ∧ work s q = (.done q (s.put 2 (at2 q 1) ((s.held 2 (at2 q 1) &&& at2 q 3) ||| (at2 q 5 &&& (65535 - at2 q 3))))) := by
  rw [reason_of hf (by decide) rfl, form_at (g := fLen 7 q) hf rfl, place_one (span_at hf rfl)] at hr
  obtain ⟨e, a, b⟩ := chk_yes (go := (.done q (s.put 2 (at2 q 1) ((s.held 2 (at2 q 1) &&& at2 q 3) ||| (at2 q 5 &&& (65535 - at2 q 3)))))) hr
  exact ⟨a, b, (work_mask hf).trans e⟩
theorem yes_both (hf : q.getD 0 0 = 23) (hr : reason s q = 0) : fBoth q = true ∧ (s.has 2 (at2 q 1) (at2 q 3) && s.has 2 (at2 q 5) (at2 q 7)) = true ∧ work s q = (.done (23 :: 2 * at2 q 3 :: Sg46.words ((s.puts 2 (at2 q 5) (Sg46.unworded (q.drop 10) (at2 q 7))).row 2 (at2 q 1) (at2 q 3))) (s.puts 2 (at2 q 5) (Sg46.unworded (q.drop 10) (at2 q 7)))) := by
  rw [reason_of hf (by decide) rfl, form_at (g := fBoth q) hf rfl, place_two (span_at hf rfl)] at hr
  obtain ⟨e, a, b⟩ := chk_yes (go := (.done (23 :: 2 * at2 q 3 :: Sg46.words ((s.puts 2 (at2 q 5) (Sg46.unworded (q.drop 10) (at2 q 7))).row 2 (at2 q 1) (at2 q 3))) (s.puts 2 (at2 q 5) (Sg46.unworded (q.drop 10) (at2 q 7))))) hr
  exact ⟨a, b, (work_both hf).trans e⟩
/-- of 8: the three checks -/
theorem yes_check (hf : q.getD 0 0 = 8) (hr : reason s q = 0) : q.length = 5 ∧ ((at2 q 1 = 0 ∧ work s q = .done q s) ∨ (at2 q 1 = 10 ∧ work s q = .done q { s with counts := List.replicate 6 0 }) ∨
    (11 ≤ at2 q 1 ∧ at2 q 1 ≤ 15 ∧ work s q = .done (8 :: Sg46.two (at2 q 1) ++ Sg46.two (s.counts.getD (at2 q 1 - 11) 0)) s)) := by
  have fo : formOf q = fCheck q := form_at hf rfl
  unfold reason at hr
  rw [fo] at hr
  have hk : known q = true := by
    cases z : known q with
    | true => rfl
    | false => rw [z] at hr; simp at hr
  have hc : fCheck q = true := by
    cases z : fCheck q with
    | true => rfl
    | false => rw [hk, z] at hr; simp at hr
  simp [fCheck] at hc
  obtain ⟨l5, hc⟩ := hc
  have k : known q = kCheck (at2 q 1) := by
    unfold known
    rw [if_pos ⟨hf, by omega⟩]
  rw [k] at hk
  simp [kCheck] at hk
  refine ⟨l5, ?_⟩
  rw [work_check hf, if_neg (by omega)]
  rcases hk with a | a | ⟨a, b⟩
  · exact .inl ⟨a, by rw [if_pos a, decide_eq_true l5]; rfl⟩
  · have c3 : at2 q 3 = 0 := by omega
    exact .inr (.inl ⟨a, by rw [if_neg (by omega), if_pos a, decide_eq_true l5, decide_eq_true c3]; rfl⟩)
  · have c3 : at2 q 3 = 0 := by omega
    exact .inr (.inr ⟨a, b, by rw [if_neg (by omega), if_neg (by omega), if_pos ⟨a, b⟩, decide_eq_true l5, decide_eq_true c3]; rfl⟩)
end
end Bd

set_option Elab.async false
set_option linter.all false
set_option maxRecDepth 100000
set_option maxHeartbeats 2000000
namespace Bd
open PySem PySem.Spec PyProof.Rows L2
def Byt (q : List Nat) : Prop := ∀ n ∈ q, n < 256
theorem byt_get {q : List Nat} (h : Byt q) (i : Nat) : q.getD i 0 < 256 := by
  rw [List.getD_eq_getElem?_getD]
  cases e : q[i]? with
  | none => decide
  | some n => exact h n (List.mem_of_getElem? e)
theorem at2_lt {q : List Nat} (h : Byt q) (i : Nat) : Sg46.at2 q i < 65536 := by
  have a := byt_get h i
  have b := byt_get h (i + 1)
  unfold Sg46.at2
  omega
/-- what holds of every device that is made here -/
structure DevOk (s : Sg46.Dev) : Prop where
  cl : s.counts.length = 6
  cw : Words s.counts
  b0 : ∀ i, s.held 0 i ≤ 1
  b1 : ∀ i, s.held 1 i ≤ 1
  w2 : ∀ i, s.held 2 i < 65536
  w3 : ∀ i, s.held 3 i < 65536
  sz : ∀ t, s.size t ≤ 65536
  un : s.unit < 256
theorem row_tab {s : Sg46.Dev} {t i n : Nat} (h : i + n ≤ s.size t) : ((tab s t).drop i).take n = s.row t i n := by
  apply List.ext_getElem
  · rw [List.length_take, List.length_drop, tab_len]
    unfold Sg46.Dev.row
    rw [List.length_map, List.length_range]
    omega
  · intro k h1 h2
    simp [tab, Sg46.Dev.row]
theorem row_len (s : Sg46.Dev) (t i n : Nat) : (s.row t i n).length = n := by
  unfold Sg46.Dev.row
  rw [List.length_map, List.length_range]
theorem row_all {s : Sg46.Dev} {t : Nat} {p : Nat → Prop} (h : ∀ i, p (s.held t i)) (i n : Nat) : ∀ x ∈ s.row t i n, p x := fun x m => by
  unfold Sg46.Dev.row at m
  obtain ⟨k, _, rfl⟩ := List.mem_map.mp m
  exact h _
theorem packed_len (l : List Nat) : (Sg46.packed l).length = (l.length + 7) / 8 := by
  unfold Sg46.packed
  rw [List.length_map, List.length_range]
theorem no_row (u t c : V) : (dF u t c).lookup ("row_at" : Str) = none := dF_no (by decide +kernel) (by decide +kernel) (by decide +kernel) u t c
theorem no_put (u t c : V) : (dF u t c).lookup ("put_row" : Str) = none := dF_no (by decide +kernel) (by decide +kernel) (by decide +kernel) u t c
theorem no_get (u t c : V) : (dF u t c).lookup ("get_value" : Str) = none := dF_no (by decide +kernel) (by decide +kernel) (by decide +kernel) u t c
theorem no_tally (u t c : V) : (dF u t c).lookup ("tally" : Str) = none := dF_no (by decide +kernel) (by decide +kernel) (by decide +kernel) u t c
/-- the device as an instance -/
theorem DevAt.ins {C : Addr} {H : Hp} {d : Addr} {s : Sg46.Dev} {F : List Addr} (D : DevAt C H d s F) : ∃ dx t c, H d = some (.ins C dx (dF (.int (s.unit : Nat)) (.ref t) (.ref c))) := by
  obtain ⟨dx, t, c, ts, _, _, _, h4, _⟩ := D.ex
  exact ⟨dx, t, c, h4⟩
section
variable {P : Program} {w : World} {K : PySem.W.Frag} {mg : Str → Option Value} {base : Heap} {A : Ad}
/-- a request carried out: its answer, a new list, and the device after it -/
def sp_carrier (A : Ad) (fs : List Nat) : Sp := fun vs H Q _ => ∃ (d r : Addr) (q : List Nat) (s : Sg46.Dev) (F : List Addr), vs = [.ref d, .ref r] ∧ DevAt A.C H d s F ∧ Own H F r (nv q) ∧ DevOk s ∧ Byt q ∧ 0 < q.length ∧ q.length ≤ 300 ∧
  fs.contains (q.getD 0 0) = true ∧ reason s q = 0 ∧ ∀ b e, Sg46.work s q = .done b e → ∀ H' F' p, Step H H' F F' → DevAt A.C H' d e F' → H p = none → p ∉ F' → H' p = some (.lst (nv b)) → Q (.ref p) H'
/-- the end of a request that changes nothing -/
theorem fin_same {A : Ad} {H : Hp} {d : Addr} {s : Sg46.Dev} {F : List Addr} {q : List Nat} {Q : VK} {b : List Nat} (D : DevAt A.C H d s F) (hw : Sg46.work s q = .done b s)
    (g : ∀ b e, Sg46.work s q = .done b e → ∀ H' F' p, Step H H' F F' → DevAt A.C H' d e F' → H p = none → p ∉ F' → H' p = some (.lst (nv b)) → Q (.ref p) H') : NewL H Q (nv b) :=
  fun H' p e np hp => g b s hw H' F p (.of_same e) (D.same e) np (D.fresh np) hp
/-- a new list + a list -/
theorem fin_cat {H H3 : Hp} {Q : VK} {xs : List V} {l m : List Nat} {p3 : Addr} (e : Same H H3) (hp : H3 p3 = some (.lst (nv l))) (hx : xs.length ≤ 1000) (hl : l.length ≤ 2000) (hm : xs ++ nv l = nv m) (g : NewL H Q (nv m)) (o : Addr) (no : H3 o = none) :
    ∃ l' b ys zs, V.ref o = .ref l' ∧ V.ref p3 = .ref b ∧ upd H3 o (.lst xs) l' = some (.lst ys) ∧ upd H3 o (.lst xs) b = some (.lst zs) ∧ ys.length + zs.length ≤ sizeLine ∧
      ∀ p, upd H3 o (.lst xs) p = none → Q (.ref p) (upd (upd H3 o (.lst xs)) p (.lst (ys ++ zs))) := by
  refine ⟨o, p3, _, _, rfl, rfl, upd_same, by rw [upd_ne (ne_of_none hp no)]; exact hp, sz (by rw [nv_len]; omega), fun p np => ?_⟩
  have e1 := e.trans (same_upd (o := .lst xs) no)
  rw [hm]
  exact g _ p (same_new e1 (e1.free np)) (e1.free np) upd_same
/-- [x] + counted(l) -/
theorem fin_counted {H H2 H4 : Hp} {Q : VK} {x : Nat} {l m : List Nat} {o p4 : Addr} (e : Same H H2) (e4 : Same H2 H4) (ho : H2 o = some (.lst [V.int (x : Int)])) (hp : H4 p4 = some (.lst (V.int ((nv l).length : Nat) :: nv l))) (hl : l.length ≤ 2000)
    (hm : x :: l.length :: l = m) (g : NewL H Q (nv m)) :
    ∃ l' b ys zs, V.ref o = .ref l' ∧ V.ref p4 = .ref b ∧ H4 l' = some (.lst ys) ∧ H4 b = some (.lst zs) ∧ ys.length + zs.length ≤ sizeLine ∧ ∀ p, H4 p = none → Q (.ref p) (upd H4 p (.lst (ys ++ zs))) := by
  refine ⟨o, p4, _, _, rfl, rfl, e4 _ _ ho, hp, sz (by show 1 + ((nv l).length + 1) ≤ _; rw [nv_len]; omega), fun p np => ?_⟩
  have e2 := e.trans e4
  have hx : [V.int (x : Int)] ++ (V.int ((nv l).length : Nat) :: nv l) = nv m := by
    rw [← hm, nv_len]
    rfl
  rw [hx]
  exact g _ p (same_new e2 (e2.free np)) (e2.free np) upd_same
theorem ok_read_bits {f : Addr} {fd : FuncData} (Fn : Fun K "read_bits" "read_bits" s_read_bits f fd) (T : Txt K mg A) (c_counted : C8.Cal P w K mg base 1 "counted" sp_counted []) (c_row_at : C8.Met P w K mg base 1 A.C "row_at" (sp_row_at A) []) (c_number_at : C8.Cal P w K mg base 1 "number_at" (sp_number_at K) []) (c_table_read_by : C8.Cal P w K mg base 1 "table_read_by" sp_table_read_by []) (c_bytes_of_bits : C8.Cal P w K mg base 2 "bytes_of_bits" (sp_bytes_of_bits K) []) : FnOk P w K mg base CX0 3 f fd ["device", "request"] (sp_carrier A [1, 2]) := by
  refine Fn.ok sc_read_bits (fun vs H Q E h => ?_) (fun cdv Ar outer sh H vs Q E hr h => ?_)
  · obtain ⟨_, _, _, _, _, rfl, _⟩ := h
    rfl
  · have sc := sc_read_bits
    refine ⟨_, (pss_cons (ps_set (i := 2) sc.nd rfl (Or.inl rfl) (C8.pe_mt c_row_at hr (by decide) (pv 0) (pa_cons (C8.pe_c c_table_read_by hr (by decide) (by rfl) (pa_cons (pe_ix ix_list (pv 1) pe_int (fun _ _ => rfl)) pa_nil)) (pa_cons (C8.pe_c c_number_at hr (by decide) (by rfl) (pa_cons (pv 1) (pa_cons pe_int pa_nil))) (pa_cons (C8.pe_c c_number_at hr (by decide) (by rfl) (pa_cons (pv 1) (pa_cons pe_int pa_nil))) pa_nil)))))
      (pss_one (ps_ret (pe_op op_cat (pe_lst (pa_cons (pe_ix ix_list (pv 1) pe_int (fun _ _ => rfl)) pa_nil)) (C8.pe_c c_counted hr (by decide) (by rfl) (pa_cons (C8.pe_c c_bytes_of_bits hr (by decide) (by rfl) (pa_cons (pv 2) pa_nil)) pa_nil)))))), ?_⟩
    obtain ⟨d, r, q, s, F, rfl, D, O, ok, hb, h0, hl, hf, hre, g⟩ := h
    obtain ⟨f, hf1⟩ : ∃ f, q.getD 0 0 = f := ⟨_, rfl⟩
    have hf2 : f = 1 ∨ f = 2 := by rw [hf1] at hf; simpa using hf
    obtain ⟨y1, y2, y3⟩ := yes_bits hf1 hf2 hre
    simp [fBits] at y1
    simp [Sg46.Dev.has] at y2
    have G := fin_same D y3 g
    obtain ⟨dx, t, c, h4⟩ := D.ins
    refine ⟨_, rfl, d, dx, _, rfl, h4, no_row _ _ _, _, rfl, r, _, _, _, rfl, rfl, O.sq, (nv_at (i := 0) h0), f, ?_, by omega, by omega, fun H1 e1 => ?_⟩
    · rw [hf1]
      rfl
    refine ⟨_, rfl, r, q, 1, rfl, e1.seq O.sq, by omega, _, rfl, r, q, 3, rfl, e1.seq O.sq, by omega, ?_⟩
    refine ⟨d, f - 1, Sg46.at2 q 1, Sg46.at2 q 3, s, F, rfl, D.same e1, by omega, fun H2 p2 e2 n2 hp2 => ?_⟩
    rw [row_tab y2] at hp2
    have e12 := e1.trans e2
    refine ⟨_, rfl, r, _, _, _, rfl, rfl, e12.seq O.sq, (nv_at (i := 0) h0), by show 1 ≤ sizeLine; decide, fun o no => ?_⟩
    have eo := same_upd (o := .lst [V.int ((q.getD 0 0 : Nat) : Int)]) no
    refine ⟨_, rfl, p2, _, rfl, SqL.of (eo _ _ hp2), ?_, by rw [row_len]; omega, fun H3 p3 e3 n3 hp3 => ?_⟩
    · rcases hf2 with rfl | rfl
      · exact row_all (p := fun x => x ≤ 1) ok.b0 _ _
      · exact row_all (p := fun x => x ≤ 1) ok.b1 _ _
    refine ⟨p3, _, rfl, hp3, by rw [nv_len, packed_len, row_len]; omega, fun H4 p4 e4 n4 hp4 => ?_⟩
    refine fin_counted (e12.trans eo) (e3.trans e4) upd_same hp4 (by rw [packed_len, row_len]; omega) ?_ G
    rw [packed_len, row_len, hf1]
/-! ### the registers read -/
theorem words_row {s : Sg46.Dev} (ok : DevOk s) {t : Nat} (h : t = 2 ∨ t = 3) (i n : Nat) : Words (s.row t i n) := by
  rcases h with rfl | rfl
  · exact row_all (p := fun x => x < 65536) ok.w2 _ _
  · exact row_all (p := fun x => x < 65536) ok.w3 _ _
def sp_answer_with_numbers (A : Ad) : Sp := fun vs H Q _ => ∃ (d r : Addr) (t : Nat) (q : List Nat) (s : Sg46.Dev) (F : List Addr), vs = [.ref d, .ref r, .int t] ∧ DevAt A.C H d s F ∧ Own H F r (nv q) ∧ Words (s.row t (Sg46.at2 q 1) (Sg46.at2 q 3)) ∧ t < 4 ∧ 5 ≤ q.length ∧ Sg46.at2 q 3 ≤ 125 ∧ Sg46.at2 q 1 + Sg46.at2 q 3 ≤ s.size t ∧
  NewL H Q (nv (q.getD 0 0 :: 2 * Sg46.at2 q 3 :: Sg46.words (s.row t (Sg46.at2 q 1) (Sg46.at2 q 3))))
theorem ok_answer_with_numbers {f : Addr} {fd : FuncData} (Fn : Fun K "answer_with_numbers" "answer_with_numbers" s_answer_with_numbers f fd) (T : Txt K mg A) (c_counted : C8.Cal P w K mg base 1 "counted" sp_counted []) (c_row_at : C8.Met P w K mg base 1 A.C "row_at" (sp_row_at A) []) (c_number_at : C8.Cal P w K mg base 1 "number_at" (sp_number_at K) []) (c_bytes_of_numbers : C8.Cal P w K mg base 1 "bytes_of_numbers" (sp_bytes_of_numbers K) []) : FnOk P w K mg base CX0 2 f fd ["device", "request", "table"] (sp_answer_with_numbers A) := by
  refine Fn.ok sc_answer_with_numbers (fun vs H Q E h => ?_) (fun cdv Ar outer sh H vs Q E hr h => ?_)
  · obtain ⟨_, _, _, _, _, _, rfl, _⟩ := h
    rfl
  · have sc := sc_answer_with_numbers
    refine ⟨_, (pss_cons (ps_set (i := 3) sc.nd rfl (Or.inl rfl) (C8.pe_mt c_row_at hr (by decide) (pv 0) (pa_cons (pv 2) (pa_cons (C8.pe_c c_number_at hr (by decide) (by rfl) (pa_cons (pv 1) (pa_cons pe_int pa_nil))) (pa_cons (C8.pe_c c_number_at hr (by decide) (by rfl) (pa_cons (pv 1) (pa_cons pe_int pa_nil))) pa_nil)))))
      (pss_one (ps_ret (pe_op op_cat (pe_lst (pa_cons (pe_ix ix_list (pv 1) pe_int (fun _ _ => rfl)) pa_nil)) (C8.pe_c c_counted hr (by decide) (by rfl) (pa_cons (C8.pe_c c_bytes_of_numbers hr (by decide) (by rfl) (pa_cons (pv 3) pa_nil)) pa_nil)))))), ?_⟩
    obtain ⟨d, r, t, q, s, F, rfl, D, O, hw, h4, h5, hc, hp, g⟩ := h
    obtain ⟨dx, ta, c, hi⟩ := D.ins
    refine ⟨_, rfl, d, dx, _, rfl, hi, no_row _ _ _, _, rfl, _, rfl, r, q, 1, rfl, O.sq, by omega, _, rfl, r, q, 3, rfl, O.sq, by omega, ?_⟩
    refine ⟨d, t, Sg46.at2 q 1, Sg46.at2 q 3, s, F, rfl, D, h4, fun H2 p2 e2 n2 hp2 => ?_⟩
    rw [row_tab hp] at hp2
    refine ⟨_, rfl, r, _, _, _, rfl, rfl, e2.seq O.sq, (nv_at (i := 0) (by omega)), by show 1 ≤ sizeLine; decide, fun o no => ?_⟩
    have eo := same_upd (o := .lst [V.int ((q.getD 0 0 : Nat) : Int)]) no
    refine ⟨_, rfl, p2, _, rfl, SqL.of (eo _ _ hp2), hw, by rw [row_len]; omega, fun H3 p3 e3 n3 hp3 => ?_⟩
    refine ⟨p3, _, rfl, hp3, by rw [nv_len, words_len, row_len]; omega, fun H4 p4 e4 n4 hp4 => ?_⟩
    refine fin_counted (e2.trans eo) (e3.trans e4) upd_same hp4 (by rw [words_len, row_len]; omega) ?_ g
    rw [words_len, row_len]
theorem ok_read_numbers {f : Addr} {fd : FuncData} (Fn : Fun K "read_numbers" "read_numbers" s_read_numbers f fd) (T : Txt K mg A) (c_answer_with_numbers : C8.Cal P w K mg base 2 "answer_with_numbers" (sp_answer_with_numbers A) []) (c_table_read_by : C8.Cal P w K mg base 1 "table_read_by" sp_table_read_by []) : FnOk P w K mg base CX0 3 f fd ["device", "request"] (sp_carrier A [3, 4]) := by
  refine Fn.ok sc_read_numbers (fun vs H Q E h => ?_) (fun cdv Ar outer sh H vs Q E hr h => ?_)
  · obtain ⟨_, _, _, _, _, rfl, _⟩ := h
    rfl
  · have sc := sc_read_numbers
    refine ⟨_, (pss_one (ps_ret (C8.pe_c c_answer_with_numbers hr (by decide) (by rfl) (pa_cons (pv 0) (pa_cons (pv 1) (pa_cons (C8.pe_c c_table_read_by hr (by decide) (by rfl) (pa_cons (pe_ix ix_list (pv 1) pe_int (fun _ _ => rfl)) pa_nil)) pa_nil)))))), ?_⟩
    obtain ⟨d, r, q, s, F, rfl, D, O, ok, hb, h0, hl, hf, hre, g⟩ := h
    obtain ⟨f, hf1⟩ : ∃ f, q.getD 0 0 = f := ⟨_, rfl⟩
    have hf2 : f = 3 ∨ f = 4 := by rw [hf1] at hf; simpa using hf
    obtain ⟨y1, y2, y3⟩ := yes_nums hf1 hf2 hre
    simp [fNums] at y1
    simp [Sg46.Dev.has] at y2
    refine ⟨_, rfl, _, rfl, _, rfl, r, _, _, _, rfl, rfl, O.sq, (nv_at (i := 0) h0), f, ?_, by omega, by omega, fun H1 e1 => ?_⟩
    · rw [hf1]
      rfl
    refine ⟨d, r, f - 1, q, s, F, rfl, D.same e1, O.same e1, words_row ok (by omega) _ _, by omega, by omega, by omega, y2, ?_⟩
    rw [hf1]
    exact fun H' p e np hp => fin_same D y3 g H' p (e1.trans e) (e1.free np) hp
/-! ### one written -/
theorem puts_one (s : Sg46.Dev) (t i x : Nat) : s.puts t i [x] = s.put t i x := rfl
/-- list(request) at the end -/
theorem fin_copy {A : Ad} {H H1 : Hp} {d : Addr} {s e : Sg46.Dev} {F F1 : List Addr} {q b : List Nat} {Q : VK} (D1 : DevAt A.C H1 d e F1) (st : Step H H1 F F1) (hw : Sg46.work s q = .done b e)
    (g : ∀ b e, Sg46.work s q = .done b e → ∀ H' F' p, Step H H' F F' → DevAt A.C H' d e F' → H p = none → p ∉ F' → H' p = some (.lst (nv b)) → Q (.ref p) H') (l : Addr) (nl : H1 l = none) : Q (.ref l) (upd H1 l (.lst (nv b))) := by
  have e1 := same_upd (o := .lst (nv b)) nl
  exact g b e hw _ F1 l (st.trans (.of_same e1)) (D1.same e1) (st.free nl) (D1.fresh nl) upd_same
/-- one value of a table written -/
theorem ok_write_coil {f : Addr} {fd : FuncData} (Fn : Fun K "write_coil" "write_coil" s_write_coil f fd) (T : Txt K mg A) (c_number_at : C8.Cal P w K mg base 1 "number_at" (sp_number_at K) []) (c_put_row : C8.Met P w K mg base 1 A.C "put_row" (sp_put_row A) []) : FnOk P w K mg base CX0 2 f fd ["device", "request"] (sp_carrier A [5]) := by
  refine Fn.ok sc_write_coil (fun vs H Q E h => ?_) (fun cdv Ar outer sh H vs Q E hr h => ?_)
  · obtain ⟨_, _, _, _, _, rfl, _⟩ := h
    rfl
  · have sc := sc_write_coil
    refine ⟨_, (pss_cons (ps_set (i := 2) sc.nd rfl (Or.inl rfl) (pe_ifExp (pt_cmpR op_eq (C8.pe_c c_number_at hr (by decide) (by rfl) (pa_cons (pv 1) (pa_cons pe_int pa_nil))) (pe_gi (by rfl) T.g_COIL_ON) (nomark _)) pe_int pe_int))
      (pss_cons (ps_expr (C8.pe_mt c_put_row hr (by decide) (pv 0) (pa_cons (pe_gi (by rfl) T.g_COILS) (pa_cons (C8.pe_c c_number_at hr (by decide) (by rfl) (pa_cons (pv 1) (pa_cons pe_int pa_nil))) (pa_cons (pe_lst (pa_cons (pv 2) pa_nil)) pa_nil)))))
      (pss_one (ps_ret (pe_callTy call_list_of (by rfl) T.b_list (by decide +kernel) (pa_cons (pv 1) pa_nil)))))), ?_⟩
    obtain ⟨d, r, q, s, F, rfl, D, O, ok, hb, h0, hl, hf, hre, g⟩ := h
    have hf1 : q.getD 0 0 = 5 := by simpa using hf
    obtain ⟨y1, y2, y3⟩ := yes_coil hf1 hre
    simp [fCoil] at y1
    simp [Sg46.Dev.has] at y2
    obtain ⟨dx, ta, c, hi⟩ := D.ins
    refine ⟨_, rfl, r, q, 3, rfl, O.sq, by omega, rfl, _, rfl, ?_⟩
    have rest : ∀ x : Nat, x = (if Sg46.at2 q 3 = 0 then 0 else 1) → ∀ D0 : Ends, D0.rt = Q → tSeq (tDrop (tMeth A.C "put_row" (sp_put_row A) [] C8.E0 (tVar 0) (tCons (tC (.int 0)) (tCons (tCall (sp_number_at K) [] C8.E0 (tCons (tVar 1) (tCons (tC (.int 1)) tNil))) (tCons (tLst (tCons (tVar 2) tNil)) tNil)))))
        (tRet (tCB (Evl.rListS K) (tCons (tVar 1) tNil))) D0 [some (.ref d), some (.ref r), some (.int (x : Nat))] H := fun x hx D0 hD => by
      refine ⟨_, rfl, d, dx, _, rfl, hi, no_put _ _ _, _, rfl, r, q, 1, rfl, O.sq, by omega, _, rfl, by show 1 ≤ sizeLine; decide, fun o no => ?_⟩
      have e1 := same_upd (o := .lst (nv [x])) no
      refine ⟨d, 0, Sg46.at2 q 1, o, [x], s, F, rfl, D.same e1, (D.new no upd_same), by decide, y2, fun H2 st D2 => ?_⟩
      rw [puts_one, hx] at D2
      have st2 := (Step.of_same e1).trans st
      refine ⟨_, rfl, r, _, rfl, .inl (O.step st2).sq, fun l nl => ?_⟩
      rw [hD]
      exact fin_copy D2 st2 y3 g l nl
    refine ifb (fun b1 => ?_) (fun b1 => ?_)
    · simp at b1
      exact rest 1 (by rw [if_neg (by omega)]) _ rfl
    · simp at b1
      exact rest 0 (by rw [if_pos (by omega)]) _ rfl
theorem ok_write_kept {f : Addr} {fd : FuncData} (Fn : Fun K "write_kept" "write_kept" s_write_kept f fd) (T : Txt K mg A) (c_number_at : C8.Cal P w K mg base 1 "number_at" (sp_number_at K) []) (c_put_row : C8.Met P w K mg base 1 A.C "put_row" (sp_put_row A) []) : FnOk P w K mg base CX0 2 f fd ["device", "request"] (sp_carrier A [6]) := by
  refine Fn.ok sc_write_kept (fun vs H Q E h => ?_) (fun cdv Ar outer sh H vs Q E hr h => ?_)
  · obtain ⟨_, _, _, _, _, rfl, _⟩ := h
    rfl
  · have sc := sc_write_kept
    refine ⟨_, (pss_cons (ps_expr (C8.pe_mt c_put_row hr (by decide) (pv 0) (pa_cons (pe_gi (by rfl) T.g_KEPT) (pa_cons (C8.pe_c c_number_at hr (by decide) (by rfl) (pa_cons (pv 1) (pa_cons pe_int pa_nil))) (pa_cons (pe_lst (pa_cons (C8.pe_c c_number_at hr (by decide) (by rfl) (pa_cons (pv 1) (pa_cons pe_int pa_nil))) pa_nil)) pa_nil)))))
      (pss_one (ps_ret (pe_callTy call_list_of (by rfl) T.b_list (by decide +kernel) (pa_cons (pv 1) pa_nil))))), ?_⟩
    obtain ⟨d, r, q, s, F, rfl, D, O, ok, hb, h0, hl, hf, hre, g⟩ := h
    have hf1 : q.getD 0 0 = 6 := by simpa using hf
    obtain ⟨y1, y2, y3⟩ := yes_kept hf1 hre
    simp [fLen] at y1
    simp [Sg46.Dev.has] at y2
    obtain ⟨dx, ta, c, hi⟩ := D.ins
    refine ⟨_, rfl, d, dx, _, rfl, hi, no_put _ _ _, _, rfl, r, q, 1, rfl, O.sq, by omega, _, rfl, r, q, 3, rfl, O.sq, by omega, by show 1 ≤ sizeLine; decide, fun o no => ?_⟩
    have e1 := same_upd (o := .lst (nv [Sg46.at2 q 3])) no
    refine ⟨d, 2, Sg46.at2 q 1, o, [Sg46.at2 q 3], s, F, rfl, D.same e1, (D.new no upd_same), by decide, y2, fun H2 st D2 => ?_⟩
    rw [puts_one] at D2
    have st2 := (Step.of_same e1).trans st
    exact ⟨_, rfl, r, _, rfl, .inl (O.step st2).sq, fun l nl => fin_copy D2 st2 y3 g l nl⟩
/-! ### bits of one masked -/
theorem and_parts : ∀ (n f s : Nat), f < 2 ^ n → s < 2 ^ n → (f &&& s) + (f &&& (2 ^ n - 1 - s)) = f
  | 0, f, s, hf, hs => by
    have : f = 0 := by simpa using hf
    subst this
    simp
  | n + 1, f, s, hf, hs => by
    rw [Nat.pow_succ] at *
    have ih := and_parts n (f / 2) (s / 2) (by omega) (by omega)
    have e1 : (2 ^ n * 2 - 1 - s) / 2 = 2 ^ n - 1 - s / 2 := by omega
    rw [← e1, ← Nat.and_div_two, ← Nat.and_div_two] at ih
    have m1 : (f &&& s) % 2 = (f % 2) &&& (s % 2) := by have := @Nat.and_mod_two_pow f s 1; simpa using this
    have m2 : (f &&& (2 ^ n * 2 - 1 - s)) % 2 = (f % 2) &&& ((2 ^ n * 2 - 1 - s) % 2) := by have := @Nat.and_mod_two_pow f (2 ^ n * 2 - 1 - s) 1; simpa using this
    have m3 : (2 ^ n * 2 - 1 - s) % 2 = 1 - s % 2 := by omega
    rw [m3] at m2
    have f2 : f % 2 = 0 ∨ f % 2 = 1 := by omega
    have s2 : s % 2 = 0 ∨ s % 2 = 1 := by omega
    have key : (f &&& s) % 2 + (f &&& (2 ^ n * 2 - 1 - s)) % 2 = f % 2 := by
      rw [m1, m2]
      rcases f2 with a | a <;> rcases s2 with b | b <;> rw [a, b] <;> rfl
    omega
theorem and_rest {f s : Nat} (hf : f < 65536) (hs : s < 65536) : f - (f &&& s) = f &&& (65535 - s) := by
  have := and_parts 16 f s hf hs
  have e : (2 ^ 16 - 1 - s) = 65535 - s := by omega
  rw [e] at this
  omega
theorem mask_nat {o a b : Nat} (ho : o < 65536) (ha : a < 65536) (hb : b < 65536) :
    Builtin.bitOr (Builtin.bitAnd (o : Int) (a : Int)) (Builtin.bitAnd (b : Int) (Builtin.bitNot (a : Int))) = (((o &&& a) ||| (b &&& (65535 - a)) : Nat) : Int) := by
  have e1 : Builtin.bitAnd (o : Int) (a : Int) = ((o &&& a : Nat) : Int) := by
    rw [bitAnd_pp (by omega) (by omega), Int.toNat_natCast, Int.toNat_natCast]
  have e2 : Builtin.bitAnd (b : Int) (Builtin.bitNot (a : Int)) = ((b &&& (65535 - a) : Nat) : Int) := by
    have le : b &&& a ≤ b := Nat.and_le_left
    rw [← and_rest hb ha]
    unfold Builtin.bitAnd Builtin.bitNot
    rw [decide_eq_true (by omega), decide_eq_false (by omega)]
    show (b : Int) - (((b : Int).toNat &&& (-(-(a : Int) - 1) - 1).toNat : Nat) : Int) = _
    rw [show (-(-(a : Int) - 1) - 1) = (a : Int) by omega, Int.toNat_natCast, Int.toNat_natCast]
    omega
  rw [e1, e2, _root_.Bits.bitOr_pp (by omega) (by omega), Int.toNat_natCast, Int.toNat_natCast]
theorem ok_mask_kept {f : Addr} {fd : FuncData} (Fn : Fun K "mask_kept" "mask_kept" s_mask_kept f fd) (T : Txt K mg A) (c_number_at : C8.Cal P w K mg base 1 "number_at" (sp_number_at K) []) (c_get_value : C8.Met P w K mg base 2 A.C "get_value" (sp_get_value A) []) (c_put_row : C8.Met P w K mg base 1 A.C "put_row" (sp_put_row A) []) : FnOk P w K mg base CX0 3 f fd ["device", "request"] (sp_carrier A [22]) := by
  refine Fn.ok sc_mask_kept (fun vs H Q E h => ?_) (fun cdv Ar outer sh H vs Q E hr h => ?_)
  · obtain ⟨_, _, _, _, _, rfl, _⟩ := h
    rfl
  · have sc := sc_mask_kept
    refine ⟨_, (pss_cons (ps_set (i := 2) sc.nd rfl (Or.inl rfl) (C8.pe_c c_number_at hr (by decide) (by rfl) (pa_cons (pv 1) (pa_cons pe_int pa_nil))))
      (pss_cons (ps_set (i := 3) sc.nd rfl (Or.inl rfl) (C8.pe_c c_number_at hr (by decide) (by rfl) (pa_cons (pv 1) (pa_cons pe_int pa_nil))))
      (pss_cons (ps_set (i := 4) sc.nd rfl (Or.inl rfl) (C8.pe_c c_number_at hr (by decide) (by rfl) (pa_cons (pv 1) (pa_cons pe_int pa_nil))))
      (pss_cons (ps_set (i := 5) sc.nd rfl (Or.inl rfl) (C8.pe_mt c_get_value hr (by decide) (pv 0) (pa_cons (pe_gi (by rfl) T.g_KEPT) (pa_cons (pv 2) pa_nil))))
      (pss_cons (ps_expr (C8.pe_mt c_put_row hr (by decide) (pv 0) (pa_cons (pe_gi (by rfl) T.g_KEPT) (pa_cons (pv 2) (pa_cons (pe_lst (pa_cons (pe_op op_or (pe_op op_and (pv 5) (pv 3)) (pe_op op_and (pv 4) (pe_un un_inv (pv 3)))) pa_nil)) pa_nil)))))
      (pss_one (ps_ret (pe_callTy call_list_of (by rfl) T.b_list (by decide +kernel) (pa_cons (pv 1) pa_nil))))))))), ?_⟩
    obtain ⟨d, r, q, s, F, rfl, D, O, ok, hb, h0, hl, hf, hre, g⟩ := h
    have hf1 : q.getD 0 0 = 22 := by simpa using hf
    obtain ⟨y1, y2, y3⟩ := yes_mask hf1 hre
    simp [fLen] at y1
    simp [Sg46.Dev.has] at y2
    obtain ⟨dx, ta, c, hi⟩ := D.ins
    refine ⟨_, rfl, r, q, 1, rfl, O.sq, by omega, ?_⟩
    refine ⟨_, rfl, r, q, 3, rfl, O.sq, by omega, ?_⟩
    refine ⟨_, rfl, r, q, 5, rfl, O.sq, by omega, ?_⟩
    refine ⟨_, rfl, d, dx, _, rfl, hi, no_get _ _ _, _, rfl, d, 2, Sg46.at2 q 1, s, F, rfl, D, ?_⟩
    have hh : hasI s (2 : Int) (Sg46.at2 q 1 : Nat) 1 = true := by
      have := has_nat s (t := 2) (Sg46.at2 q 1) 1 (by decide)
      exact this.trans (decide_eq_true y2)
    rw [if_pos hh]
    refine ⟨_, rfl, d, dx, _, rfl, hi, no_put _ _ _, _, rfl, _, rfl, _, rfl, _, _, rfl, rfl, _, rfl, _, rfl, _, rfl, _, _, rfl, rfl, _, _, rfl, rfl, by show 1 ≤ sizeLine; decide, fun o no => ?_⟩
    have em := mask_nat (ok.w2 (Sg46.at2 q 1)) (at2_lt hb 3) (at2_lt hb 5)
    have e1 := same_upd (o := .lst [V.int (Builtin.bitOr (Builtin.bitAnd ((s.held 2 (Sg46.at2 q 1) : Nat) : Int) (Sg46.at2 q 3 : Nat)) (Builtin.bitAnd (Sg46.at2 q 5 : Nat) (Builtin.bitNot (Sg46.at2 q 3 : Nat))))]) no
    refine ⟨d, 2, Sg46.at2 q 1, o, [(s.held 2 (Sg46.at2 q 1) &&& Sg46.at2 q 3) ||| (Sg46.at2 q 5 &&& (65535 - Sg46.at2 q 3))], s, F, rfl, D.same e1, ⟨.inl ?_, D.fresh no⟩, by decide, y2, fun H2 st D2 => ?_⟩
    · rw [nv_cons, nv_nil, ← em]
      exact upd_same
    · rw [puts_one] at D2
      have st2 := (Step.of_same e1).trans st
      exact ⟨_, rfl, r, _, rfl, .inl (O.step st2).sq, fun l nl => fin_copy D2 st2 y3 g l nl⟩
/-! ### rows written -/
theorem two_at {q : List Nat} (hb : Byt q) (i : Nat) : Sg46.two (Sg46.at2 q i) = [q.getD i 0, q.getD (i + 1) 0] := by
  have a := byt_get hb i
  have b := byt_get hb (i + 1)
  unfold Sg46.two Sg46.at2
  rw [show (256 * q.getD i 0 + q.getD (i + 1) 0) / 256 % 256 = q.getD i 0 by omega, show (256 * q.getD i 0 + q.getD (i + 1) 0) % 256 = q.getD (i + 1) 0 by omega]
theorem take5 {q : List Nat} (hb : Byt q) (h : 5 ≤ q.length) : q.getD 0 0 :: Sg46.two (Sg46.at2 q 1) ++ Sg46.two (Sg46.at2 q 3) = q.take 5 := by
  rw [two_at hb, two_at hb]
  match q, h with
  | a :: b :: c :: d :: e :: r, _ => rfl
theorem ok_write_coils {f : Addr} {fd : FuncData} (Fn : Fun K "write_coils" "write_coils" s_write_coils f fd) (T : Txt K mg A) (c_number_at : C8.Cal P w K mg base 1 "number_at" (sp_number_at K) []) (c_bits_of_bytes : C8.Cal P w K mg base 1 "bits_of_bytes" (sp_bits_of_bytes K) []) (c_put_row : C8.Met P w K mg base 1 A.C "put_row" (sp_put_row A) []) : FnOk P w K mg base CX0 2 f fd ["device", "request"] (sp_carrier A [15]) := by
  refine Fn.ok sc_write_coils (fun vs H Q E h => ?_) (fun cdv Ar outer sh H vs Q E hr h => ?_)
  · obtain ⟨_, _, _, _, _, rfl, _⟩ := h
    rfl
  · have sc := sc_write_coils
    refine ⟨_, (pss_cons (ps_set (i := 2) sc.nd rfl (Or.inl rfl) (C8.pe_c c_bits_of_bytes hr (by decide) (by rfl) (pa_cons (pe_slice sl_list (pv 1) (po_some pe_int) po_none) (pa_cons (C8.pe_c c_number_at hr (by decide) (by rfl) (pa_cons (pv 1) (pa_cons pe_int pa_nil))) pa_nil))))
      (pss_cons (ps_expr (C8.pe_mt c_put_row hr (by decide) (pv 0) (pa_cons (pe_gi (by rfl) T.g_COILS) (pa_cons (C8.pe_c c_number_at hr (by decide) (by rfl) (pa_cons (pv 1) (pa_cons pe_int pa_nil))) (pa_cons (pv 2) pa_nil)))))
      (pss_one (ps_ret (pe_slice sl_list (pv 1) po_none (po_some pe_int)))))), ?_⟩
    obtain ⟨d, r, q, s, F, rfl, D, O, ok, hb, h0, hl, hf, hre, g⟩ := h
    have hf1 : q.getD 0 0 = 15 := by simpa using hf
    obtain ⟨y1, y2, y3⟩ := yes_coils hf1 hre
    simp [fCoils] at y1
    simp [Sg46.Dev.has] at y2
    rw [← hf1, take5 hb (by omega)] at y3
    obtain ⟨dx, ta, c, hi⟩ := D.ins
    refine ⟨_, rfl, _, rfl, r, _, rfl, O.sq, fun p1 n1 => ?_⟩
    have e1 := same_upd (o := .lst (cutV (nv q) (some 6) none)) n1
    have hc : cutV (nv q) (some 6) none = nv (q.drop 6) := cut_f (i := 6) q (by omega)
    refine ⟨_, rfl, r, q, 3, rfl, e1.seq O.sq, by omega, p1, q.drop 6, Sg46.at2 q 3, rfl, ?_, ?_, by omega, fun H2 p2 e2 n2 hp2 => ?_⟩
    · rw [← hc]
      exact SqL.of upd_same
    · rw [List.length_drop]
      omega
    have e12 := e1.trans e2
    refine ⟨_, rfl, d, dx, _, rfl, e12 _ _ hi, no_put _ _ _, _, rfl, r, q, 1, rfl, e12.seq O.sq, by omega, _, rfl, ?_⟩
    refine ⟨d, 0, Sg46.at2 q 1, p2, _, s, F, rfl, D.same e12, ⟨.inl hp2, (D.same e1).fresh n2⟩, by decide, by rw [unpacked_len]; exact y2, fun H3 st D3 => ?_⟩
    have st3 := (Step.of_same e12).trans st
    refine ⟨_, rfl, _, rfl, r, _, rfl, (O.step st3).sq, fun l nl => ?_⟩
    rw [show cutV (nv q) none (some 5) = nv (q.take 5) from cut_t (j := 5) q]
    exact fin_copy D3 st3 y3 g l nl
theorem ok_write_kept_row {f : Addr} {fd : FuncData} (Fn : Fun K "write_kept_row" "write_kept_row" s_write_kept_row f fd) (T : Txt K mg A) (c_number_at : C8.Cal P w K mg base 1 "number_at" (sp_number_at K) []) (c_numbers_of_bytes : C8.Cal P w K mg base 2 "numbers_of_bytes" (sp_numbers_of_bytes K) []) (c_put_row : C8.Met P w K mg base 1 A.C "put_row" (sp_put_row A) []) : FnOk P w K mg base CX0 3 f fd ["device", "request"] (sp_carrier A [16]) := by
  refine Fn.ok sc_write_kept_row (fun vs H Q E h => ?_) (fun cdv Ar outer sh H vs Q E hr h => ?_)
  · obtain ⟨_, _, _, _, _, rfl, _⟩ := h
    rfl
  · have sc := sc_write_kept_row
    refine ⟨_, (pss_cons (ps_expr (C8.pe_mt c_put_row hr (by decide) (pv 0) (pa_cons (pe_gi (by rfl) T.g_KEPT) (pa_cons (C8.pe_c c_number_at hr (by decide) (by rfl) (pa_cons (pv 1) (pa_cons pe_int pa_nil))) (pa_cons (C8.pe_c c_numbers_of_bytes hr (by decide) (by rfl) (pa_cons (pe_slice sl_list (pv 1) (po_some pe_int) po_none) pa_nil)) pa_nil)))))
      (pss_one (ps_ret (pe_slice sl_list (pv 1) po_none (po_some pe_int))))), ?_⟩
    obtain ⟨d, r, q, s, F, rfl, D, O, ok, hb, h0, hl, hf, hre, g⟩ := h
    have hf1 : q.getD 0 0 = 16 := by simpa using hf
    obtain ⟨y1, y2, y3⟩ := yes_row hf1 hre
    simp [fRow] at y1
    simp [Sg46.Dev.has] at y2
    rw [← hf1, take5 hb (by omega)] at y3
    obtain ⟨dx, ta, c, hi⟩ := D.ins
    refine ⟨_, rfl, d, dx, _, rfl, hi, no_put _ _ _, _, rfl, r, q, 1, rfl, O.sq, by omega, _, rfl, _, rfl, r, _, rfl, O.sq, fun p1 n1 => ?_⟩
    have e1 := same_upd (o := .lst (cutV (nv q) (some 6) none)) n1
    have hc : cutV (nv q) (some 6) none = nv (q.drop 6) := cut_f (i := 6) q (by omega)
    refine ⟨p1, q.drop 6, Sg46.at2 q 3, rfl, ?_, ?_, by omega, fun H2 p2 e2 n2 hp2 => ?_⟩
    · rw [← hc]
      exact SqL.of upd_same
    · rw [List.length_drop]
      omega
    have e12 := e1.trans e2
    refine ⟨d, 2, Sg46.at2 q 1, p2, _, s, F, rfl, D.same e12, ⟨.inl hp2, (D.same e1).fresh n2⟩, by decide, by rw [unworded_len]; exact y2, fun H3 st D3 => ?_⟩
    have st3 := (Step.of_same e12).trans st
    refine ⟨_, rfl, _, rfl, r, _, rfl, (O.step st3).sq, fun l nl => ?_⟩
    rw [show cutV (nv q) none (some 5) = nv (q.take 5) from cut_t (j := 5) q]
    exact fin_copy D3 st3 y3 g l nl
theorem held_other (t : Nat) {u : Nat} (h : u ≠ t) : ∀ (l : List Nat) (s : Sg46.Dev) (i j : Nat), (s.puts t i l).held u j = s.held u j
  | [], _, _, _ => rfl
  | x :: r, s, i, j => (held_other t h r (s.put t i x) (i + 1) j).trans (if_neg (fun z => h z.1))
theorem held_puts (t : Nat) {p : Nat → Prop} : ∀ (l : List Nat) (s : Sg46.Dev) (i : Nat), (∀ j, p (s.held t j)) → (∀ x ∈ l, p x) → ∀ j, p ((s.puts t i l).held t j)
  | [], _, _, h, _, j => h j
  | x :: r, s, i, h, hl, j => by
    refine held_puts t r (s.put t i x) (i + 1) (fun k => ?_) (fun y m => hl y (List.mem_cons_of_mem _ m)) j
    show p (if t = t ∧ k = i then x else s.held t k)
    split
    · exact hl x (List.mem_cons_self ..)
    · exact h k
theorem words_un {q : List Nat} (hb : Byt q) (n : Nat) : Words (Sg46.unworded q n) := fun x m => by
  unfold Sg46.unworded at m
  obtain ⟨k, _, rfl⟩ := List.mem_map.mp m
  exact at2_lt hb _
theorem bits_un (q : List Nat) (n : Nat) : Bits (Sg46.unpacked q n) := fun x m => by
  unfold Sg46.unpacked at m
  obtain ⟨k, _, rfl⟩ := List.mem_map.mp m
  omega
theorem byt_drop {q : List Nat} (hb : Byt q) (n : Nat) : Byt (q.drop n) := fun x m => hb x (List.mem_of_mem_drop m)
theorem ok_write_and_read {f : Addr} {fd : FuncData} (Fn : Fun K "write_and_read" "write_and_read" s_write_and_read f fd) (T : Txt K mg A) (c_number_at : C8.Cal P w K mg base 1 "number_at" (sp_number_at K) []) (c_numbers_of_bytes : C8.Cal P w K mg base 2 "numbers_of_bytes" (sp_numbers_of_bytes K) []) (c_put_row : C8.Met P w K mg base 1 A.C "put_row" (sp_put_row A) []) (c_answer_with_numbers : C8.Cal P w K mg base 2 "answer_with_numbers" (sp_answer_with_numbers A) []) : FnOk P w K mg base CX0 3 f fd ["device", "request"] (sp_carrier A [23]) := by
  refine Fn.ok sc_write_and_read (fun vs H Q E h => ?_) (fun cdv Ar outer sh H vs Q E hr h => ?_)
  · obtain ⟨_, _, _, _, _, rfl, _⟩ := h
    rfl
  · have sc := sc_write_and_read
    refine ⟨_, (pss_cons (ps_expr (C8.pe_mt c_put_row hr (by decide) (pv 0) (pa_cons (pe_gi (by rfl) T.g_KEPT) (pa_cons (C8.pe_c c_number_at hr (by decide) (by rfl) (pa_cons (pv 1) (pa_cons pe_int pa_nil))) (pa_cons (C8.pe_c c_numbers_of_bytes hr (by decide) (by rfl) (pa_cons (pe_slice sl_list (pv 1) (po_some pe_int) po_none) pa_nil)) pa_nil)))))
      (pss_one (ps_ret (C8.pe_c c_answer_with_numbers hr (by decide) (by rfl) (pa_cons (pv 0) (pa_cons (pv 1) (pa_cons (pe_gi (by rfl) T.g_KEPT) pa_nil))))))), ?_⟩
    obtain ⟨d, r, q, s, F, rfl, D, O, ok, hb, h0, hl, hf, hre, g⟩ := h
    have hf1 : q.getD 0 0 = 23 := by simpa using hf
    obtain ⟨y1, y2, y3⟩ := yes_both hf1 hre
    simp [fBoth] at y1
    simp [Sg46.Dev.has] at y2
    obtain ⟨dx, ta, c, hi⟩ := D.ins
    refine ⟨_, rfl, d, dx, _, rfl, hi, no_put _ _ _, _, rfl, r, q, 5, rfl, O.sq, by omega, _, rfl, _, rfl, r, _, rfl, O.sq, fun p1 n1 => ?_⟩
    have e1 := same_upd (o := .lst (cutV (nv q) (some 10) none)) n1
    have hc : cutV (nv q) (some 10) none = nv (q.drop 10) := cut_f (i := 10) q (by omega)
    refine ⟨p1, q.drop 10, Sg46.at2 q 7, rfl, ?_, ?_, by omega, fun H2 p2 e2 n2 hp2 => ?_⟩
    · rw [← hc]
      exact SqL.of upd_same
    · rw [List.length_drop]
      omega
    have e12 := e1.trans e2
    refine ⟨d, 2, Sg46.at2 q 5, p2, _, s, F, rfl, D.same e12, ⟨.inl hp2, (D.same e1).fresh n2⟩, by decide, by rw [unworded_len]; exact y2.2, fun H3 st D3 => ?_⟩
    have st3 := (Step.of_same e12).trans st
    refine ⟨_, rfl, _, rfl, d, r, 2, q, _, F, rfl, D3, O.step st3, ?_, by decide, by omega, by omega, by rw [puts_size]; exact y2.1, fun H4 p4 e4 n4 hp4 => ?_⟩
    · exact row_all (p := fun x => x < 65536) (held_puts 2 _ _ _ ok.w2 (words_un (byt_drop hb 10) _)) _ _
    · rw [hf1] at hp4
      exact g _ _ y3 H4 F p4 (st3.trans (.of_same e4)) (D3.same e4) (st3.free n4) (D3.fresh n4) hp4
/-! ### the first eight coils -/
theorem sum_short {g : Nat → Nat} : ∀ {m : Nat}, m ≤ 8 → (∀ j, m ≤ j → g j = 0) → ((List.range 8).map g).sum = ((List.range m).map g).sum := fun {m} h z => by
  rw [sum8]
  have hm : m = 0 ∨ m = 1 ∨ m = 2 ∨ m = 3 ∨ m = 4 ∨ m = 5 ∨ m = 6 ∨ m = 7 ∨ m = 8 := by omega
  rcases hm with rfl | rfl | rfl | rfl | rfl | rfl | rfl | rfl | rfl
  · rw [z 0 (by omega), z 1 (by omega), z 2 (by omega), z 3 (by omega), z 4 (by omega), z 5 (by omega), z 6 (by omega), z 7 (by omega)]; rfl
  · rw [z 1 (by omega), z 2 (by omega), z 3 (by omega), z 4 (by omega), z 5 (by omega), z 6 (by omega), z 7 (by omega)]; rfl
  · rw [z 2 (by omega), z 3 (by omega), z 4 (by omega), z 5 (by omega), z 6 (by omega), z 7 (by omega)]; show _ = g 0 + (g 1 + 0); omega
  · rw [z 3 (by omega), z 4 (by omega), z 5 (by omega), z 6 (by omega), z 7 (by omega)]; show _ = g 0 + (g 1 + (g 2 + 0)); omega
  · rw [z 4 (by omega), z 5 (by omega), z 6 (by omega), z 7 (by omega)]; show _ = g 0 + (g 1 + (g 2 + (g 3 + 0))); omega
  · rw [z 5 (by omega), z 6 (by omega), z 7 (by omega)]; show _ = g 0 + (g 1 + (g 2 + (g 3 + (g 4 + 0)))); omega
  · rw [z 6 (by omega), z 7 (by omega)]; show _ = g 0 + (g 1 + (g 2 + (g 3 + (g 4 + (g 5 + 0))))); omega
  · rw [z 7 (by omega)]; show _ = g 0 + (g 1 + (g 2 + (g 3 + (g 4 + (g 5 + (g 6 + 0)))))); omega
  · rw [sum8]
def shifts (l : List Nat) (i : Nat) : List Nat := (List.range i).map fun (k : Nat) => l.getD k 0 * 2 ^ k
theorem shifts_more (l : List Nat) (i : Nat) : shifts l (i + 1) = shifts l i ++ [l.getD i 0 * 2 ^ i] := by
  unfold shifts
  rw [List.range_succ, List.map_append]
  rfl
theorem shifts_len (l : List Nat) (i : Nat) : (shifts l i).length = i := by
  unfold shifts
  rw [List.length_map, List.length_range]
theorem packed_head {l : List Nat} (h : l.length = 8) : (Sg46.packed l).headD 0 = ((List.range 8).map fun (j : Nat) => if l.getD (8 * 0 + j) 0 = 0 then 0 else 2 ^ j).sum := by
  unfold Sg46.packed
  rw [h]
  rfl
theorem status_sum {s : Sg46.Dev} (ok : DevOk s) : (shifts ((tab s 0).take 8) ((tab s 0).take 8).length).sum = (Sg46.packed ((List.range 8).map fun (k : Nat) => if k < s.size 0 then s.held 0 k else 0)).headD 0 := by
  have hl : ((tab s 0).take 8).length = min 8 (s.size 0) := by rw [List.length_take, tab_len]
  have gd : ∀ j, ((tab s 0).take 8).getD j 0 = if j < 8 ∧ j < s.size 0 then s.held 0 j else 0 := fun j => by
    rw [getD_take]
    by_cases a : j < 8
    · rw [if_pos a]
      by_cases b : j < s.size 0
      · rw [tab_get b, if_pos ⟨a, b⟩]
      · rw [if_neg (fun z => b z.2), List.getD_eq_getElem?_getD, List.getElem?_eq_none (by rw [tab_len]; omega)]
        rfl
    · rw [if_neg a, if_neg (fun z => a z.1)]
  unfold shifts
  rw [hl, ← sum_short (g := fun k => ((tab s 0).take 8).getD k 0 * 2 ^ k) (by omega) (fun j hj => by
    show ((tab s 0).take 8).getD j 0 * 2 ^ j = 0
    rw [gd, if_neg (by omega), Nat.zero_mul])]
  rw [packed_head (by rw [List.length_map, List.length_range])]
  congr 1
  apply List.map_congr_left
  intro j hj
  rw [List.mem_range] at hj
  rw [gd]
  have e : ((List.range 8).map fun (k : Nat) => if k < s.size 0 then s.held 0 k else 0).getD (8 * 0 + j) 0 = if j < s.size 0 then s.held 0 j else 0 := by
    rw [show 8 * 0 + j = j by omega, List.getD_eq_getElem?_getD, List.getElem?_map, List.getElem?_range hj]
    rfl
  rw [e]
  by_cases b : j < s.size 0
  · rw [if_pos ⟨hj, b⟩, if_pos b]
    have := ok.b0 j
    have hv : s.held 0 j = 0 ∨ s.held 0 j = 1 := by omega
    rcases hv with hv | hv <;> rw [hv] <;> simp
  · rw [if_neg (fun z => b z.2), if_neg b]
    simp
theorem ok_read_status {f : Addr} {fd : FuncData} (Fn : Fun K "read_status" "read_status" s_read_status f fd) (T : Txt K mg A) (c_row_at : C8.Met P w K mg base 1 A.C "row_at" (sp_row_at A) []) : FnOk P w K mg base CX0 2 f fd ["device", "request"] (sp_carrier A [7]) := by
  refine Fn.ok sc_read_status (fun vs H Q E h => ?_) (fun cdv Ar outer sh H vs Q E hr h => ?_)
  · obtain ⟨_, _, _, _, _, rfl, _⟩ := h
    rfl
  · have sc := sc_read_status
    refine ⟨_, (pss_cons (ps_set (i := 2) sc.nd rfl (Or.inl rfl) (C8.pe_mt c_row_at hr (by decide) (pv 0) (pa_cons (pe_gi (by rfl) T.g_COILS) (pa_cons pe_int (pa_cons pe_int pa_nil)))))
      (pss_one (ps_ret (pe_lst (pa_cons (pe_ix ix_list (pv 1) pe_int (fun _ _ => rfl)) (pa_cons (pe_callB (cr_sum rfl) (by rfl) T.b_sum (by decide +kernel) (pa_cons (pe_lc (own := [("k", 3), ("bit", 4)]) (g := gTup _ 2 (gCons (gName 3) ( gCons (gName 4) (gNil)))) rfl sc.nd (pi_enum (by rfl) T.b_enumerate (pa_cons (pv 2) pa_nil)) (blkOk_by (own := [("k", 3), ("bit", 4)]) (N := n_read_status) (sc := defScope s_read_status) (by decide +kernel)) (fun _ _ _ _ _ => (pg_tup rfl (pgs_cons (pg_name (i := 3) sc.nd rfl (Or.inl rfl)) (pgs_cons (pg_name (i := 4) sc.nd rfl (Or.inl rfl)) pgs_nil)))) (fun _ _ _ _ _ => pts_nil) (fun _ _ _ _ _ => (pe_op op_shl (pv 4) (pv 3)))) pa_nil)) pa_nil)))))), ?_⟩
    obtain ⟨d, r, q, s, F, rfl, D, O, ok, hb, h0, hl, hf, hre, g⟩ := h
    have hf1 : q.getD 0 0 = 7 := by simpa using hf
    obtain ⟨y1, y2, y3⟩ := yes_status hf1 hre
    have G := fin_same D y3 g
    obtain ⟨dx, ta, c, hi⟩ := D.ins
    refine ⟨_, rfl, d, dx, _, rfl, hi, no_row _ _ _, d, 0, 0, 8, s, F, rfl, D, by decide, fun H1 p1 e1 n1 hp1 => ?_⟩
    rw [List.drop_zero] at hp1
    generalize hc : (tab s 0).take 8 = l at *
    have hl8 : l.length ≤ 8 := by rw [← hc, List.length_take]; omega
    have hbit : ∀ x ∈ l, x ≤ 1 := fun x m => by
      rw [← hc] at m
      have m2 := List.mem_of_mem_take m
      unfold tab at m2
      obtain ⟨k, _, rfl⟩ := List.mem_map.mp m2
      exact ok.b0 k
    refine ⟨_, rfl, r, _, _, _, rfl, rfl, e1.seq O.sq, (nv_at (i := 0) h0), _, rfl, p1, _, rfl, SqL.of hp1, fun L nL => ?_⟩
    refine lc_it (walk_enum (xs := nv l)) (fun i H' => Same H1 H' ∧ H' L = some (.lst (nv (shifts l i)))) ⟨same_upd nL, upd_same⟩ (fun i H' _ z => z.1.seq (SqL.of hp1)) ?_ ?_
    · rintro i x H2 H3 hi2 ⟨e, hL⟩ ⟨t, x1, x2, rfl, nt, rfl, z1, z2⟩
      obtain rfl := Option.some.inj z1
      obtain ⟨b, hb1, rfl⟩ := nv_one z2
      have hb2 : b ≤ 1 := hbit b (List.mem_of_getElem? hb1)
      rw [nv_len] at hi2
      have gb : l.getD i 0 = b := by rw [List.getD_eq_getElem?_getD, hb1]; rfl
      refine ⟨t, _, rfl, SqT.of upd_same, rfl, _, _, rfl, _, _, rfl, rfl, rfl, _, rfl, _, rfl, _, _, rfl, rfl, ⟨by omega, by omega, by omega⟩, ?_⟩
      refine ⟨nv (shifts l i), ?_, szlt (by rw [nv_len, shifts_len]; omega), same_new (same_new e (e.free nt)) nL, ?_⟩
      · rw [upd_ne (ne_of_none hL nt)]
        exact hL
      · rw [upd_same, shifts_more, nv_app, gb]
        have ep : (b : Int) * 2 ^ ((i : Nat) : Int).toNat = ((b * 2 ^ i : Nat) : Int) := by
          rw [Int.toNat_natCast, Int.natCast_mul, Int.natCast_pow]
          rfl
        show some (HO.lst (nv (shifts l i) ++ [V.int ((b : Int) * 2 ^ ((i : Nat) : Int).toNat)])) = _
        rw [ep]
        rfl
    · rintro H' ⟨e, hL⟩
      rw [nv_len] at hL
      rw [nv_ints] at hL
      refine ⟨L, _, rfl, SqL.of hL, by show 2 ≤ sizeLine; decide, fun p np => ?_⟩
      have e2 := e1.trans e
      rw [sum_ints, ← hc, status_sum ok, hf1]
      exact G _ p (same_new e2 (e2.free np)) (e2.free np) upd_same
end
end Bd

set_option Elab.async false
set_option linter.all false
set_option maxRecDepth 100000
set_option maxHeartbeats 2000000
namespace Bd
open PySem PySem.Spec PyProof.Rows L2
/-! ### what stays true of a device -/
theorem puts_counts (t : Nat) : ∀ (l : List Nat) (s : Sg46.Dev) (i : Nat), (s.puts t i l).counts = s.counts
  | [], _, _ => rfl
  | x :: r, s, i => (puts_counts t r (s.put t i x) (i + 1)).trans rfl
theorem puts_unit (t : Nat) : ∀ (l : List Nat) (s : Sg46.Dev) (i : Nat), (s.puts t i l).unit = s.unit
  | [], _, _ => rfl
  | x :: r, s, i => (puts_unit t r (s.put t i x) (i + 1)).trans rfl
theorem DevOk.puts0 {s : Sg46.Dev} (ok : DevOk s) (i : Nat) {l : List Nat} (h : Bits l) : DevOk (s.puts 0 i l) where
  cl := by rw [puts_counts]; exact ok.cl
  cw := by rw [puts_counts]; exact ok.cw
  b0 := held_puts 0 (p := fun x => x ≤ 1) l s i ok.b0 h
  b1 := fun j => by rw [held_other 0 (by decide)]; exact ok.b1 j
  w2 := fun j => by rw [held_other 0 (by decide)]; exact ok.w2 j
  w3 := fun j => by rw [held_other 0 (by decide)]; exact ok.w3 j
  sz := fun t => by rw [puts_size]; exact ok.sz t
  un := by rw [puts_unit]; exact ok.un
theorem DevOk.puts2 {s : Sg46.Dev} (ok : DevOk s) (i : Nat) {l : List Nat} (h : Words l) : DevOk (s.puts 2 i l) where
  cl := by rw [puts_counts]; exact ok.cl
  cw := by rw [puts_counts]; exact ok.cw
  b0 := fun j => by rw [held_other 2 (by decide)]; exact ok.b0 j
  b1 := fun j => by rw [held_other 2 (by decide)]; exact ok.b1 j
  w2 := held_puts 2 (p := fun x => x < 65536) l s i ok.w2 h
  w3 := fun j => by rw [held_other 2 (by decide)]; exact ok.w3 j
  sz := fun t => by rw [puts_size]; exact ok.sz t
  un := by rw [puts_unit]; exact ok.un
theorem DevOk.cnt {s : Sg46.Dev} (ok : DevOk s) {l : List Nat} (h6 : l.length = 6) (h : Words l) : DevOk { s with counts := l } := ⟨h6, h, ok.b0, ok.b1, ok.w2, ok.w3, ok.sz, ok.un⟩
theorem DevOk.more {s : Sg46.Dev} (ok : DevOk s) (k : Nat) : DevOk (s.more k) := by
  refine ok.cnt (by rw [List.length_set]; exact ok.cl) fun x m => ?_
  rcases List.mem_or_eq_of_mem_set m with z | z
  · exact ok.cw x z
  · rw [z]
    omega
theorem work_keeps {s : Sg46.Dev} {q b : List Nat} {e : Sg46.Dev} (ok : DevOk s) (hb : Byt q) (hl : q.length ≤ 300) (hr : reason s q = 0) (hw : Sg46.work s q = .done b e) : DevOk e ∧ 0 < b.length ∧ b.length ≤ 300 := by
  have hk : fns.contains (q.getD 0 0) = true := by
    cases z : fns.contains (q.getD 0 0) with
    | true => rfl
    | false =>
      rw [work_none rfl z] at hw
      cases hw
  obtain ⟨f, hf⟩ : ∃ f, q.getD 0 0 = f := ⟨_, rfl⟩
  rw [hf] at hk
  simp [fns] at hk
  have go : ∀ {b' e'}, Sg46.work s q = .done b' e' → DevOk e' → 0 < b'.length → b'.length ≤ 300 → DevOk e ∧ 0 < b.length ∧ b.length ≤ 300 := fun {b' e'} h1 h2 h3 h4 => by
    rw [hw] at h1
    cases h1
    exact ⟨h2, h3, h4⟩
  have q0 : 0 < q.length := by
    cases q with
    | nil => simp at hf; omega
    | cons x r => simp
  rcases hk with rfl | rfl | rfl | rfl | rfl | rfl | rfl | rfl | rfl | rfl | rfl | rfl | rfl
  · obtain ⟨y1, y2, y3⟩ := yes_bits hf (by decide) hr
    simp [fBits] at y1
    exact go y3 ok (by simp) (by simp [packed_len, row_len]; omega)
  · obtain ⟨y1, y2, y3⟩ := yes_bits hf (by decide) hr
    simp [fBits] at y1
    exact go y3 ok (by simp) (by simp [packed_len, row_len]; omega)
  · obtain ⟨y1, y2, y3⟩ := yes_nums hf (by decide) hr
    simp [fNums] at y1
    exact go y3 ok (by simp) (by simp [words_len, row_len]; omega)
  · obtain ⟨y1, y2, y3⟩ := yes_nums hf (by decide) hr
    simp [fNums] at y1
    exact go y3 ok (by simp) (by simp [words_len, row_len]; omega)
  · obtain ⟨y1, y2, y3⟩ := yes_coil hf hr
    exact go y3 (ok.puts0 _ (l := [_]) (fun x m => by rw [List.mem_singleton] at m; rw [m]; split <;> omega)) q0 hl
  · obtain ⟨y1, y2, y3⟩ := yes_kept hf hr
    exact go y3 (ok.puts2 _ (l := [_]) (fun x m => by rw [List.mem_singleton] at m; rw [m]; exact at2_lt hb 3)) q0 hl
  · obtain ⟨y1, y2, y3⟩ := yes_status hf hr
    exact go y3 ok (by simp) (by simp)
  · obtain ⟨y1, ⟨_, y3⟩ | ⟨_, y3⟩ | ⟨_, _, y3⟩⟩ := yes_check hf hr
    · exact go y3 ok q0 hl
    · exact go y3 (ok.cnt (by simp) (fun x m => by rw [List.eq_of_mem_replicate m]; decide)) q0 hl
    · exact go y3 ok (by simp) (by simp [Sg46.two])
  · obtain ⟨y1, y2, y3⟩ := yes_went hf hr
    exact go y3 ok (by simp) (by simp [Sg46.two])
  · obtain ⟨y1, y2, y3⟩ := yes_coils hf hr
    exact go y3 (ok.puts0 _ (bits_un _ _)) (by simp) (by simp [Sg46.two])
  · obtain ⟨y1, y2, y3⟩ := yes_row hf hr
    exact go y3 (ok.puts2 _ (words_un (byt_drop hb 6) _)) (by simp) (by simp [Sg46.two])
  · obtain ⟨y1, y2, y3⟩ := yes_mask hf hr
    refine go y3 (ok.puts2 _ (l := [_]) (fun x m => ?_)) q0 hl
    rw [List.mem_singleton] at m
    rw [m]
    exact Nat.or_lt_two_pow (n := 16) (Nat.and_lt_two_pow _ (at2_lt hb 3)) (Nat.and_lt_two_pow _ (by omega))
  · obtain ⟨y1, y2, y3⟩ := yes_both hf hr
    simp [fBoth] at y1
    exact go y3 (ok.puts2 _ (words_un (byt_drop hb 10) _)) (by simp) (by simp [words_len, row_len]; omega)
theorem answer_keeps {s : Sg46.Dev} {q : List Nat} (ok : DevOk s) (hb : Byt q) (hl : q.length ≤ 300) : DevOk (Sg46.answer s q).2 ∧ 0 < (Sg46.answer s q).1.length ∧ (Sg46.answer s q).1.length ≤ 300 := by
  unfold Sg46.answer
  by_cases h : reason s q = 0
  · cases e : Sg46.work s q with
    | refused k => exact ⟨ok.more 2, by simp, by simp⟩
    | done b d =>
      obtain ⟨h1, h2, h3⟩ := work_keeps ok hb hl h e
      dsimp only
      refine ⟨?_, h2, h3⟩
      split
      · exact h1
      · exact h1.more 5
  · rw [work_refused h]
    exact ⟨ok.more 2, by simp, by simp⟩
section
variable {P : Program} {w : World} {K : PySem.W.Frag} {mg : Str → Option Value} {base : Heap} {A : Ad}
theorem words_one (x : Nat) : Sg46.words [x] = Sg46.two x := List.append_nil _
theorem ok_read_went_well {f : Addr} {fd : FuncData} (Fn : Fun K "read_went_well" "read_went_well" s_read_went_well f fd) (T : Txt K mg A) (c_bytes_of_numbers : C8.Cal P w K mg base 1 "bytes_of_numbers" (sp_bytes_of_numbers K) []) : FnOk P w K mg base CX0 2 f fd ["device", "request"] (sp_carrier A [11]) := by
  refine Fn.ok sc_read_went_well (fun vs H Q E h => ?_) (fun cdv Ar outer sh H vs Q E hr h => ?_)
  · obtain ⟨_, _, _, _, _, rfl, _⟩ := h
    rfl
  · have sc := sc_read_went_well
    refine ⟨_, (pss_one (ps_ret (pe_op op_cat (pe_lst (pa_cons (pe_ix ix_list (pv 1) pe_int (fun _ _ => rfl)) (pa_cons pe_int (pa_cons pe_int pa_nil)))) (C8.pe_c c_bytes_of_numbers hr (by decide) (by rfl) (pa_cons (pe_lst (pa_cons (pe_ix ix_list (pe_fld (pv 0) rfl) (pe_gi (by rfl) T.g_WENT_WELL) (fun _ _ => rfl)) pa_nil)) pa_nil))))), ?_⟩
    obtain ⟨d, r, q, s, F, rfl, D, O, ok, hb, h0, hl, hf, hre, g⟩ := h
    have hf1 : q.getD 0 0 = 11 := by simpa using hf
    obtain ⟨y1, y2, y3⟩ := yes_went hf1 hre
    have G := fin_same D y3 g
    refine ⟨_, rfl, r, _, _, _, rfl, rfl, O.sq, (nv_at (i := 0) h0), by show 3 ≤ sizeLine; decide, fun o no => ?_⟩
    have e1 := same_upd (o := .lst [V.int ((q.getD 0 0 : Nat) : Int), V.int 0, V.int 0]) no
    obtain ⟨dx, ta, c, ts, hF, hN, h3, h4, h5, h6, h7⟩ := (D.same e1).ex
    refine ⟨_, rfl, d, _, dx, _, _, rfl, h4, T.cl, T.n_tallies, dF_tallies _ _ _, c, _, _, _, rfl, rfl, SqL.of h6, (nv_at (i := 5) (by rw [ok.cl]; decide)), by show 1 ≤ sizeLine; decide, fun p1 n1 => ?_⟩
    have e2 := same_upd (o := .lst (nv [s.counts.getD 5 0])) n1
    refine ⟨p1, [s.counts.getD 5 0], rfl, SqL.of upd_same, fun x m => ?_, by show 1 ≤ 70000; decide, fun H3 p3 e3 n3 hp3 => ?_⟩
    · rw [List.mem_singleton] at m
      rw [m, List.getD_eq_getElem?_getD]
      cases z : s.counts[5]? with
      | none => decide
      | some y => exact ok.cw y (List.mem_of_getElem? z)
    have e13 := (e1.trans e2).trans e3
    have ho := (e2.trans e3) o _ upd_same
    refine ⟨o, p3, _, _, rfl, rfl, ho, hp3, sz (by rw [nv_len, words_len]; show 3 + 2 * 1 ≤ _; decide), fun p np => ?_⟩
    rw [words_one, hf1]
    exact G _ p (same_new e13 (e13.free np)) (e13.free np) upd_same
theorem ok_check_device {f : Addr} {fd : FuncData} (Fn : Fun K "check_device" "check_device" s_check_device f fd) (T : Txt K mg A) (c_number_at : C8.Cal P w K mg base 1 "number_at" (sp_number_at K) []) (c_clear_tallies : C8.Met P w K mg base 1 A.C "clear_tallies" (sp_clear_tallies A) []) (c_bytes_of_numbers : C8.Cal P w K mg base 1 "bytes_of_numbers" (sp_bytes_of_numbers K) []) : FnOk P w K mg base CX0 2 f fd ["device", "request"] (sp_carrier A [8]) := by
  refine Fn.ok sc_check_device (fun vs H Q E h => ?_) (fun cdv Ar outer sh H vs Q E hr h => ?_)
  · obtain ⟨_, _, _, _, _, rfl, _⟩ := h
    rfl
  · have sc := sc_check_device
    refine ⟨_, (pss_cons (ps_set (i := 2) sc.nd rfl (Or.inl rfl) (C8.pe_c c_number_at hr (by decide) (by rfl) (pa_cons (pv 1) (pa_cons pe_int pa_nil))))
      (pss_cons (ps_if (pt_cmpR op_eq (pv 2) (pe_gi (by rfl) T.g_ECHO) (nomark _)) (pss_one (ps_ret (pe_callTy call_list_of (by rfl) T.b_list (by decide +kernel) (pa_cons (pv 1) pa_nil)))) pss_nil)
      (pss_cons (ps_if (pt_cmpR op_eq (pv 2) (pe_gi (by rfl) T.g_CLEAR_COUNTS) (nomark _)) (pss_cons (ps_expr (C8.pe_mt0 c_clear_tallies hr (by decide) (pv 0)))
      (pss_one (ps_ret (pe_callTy call_list_of (by rfl) T.b_list (by decide +kernel) (pa_cons (pv 1) pa_nil))))) pss_nil)
      (pss_one (ps_ret (pe_op op_cat (pe_slice sl_list (pv 1) po_none (po_some pe_int)) (C8.pe_c c_bytes_of_numbers hr (by decide) (by rfl) (pa_cons (pe_lst (pa_cons (pe_ix ix_list (pe_fld (pv 0) rfl) (pe_op op_sub (pv 2) (pe_gi (by rfl) T.g_FIRST_COUNT)) (fun _ _ => rfl)) pa_nil)) pa_nil)))))))), ?_⟩
    obtain ⟨d, r, q, s, F, rfl, D, O, ok, hb, h0, hl, hf, hre, g⟩ := h
    have hf1 : q.getD 0 0 = 8 := by simpa using hf
    obtain ⟨l5, hy⟩ := yes_check hf1 hre
    obtain ⟨dx, ta, c, hi⟩ := D.ins
    refine ⟨_, rfl, r, q, 1, rfl, O.sq, by omega, _, rfl, rfl, _, rfl, ifb (fun b1 => ?_) (fun b1 => ?_)⟩
    · simp at b1
      obtain ⟨_, y3⟩ | ⟨z, y3⟩ | ⟨z, _, y3⟩ := hy
      · exact ⟨_, rfl, r, _, rfl, .inl O.sq, fun l nl => fin_copy D (.of_same (Same.refl _)) y3 g l nl⟩
      · omega
      · omega
    · simp at b1
      refine ⟨_, rfl, rfl, _, rfl, ifb (fun b2 => ?_) (fun b2 => ?_)⟩
      · simp at b2
        obtain ⟨z, y3⟩ | ⟨_, y3⟩ | ⟨z, _, y3⟩ := hy
        · omega
        · refine ⟨_, rfl, d, dx, _, rfl, hi, no_clear _ _ _, d, s, F, rfl, D, fun H2 F2 st D2 => ?_⟩
          exact ⟨_, rfl, r, _, rfl, .inl (O.step st).sq, fun l nl => fin_copy D2 st y3 g l nl⟩
        · omega
      · simp at b2
        obtain ⟨z, y3⟩ | ⟨z, y3⟩ | ⟨a11, a15, y3⟩ := hy
        · omega
        · omega
        · have G := fin_same D y3 g
          refine ⟨_, rfl, _, rfl, r, _, rfl, O.sq, fun o no => ?_⟩
          have e1 := same_upd (o := .lst (cutV (nv q) none (some 3))) no
          have hc : cutV (nv q) none (some 3) = nv (q.take 3) := cut_t (j := 3) q
          obtain ⟨dx, ta, c, ts, hF, hN, h3, h4, h5, h6, h7⟩ := (D.same e1).ex
          have hix : Sg46.at2 q 1 - 11 < s.counts.length := by rw [ok.cl]; omega
          refine ⟨_, rfl, d, _, dx, _, _, rfl, h4, T.cl, T.n_tallies, dF_tallies _ _ _, _, rfl, _, _, rfl, rfl, c, _, _, V.int ((s.counts.getD (Sg46.at2 q 1 - 11) 0 : Nat) : Int), rfl, rfl, SqL.of h6, ?_, by show 1 ≤ sizeLine; decide, fun p1 n1 => ?_⟩
          · have ez : ((Sg46.at2 q 1 : Nat) : Int) - 11 = ((Sg46.at2 q 1 - 11 : Nat) : Int) := by omega
            show atI (nv s.counts) (((Sg46.at2 q 1 : Nat) : Int) - 11) = _
            rw [ez]
            exact nv_at hix
          have e2 := same_upd (o := .lst (nv [s.counts.getD (Sg46.at2 q 1 - 11) 0])) n1
          refine ⟨p1, [s.counts.getD (Sg46.at2 q 1 - 11) 0], rfl, SqL.of upd_same, fun x m => ?_, by show 1 ≤ 70000; decide, fun H3 p3 e3 n3 hp3 => ?_⟩
          · rw [List.mem_singleton] at m
            rw [m, List.getD_eq_getElem?_getD]
            cases z : s.counts[Sg46.at2 q 1 - 11]? with
            | none => decide
            | some y => exact ok.cw y (List.mem_of_getElem? z)
          have e13 := (e1.trans e2).trans e3
          have ho := (e2.trans e3) o _ upd_same
          rw [hc] at ho
          refine ⟨o, p3, _, _, rfl, rfl, ho, hp3, sz (by rw [nv_len, nv_len, words_len, List.length_take]; show min 3 q.length + 2 * 1 ≤ _; omega), fun p np => ?_⟩
          have el : nv (q.take 3) ++ nv (Sg46.words [s.counts.getD (Sg46.at2 q 1 - 11) 0]) = nv (8 :: Sg46.two (Sg46.at2 q 1) ++ Sg46.two (s.counts.getD (Sg46.at2 q 1 - 11) 0)) := by
            rw [words_one, two_at hb 1, ← nv_app]
            congr 1
            match q, l5, hf1 with
            | [x0, x1, x2, x3, x4], _, hx =>
              have : x0 = 8 := hx
              subst this
              rfl
          rw [el]
          exact G _ p (same_new e13 (e13.free np)) (e13.free np) upd_same
/-! ### carry_out -/
structure HCarr (P : Program) (w : World) (K : PySem.W.Frag) (mg : Str → Option Value) (base : Heap) (A : Ad) : Prop where
  bits : Held P w K mg base 4 A.f_read_bits (sp_carrier A [1, 2])
  nums : Held P w K mg base 4 A.f_read_numbers (sp_carrier A [3, 4])
  coil : Held P w K mg base 4 A.f_write_coil (sp_carrier A [5])
  kept : Held P w K mg base 4 A.f_write_kept (sp_carrier A [6])
  status : Held P w K mg base 4 A.f_read_status (sp_carrier A [7])
  check : Held P w K mg base 4 A.f_check_device (sp_carrier A [8])
  went : Held P w K mg base 4 A.f_read_went_well (sp_carrier A [11])
  coils : Held P w K mg base 4 A.f_write_coils (sp_carrier A [15])
  row : Held P w K mg base 4 A.f_write_kept_row (sp_carrier A [16])
  mask : Held P w K mg base 4 A.f_mask_kept (sp_carrier A [22])
  both : Held P w K mg base 4 A.f_write_and_read (sp_carrier A [23])
theorem carr_pick (hC : HCarr P w K mg base A) {n : Nat} (h : fns.contains n = true) :
    ∃ fa fs, pickT [((1 : Int), Value.ref A.f_read_bits), (2, .ref A.f_read_bits), (3, .ref A.f_read_numbers), (4, .ref A.f_read_numbers), (5, .ref A.f_write_coil), (6, .ref A.f_write_kept), (7, .ref A.f_read_status), (8, .ref A.f_check_device), (11, .ref A.f_read_went_well), (15, .ref A.f_write_coils), (16, .ref A.f_write_kept_row), (22, .ref A.f_mask_kept), (23, .ref A.f_write_and_read)] (n : Int) = some (.ref fa) ∧ Held P w K mg base 4 fa (sp_carrier A fs) ∧ fs.contains n = true := by
  simp [fns] at h
  rcases h with rfl | rfl | rfl | rfl | rfl | rfl | rfl | rfl | rfl | rfl | rfl | rfl | rfl
  · exact ⟨_, _, rfl, hC.bits, rfl⟩
  · exact ⟨_, _, rfl, hC.bits, rfl⟩
  · exact ⟨_, _, rfl, hC.nums, rfl⟩
  · exact ⟨_, _, rfl, hC.nums, rfl⟩
  · exact ⟨_, _, rfl, hC.coil, rfl⟩
  · exact ⟨_, _, rfl, hC.kept, rfl⟩
  · exact ⟨_, _, rfl, hC.status, rfl⟩
  · exact ⟨_, _, rfl, hC.check, rfl⟩
  · exact ⟨_, _, rfl, hC.went, rfl⟩
  · exact ⟨_, _, rfl, hC.coils, rfl⟩
  · exact ⟨_, _, rfl, hC.row, rfl⟩
  · exact ⟨_, _, rfl, hC.mask, rfl⟩
  · exact ⟨_, _, rfl, hC.both, rfl⟩
def sp_carry_out (A : Ad) : Sp := fun vs H Q _ => ∃ (d r : Addr) (q : List Nat) (s : Sg46.Dev) (F : List Addr), vs = [.ref d, .ref r] ∧ DevAt A.C H d s F ∧ Own H F r (nv q) ∧ DevOk s ∧ Byt q ∧ 0 < q.length ∧ q.length ≤ 300 ∧
  ∀ H' F' p, Step H H' F F' → DevAt A.C H' d (Sg46.answer s q).2 F' → H p = none → p ∉ F' → H' p = some (.lst (nv (Sg46.answer s q).1)) → Q (.ref p) H'
theorem ok_carry_out {f : Addr} {fd : FuncData} (Fn : Fun K "carry_out" "carry_out" s_carry_out f fd) (T : Txt K mg A) (hC : HCarr P w K mg base A) (c_reason_against : C8.Cal P w K mg base 4 "reason_against" (sp_reason_against A K) []) (c_tally : C8.Met P w K mg base 1 A.C "tally" (sp_tally A) []) : FnOk P w K mg base CX0 5 f fd ["device", "request"] (sp_carry_out A) := by
  refine Fn.ok sc_carry_out (fun vs H Q E h => ?_) (fun cdv Ar outer sh H vs Q E hr h => ?_)
  · obtain ⟨_, _, _, _, _, rfl, _⟩ := h
    rfl
  · have sc := sc_carry_out
    refine ⟨_, (pss_cons (ps_set (i := 2) sc.nd rfl (Or.inl rfl) (C8.pe_c c_reason_against hr (by decide) (by rfl) (pa_cons (pv 0) (pa_cons (pv 1) pa_nil))))
      (pss_cons (ps_if (pt_cmpR op_ne (pv 2) (pe_gi (by rfl) T.g_NO_REASON) (nomark _)) (pss_cons (ps_expr (C8.pe_mt c_tally hr (by decide) (pv 0) (pa_cons (pe_gi (by rfl) T.g_REFUSALS) pa_nil)))
      (pss_one (ps_ret (pe_lst (pa_cons (pe_op op_mod (pe_op op_add (pe_ix ix_list (pv 1) pe_int (fun _ _ => rfl)) pe_int) pe_int) (pa_cons (pv 2) pa_nil)))))) pss_nil)
      (pss_cons (ps_set (i := 3) sc.nd rfl (Or.inl rfl) (pe_callE hr (pe_ix ix_ktab (pe_gr (by rfl) T.g_CARRIERS) (pe_ix ix_list (pv 1) pe_int (fun _ _ => rfl)) (fun _ _ => rfl)) (pa_cons (pv 0) (pa_cons (pv 1) pa_nil))))
      (pss_cons (ps_if (pt_cmpR op_notIn_seq (pe_ix ix_list (pv 1) pe_int (fun _ _ => rfl)) (pe_gr (by rfl) T.g_UNCOUNTED) (by rfl)) (pss_one (ps_expr (C8.pe_mt c_tally hr (by decide) (pv 0) (pa_cons (pe_gi (by rfl) T.g_WENT_WELL) pa_nil)))) pss_nil)
      (pss_one (ps_ret (pv 3))))))), ?_⟩
    obtain ⟨d, r, q, s, F, rfl, D, O, ok, hb, h0, hl, g⟩ := h
    refine ⟨_, rfl, _, rfl, d, r, q, s, F, rfl, D, O.sq, h0, fun H1 e1 => ⟨_, rfl, rfl, _, rfl, ifb (fun b1 => ?_) (fun b1 => ?_)⟩⟩
    · simp at b1
      have hw := work_refused b1
      have ha : Sg46.answer s q = ([(q.getD 0 0 + 128) % 256, reason s q], s.more 2) := by
        unfold Sg46.answer
        rw [hw, headD_getD]
      obtain ⟨dx, ta, c, hi⟩ := (D.same e1).ins
      refine ⟨_, rfl, d, dx, _, rfl, hi, no_tally _ _ _, d, 2, s, F, rfl, D.same e1, by rw [ok.cl]; decide, fun H2 st D2 => ?_⟩
      have st2 := (Step.of_same (F := F) e1).trans st
      refine ⟨_, rfl, r, _, _, _, rfl, rfl, (O.step st2).sq, (nv_at (i := 0) h0), _, _, rfl, rfl, _, _, rfl, rfl, (by show (0 : Int) < 256; decide), _, rfl, by show 2 ≤ sizeLine; decide, fun p np => ?_⟩
      have e3 := same_upd (o := .lst (nv [(q.getD 0 0 + 128) % 256, reason s q])) np
      have hx : [V.int ((((q.getD 0 0 : Nat) : Int) + 128) % 256), V.int (reason s q : Nat)] = nv [(q.getD 0 0 + 128) % 256, reason s q] := by
        have : (((q.getD 0 0 : Nat) : Int) + 128) % 256 = (((q.getD 0 0 + 128) % 256 : Nat) : Int) := by omega
        rw [this]
        rfl
      show Q (.ref p) (upd H2 p (.lst [V.int ((((q.getD 0 0 : Nat) : Int) + 128) % 256), V.int (reason s q : Nat)]))
      rw [hx]
      rw [ha] at g
      exact g _ F p (st2.trans (.of_same e3)) (D2.same e3) (st2.free np) (D2.fresh np) upd_same
    · simp at b1
      have hk : fns.contains (q.getD 0 0) = true := by
        unfold reason at b1
        cases z : known q with
        | false => rw [z] at b1; simp at b1
        | true => exact known_fns z
      obtain ⟨fa, fs, hp, hh, hfs⟩ := carr_pick hC hk
      refine ⟨_, rfl, r, _, _, _, rfl, rfl, e1.seq O.sq, (nv_at (i := 0) h0), _, _, _, _, .ref fa, rfl, rfl, T.k_CARRIERS, hp, rfl, fa, _, rfl, hh, _, rfl, _, rfl, d, r, q, s, F, rfl, D.same e1, O.same e1, ok, hb, h0, hl, hfs, b1, fun b e hw H2 F2 p2 st D2 n2 a2 hp2 => ?_⟩
      have st2 := (Step.of_same (F := F) e1).trans st
      have np : H p2 = none := e1.free n2
      have ha : Sg46.answer s q = (b, if q.getD 0 0 = 8 ∨ q.getD 0 0 = 11 then e else e.more 5) := by
        unfold Sg46.answer
        rw [hw, headD_getD]
      obtain ⟨oke, _, _⟩ := work_keeps ok hb hl b1 hw
      rw [ha] at g
      refine ⟨_, rfl, r, _, _, _, rfl, rfl, (O.step st2).sq, (nv_at (i := 0) h0), _, _, rfl, .inr (T.t_UNCOUNTED _), rfl, rfl, _, rfl, ifb (fun b2 => ?_) (fun b2 => ?_)⟩
      · simp [inV, eqV, -List.getD_eq_getElem?_getD] at b2
        rw [if_neg (by omega)] at g
        obtain ⟨dx, ta, c, hi⟩ := D2.ins
        refine ⟨_, rfl, d, dx, _, rfl, hi, no_tally _ _ _, d, 5, e, F2, rfl, D2, by rw [oke.cl]; decide, fun H3 st3 D3 => ?_⟩
        exact ⟨_, rfl, g H3 F2 p2 (st2.trans st3) D3 np a2 (st3.keep _ _ hp2 a2)⟩
      · simp [inV, eqV, -List.getD_eq_getElem?_getD] at b2
        rw [if_pos (by omega)] at g
        exact ⟨_, rfl, g H2 F2 p2 st2 D2 np a2 hp2⟩
end
end Bd

set_option Elab.async false
set_option linter.all false
set_option maxRecDepth 100000
set_option maxHeartbeats 2000000
namespace Bd
open PySem PySem.Spec PyProof.Rows L2
/-! ### lists of numbers compared -/
def dn (l : List Nat) : List PyData := l.map fun (n : Nat) => PyData.int (n : Int)
theorem dn_all {K : PySem.W.Frag} {H : Hp} : ∀ l : List Nat, DpAll K H (nv l) (dn l)
  | [] => .nil
  | n :: r => .cons (.int _) (dn_all r)
theorem dp_nv {K : PySem.W.Frag} {H : Hp} {a : Addr} {l : List Nat} (h : SqL K H a (nv l)) : Dp K H (.ref a) (.list (dn l)) := .lst h (dn_all l)
theorem dn_lay : ∀ l : List Nat, PyData.canLayAll0 (dn l) = true
  | [] => rfl
  | n :: r => by
    show (PyData.canLay0 (.int _) && PyData.canLayAll0 (dn r)) = true
    rw [dn_lay r]
    rfl
theorem dn_depth : ∀ l : List Nat, PyData.depthAll (dn l) ≤ 1
  | [] => by decide
  | n :: r => by
    have ih := dn_depth r
    show max (PyData.depth (.int _)) (PyData.depthAll (dn r)) ≤ 1
    exact Nat.max_le.mpr ⟨by show 0 ≤ 1; decide, ih⟩
theorem dn_shaped (l : List Nat) : SeqAt.shaped (.list (dn l)) = true := by
  unfold SeqAt.shaped
  rw [Bool.and_eq_true]
  refine ⟨?_, decide_eq_true ?_⟩
  · show PyData.canLayAll0 (dn l) = true
    exact dn_lay l
  · show PyData.depthAll (dn l) + 1 ≤ 64
    have := dn_depth l
    omega
theorem dn_eqvAll : ∀ l m : List Nat, PyData.eqvAll (dn l) (dn m) = decide (l = m)
  | [], [] => rfl
  | [], _ :: _ => rfl
  | _ :: _, [] => rfl
  | x :: r, y :: t => by
    have ih := dn_eqvAll r t
    show (PyData.eqv (.int (x : Int)) (.int (y : Int)) && PyData.eqvAll (dn r) (dn t)) = _
    rw [ih]
    rw [Bool.eq_iff_iff]
    simp [PyData.eqv]
    omega
theorem dn_eqv (l m : List Nat) : PyData.eqv (.list (dn l)) (.list (dn m)) = decide (l = m) := dn_eqvAll l m
/-! ### slices from the end -/
theorem sIx_back (n d k : Nat) (hk : 0 < k) : HT.sIx n d (some (-(k : Int))) = n - k := by
  show (if (-(k : Int)) < 0 then ((-(k : Int)) + (n : Int)).toNat else min (-(k : Int)).toNat n) = n - k
  rw [if_pos (by omega)]
  omega
theorem cut_fb (l : List Nat) (k : Nat) (hk : 0 < k) : cutV (nv l) (some (-(k : Int))) none = nv (l.drop (l.length - k)) := by
  unfold cutV
  rw [sIx_back _ _ _ hk, HT.sIx_none, nv_len, nv_drop, nv_take, List.take_of_length_le (by rw [List.length_drop]; omega)]
theorem cut_tb (l : List Nat) (k : Nat) (hk : 0 < k) : cutV (nv l) none (some (-(k : Int))) = nv (l.take (l.length - k)) := by
  unfold cutV
  rw [sIx_back _ _ _ hk, HT.sIx_none, nv_len, List.drop_zero, nv_take, Nat.sub_zero]
theorem cut_ib (l : List Nat) (i k : Nat) (hk : 0 < k) : cutV (nv l) (some (i : Int)) (some (-(k : Int))) = nv ((l.take (l.length - k)).drop i) := by
  unfold cutV
  rw [sIx_back _ _ _ hk, HT.sIx_nat, nv_len, nv_drop, nv_take]
  congr 1
  rw [List.drop_take]
  by_cases h : i ≤ l.length
  · rw [Nat.min_eq_left h]
  · rw [Nat.min_eq_right (by omega), List.drop_of_length_le (by omega), List.drop_of_length_le (by omega)]
    simp
/-! ### sums -/
theorem crcBit_lt {c : Nat} (h : c < 65536) : Sg46.crcBit c < 65536 := by
  unfold Sg46.crcBit
  split
  · exact Nat.xor_lt_two_pow (n := 16) (by omega) (by decide)
  · omega
theorem crcBits_lt {c : Nat} (h : c < 65536) : ∀ i, crcBits c i < 65536
  | 0 => h
  | i + 1 => by
    rw [crcBits_more]
    exact crcBit_lt (crcBits_lt h i)
theorem crcByte_lt {c x : Nat} (h : c < 65536) (hx : x < 256) : Sg46.crcByte c x < 65536 := crcBits_lt (Nat.xor_lt_two_pow (n := 16) h (by omega)) 8
theorem crc_lt {l : List Nat} (h : Byt l) : Sg46.crc l < 65536 := by
  unfold Sg46.crc
  have go : ∀ (l : List Nat) (c : Nat), Byt l → c < 65536 → l.foldl Sg46.crcByte c < 65536 := by
    intro l
    induction l with
    | nil => exact fun c _ hc => hc
    | cons x r ih => exact fun c hb hc => ih _ (fun y m => hb y (List.mem_cons_of_mem _ m)) (crcByte_lt hc (hb x (List.mem_cons_self ..)))
  exact go l _ h (by decide)
section
variable {P : Program} {w : World} {K : PySem.W.Frag} {mg : Str → Option Value} {base : Heap} {A : Ad}
def ends (l : List Nat) : List Nat := [Sg46.crc l % 256, Sg46.crc l / 256]
def sp_crc_bytes (K : PySem.W.Frag) : Sp := fun vs H Q _ => ∃ (a : Addr) (l : List Nat), vs = [.ref a] ∧ SqL K H a (nv l) ∧ Byt l ∧ NewL H Q (nv (ends l))
theorem ok_crc_bytes {f : Addr} {fd : FuncData} (Fn : Fun K "crc_bytes" "crc_bytes" s_crc_bytes f fd) (T : Txt K mg A) (c_crc : C8.Cal P w K mg base 1 "crc" (sp_crc K) []) (c_bytes_of_numbers : C8.Cal P w K mg base 1 "bytes_of_numbers" (sp_bytes_of_numbers K) []) : FnOk P w K mg base CX0 2 f fd ["row"] (sp_crc_bytes K) := by
  refine Fn.ok sc_crc_bytes (fun vs H Q E h => ?_) (fun cdv Ar outer sh H vs Q E hr h => ?_)
  · obtain ⟨_, _, rfl, _⟩ := h
    rfl
  · have sc := sc_crc_bytes
    refine ⟨_, (pss_one (ps_ret (pe_listRev rfl (by rfl) T.b_list (by rfl) T.b_reversed (C8.pe_c c_bytes_of_numbers hr (by decide) (by rfl) (pa_cons (pe_lst (pa_cons (C8.pe_c c_crc hr (by decide) (by rfl) (pa_cons (pv 0) pa_nil)) pa_nil)) pa_nil))))), ?_⟩
    obtain ⟨a, l, rfl, hs, hb, g⟩ := h
    refine ⟨_, rfl, a, l, rfl, hs, by show 1 ≤ sizeLine; decide, fun o no => ?_⟩
    have e1 := same_upd (o := .lst (nv [Sg46.crc l])) no
    refine ⟨o, [Sg46.crc l], rfl, SqL.of upd_same, fun x m => ?_, by show 1 ≤ 70000; decide, fun H2 p2 e2 n2 hp2 => ?_⟩
    · rw [List.mem_singleton] at m
      rw [m]
      exact crc_lt hb
    refine ⟨p2, _, rfl, SqL.of hp2, fun p np => ?_⟩
    have hx : (nv (Sg46.words [Sg46.crc l])).reverse = nv (ends l) := by
      rw [words_one, two_small (crc_lt hb)]
      rfl
    rw [hx]
    have e12 := e1.trans e2
    exact g _ p (same_new e12 (e12.free np)) (e12.free np) upd_same
theorem summed_ends (l : List Nat) : Sg46.summed l = l ++ ends l := rfl
def sp_rtu_frame : Sp := fun vs H Q _ => ∃ (a : Addr) (l : List Nat), vs = [.ref a] ∧ H a = some (.lst (nv l)) ∧ Byt l ∧ l.length ≤ 1000 ∧ NewL H Q (nv (Sg46.summed l))
theorem ok_rtu_frame {f : Addr} {fd : FuncData} (Fn : Fun K "rtu_frame" "rtu_frame" s_rtu_frame f fd) (T : Txt K mg A) (c_crc_bytes : C8.Cal P w K mg base 2 "crc_bytes" (sp_crc_bytes K) []) : FnOk P w K mg base CX0 3 f fd ["row"] (sp_rtu_frame) := by
  refine Fn.ok sc_rtu_frame (fun vs H Q E h => ?_) (fun cdv Ar outer sh H vs Q E hr h => ?_)
  · obtain ⟨_, _, rfl, _⟩ := h
    rfl
  · have sc := sc_rtu_frame
    refine ⟨_, (pss_one (ps_ret (pe_op op_cat (pv 0) (C8.pe_c c_crc_bytes hr (by decide) (by rfl) (pa_cons (pv 0) pa_nil))))), ?_⟩
    obtain ⟨a, l, rfl, hs, hb, hl, g⟩ := h
    refine ⟨_, rfl, _, rfl, a, l, rfl, SqL.of hs, hb, fun H2 p2 e2 n2 hp2 => ?_⟩
    refine ⟨a, p2, _, _, rfl, rfl, e2 _ _ hs, hp2, sz (by rw [nv_len, nv_len]; show _ + 2 ≤ _; omega), fun p np => ?_⟩
    rw [← nv_app, ← summed_ends]
    exact g _ p (same_new e2 (e2.free np)) (e2.free np) upd_same
def isRtu (f : List Nat) : Bool := decide (4 ≤ f.length) && decide (f.drop (f.length - 2) = ends (f.take (f.length - 2)))
theorem byt_take {q : List Nat} (hb : Byt q) (n : Nat) : Byt (q.take n) := fun x m => hb x (List.mem_of_mem_take m)
def sp_is_rtu_frame (K : PySem.W.Frag) : Sp := fun vs H Q _ => ∃ (a : Addr) (f : List Nat), vs = [.ref a] ∧ SqL K H a (nv f) ∧ Byt f ∧ GivV H Q (.bl (isRtu f))
theorem ok_is_rtu_frame {f : Addr} {fd : FuncData} (Fn : Fun K "is_rtu_frame" "is_rtu_frame" s_is_rtu_frame f fd) (T : Txt K mg A) (c_crc_bytes : C8.Cal P w K mg base 2 "crc_bytes" (sp_crc_bytes K) []) : FnOk P w K mg base CX0 3 f fd ["frame"] (sp_is_rtu_frame K) := by
  refine Fn.ok sc_is_rtu_frame (fun vs H Q E h => ?_) (fun cdv Ar outer sh H vs Q E hr h => ?_)
  · obtain ⟨_, _, rfl, _⟩ := h
    rfl
  · have sc := sc_is_rtu_frame
    refine ⟨_, (pss_one (ps_ret (pe_and (pe_cmpR op_ge (pe_callB call_len_seq (by rfl) T.b_len PySem.boot_len (pa_cons (pv 0) pa_nil)) pe_int (nomark _)) (pe_one (pe_cmpR (op_eqD hr.units) (pe_slice sl_list (pv 0) (po_some (pe_un un_neg pe_int)) po_none) (C8.pe_c c_crc_bytes hr (by decide) (by rfl) (pa_cons (pe_slice sl_list (pv 0) po_none (po_some (pe_un un_neg pe_int))) pa_nil)) (nomark _)))))), ?_⟩
    obtain ⟨a, f, rfl, hs, hb, g⟩ := h
    refine ⟨_, rfl, a, _, rfl, .inl hs, _, _, rfl, rfl, _, rfl, ifb (fun b1 => ?_) (fun b1 => ?_)⟩
    · simp [nv_len] at b1
      refine ⟨_, rfl, _, rfl, _, rfl, a, _, rfl, hs, fun p1 n1 => ?_⟩
      have c1 : cutV (nv f) (some (-2)) none = nv (f.drop (f.length - 2)) := cut_fb f 2 (by decide)
      have c2 : cutV (nv f) none (some (-2)) = nv (f.take (f.length - 2)) := cut_tb f 2 (by decide)
      have e1 := same_upd (o := .lst (cutV (nv f) (some (-2)) none)) n1
      refine ⟨_, rfl, _, rfl, _, rfl, a, _, rfl, e1.seq hs, fun p2 n2 => ?_⟩
      have e2 := same_upd (o := .lst (cutV (nv f) none (some (-2)))) n2
      refine ⟨p2, f.take (f.length - 2), rfl, SqL.of (by rw [← c2]; exact upd_same), byt_take hb _, fun H3 p3 e3 n3 hp3 => ?_⟩
      have h1 := (e2.trans e3) p1 _ upd_same
      rw [c1] at h1
      refine ⟨_, _, dp_nv (SqL.of h1), dp_nv (SqL.of hp3), dn_shaped _, dn_shaped _, g.bl ((e1.trans e2).trans e3) ?_⟩
      rw [dn_eqv]
      unfold isRtu
      rw [decide_eq_true (show 4 ≤ f.length by omega), Bool.true_and]
    · refine g.bl (Same.refl _) ?_
      simp [nv_len] at b1
      unfold isRtu
      rw [decide_eq_false (show ¬ 4 ≤ f.length by omega), Bool.false_and]
end
end Bd

set_option Elab.async false
set_option linter.all false
set_option maxRecDepth 100000
set_option maxHeartbeats 2000000
namespace Bd
open PySem PySem.Spec PyProof.Rows L2
/-! ### counts and requests for all -/
theorem more_comm (s : Sg46.Dev) {a b : Nat} (h : a ≠ b) : (s.more a).more b = (s.more b).more a := by
  have e : ∀ (l : List Nat) (i j x : Nat), i ≠ j → (l.set i x).getD j 0 = l.getD j 0 := fun l i j x n => by
    rw [List.getD_eq_getElem?_getD, List.getElem?_set_ne n, ← List.getD_eq_getElem?_getD]
  unfold Sg46.Dev.more
  dsimp only
  rw [e _ _ _ _ h, e _ _ _ _ (Ne.symm h), List.set_comm _ _ h]
theorem puts_more_comm (t k : Nat) : ∀ (l : List Nat) (s : Sg46.Dev) (i : Nat), (s.more k).puts t i l = (s.puts t i l).more k
  | [], _, _ => rfl
  | x :: r, s, i => puts_more_comm t k r (s.put t i x) (i + 1)
theorem reason_more (s : Sg46.Dev) (k : Nat) (q : List Nat) : reason (s.more k) q = reason s q := rfl
theorem forAll_fns {q : List Nat} (h : Sg46.forAll q = true) : q.getD 0 0 = 5 ∨ q.getD 0 0 = 6 ∨ q.getD 0 0 = 15 ∨ q.getD 0 0 = 16 ∨ q.getD 0 0 = 22 := by
  unfold Sg46.forAll at h
  rw [headD_getD] at h
  simpa using h
theorem work_more {s : Sg46.Dev} {q : List Nat} (k : Nat) (h : Sg46.forAll q = true) (hr : reason s q = 0) : ∃ b e, Sg46.work s q = .done b e ∧ Sg46.work (s.more k) q = .done b (e.more k) := by
  have hr' : reason (s.more k) q = 0 := hr
  rcases forAll_fns h with hf | hf | hf | hf | hf
  · exact ⟨_, _, (yes_coil hf hr).2.2, (yes_coil hf hr').2.2⟩
  · exact ⟨_, _, (yes_kept hf hr).2.2, (yes_kept hf hr').2.2⟩
  · refine ⟨_, _, (yes_coils hf hr).2.2, ?_⟩
    rw [← puts_more_comm]
    exact (yes_coils hf hr').2.2
  · refine ⟨_, _, (yes_row hf hr).2.2, ?_⟩
    rw [← puts_more_comm]
    exact (yes_row hf hr').2.2
  · exact ⟨_, _, (yes_mask hf hr).2.2, (yes_mask hf hr').2.2⟩
theorem answer_more {s : Sg46.Dev} {q : List Nat} (h : Sg46.forAll q = true) : (Sg46.answer (s.more 4) q).2 = (Sg46.answer s q).2.more 4 := by
  have n8 : ¬ (q.headD 0 = 8 ∨ q.headD 0 = 11) := by
    rw [headD_getD]
    rcases forAll_fns h with hf | hf | hf | hf | hf <;> omega
  by_cases hr : reason s q = 0
  · obtain ⟨b, e, h1, h2⟩ := work_more 4 h hr
    unfold Sg46.answer
    rw [h1, h2]
    dsimp only
    rw [if_neg n8, if_neg n8]
    exact more_comm e (by decide)
  · have h1 := work_refused hr
    have h2 : Sg46.work (s.more 4) q = .refused (reason s q) := work_refused (s := s.more 4) hr
    unfold Sg46.answer
    rw [h1, h2]
    exact more_comm s (by decide)
section
variable {P : Program} {w : World} {K : PySem.W.Frag} {mg : Str → Option Value} {base : Heap} {A : Ad}
/-! ### take_request -/
def took (x : Option (List Nat)) : List Nat := match x with
  | none => []
  | some l => l.drop 1
def sp_take_request (A : Ad) : Sp := fun vs H Q _ => ∃ (d : Addr) (u : Nat) (r : Addr) (q : List Nat) (s : Sg46.Dev) (F : List Addr), vs = [.ref d, .int u, .ref r] ∧ DevAt A.C H d s F ∧ Own H F r (nv q) ∧ DevOk s ∧ Byt q ∧ 0 < q.length ∧ q.length ≤ 300 ∧
  ∀ H' F' p, Step H H' F F' → DevAt A.C H' d (Sg46.frame s u q).2 F' → H p = none → p ∉ F' → H' p = some (.lst (nv (took (Sg46.frame s u q).1))) → Q (.ref p) H'
theorem more_len (s : Sg46.Dev) (k : Nat) : (s.more k).counts.length = s.counts.length := List.length_set
theorem ok_take_request {f : Addr} {fd : FuncData} (Fn : Fun K "take_request" "take_request" s_take_request f fd) (T : Txt K mg A) (c_tally : C8.Met P w K mg base 1 A.C "tally" (sp_tally A) []) (c_carry_out : C8.Cal P w K mg base 5 "carry_out" (sp_carry_out A) []) : FnOk P w K mg base CX0 6 f fd ["device", "unit", "request"] (sp_take_request A) := by
  refine Fn.ok sc_take_request (fun vs H Q E h => ?_) (fun cdv Ar outer sh H vs Q E hr h => ?_)
  · obtain ⟨_, _, _, _, _, _, rfl, _⟩ := h
    rfl
  · have sc := sc_take_request
    refine ⟨_, (pss_cons (ps_expr (C8.pe_mt c_tally hr (by decide) (pv 0) (pa_cons (pe_gi (by rfl) T.g_FRAMES_RIGHT) pa_nil)))
      (pss_cons (ps_if (pt_cmpR op_eq (pv 1) (pe_gi (by rfl) T.g_FOR_ALL) (nomark _)) (pss_cons (ps_expr (C8.pe_mt c_tally hr (by decide) (pv 0) (pa_cons (pe_gi (by rfl) T.g_FRAMES_FOR_IT) pa_nil)))
      (pss_cons (ps_expr (C8.pe_mt c_tally hr (by decide) (pv 0) (pa_cons (pe_gi (by rfl) T.g_FRAMES_FOR_ALL) pa_nil)))
      (pss_cons (ps_if (pt_cmpR op_in_seq (pe_ix ix_list (pv 2) pe_int (fun _ _ => rfl)) (pe_gr (by rfl) T.g_CARRIED_OUT_FOR_ALL) (by rfl)) (pss_one (ps_expr (C8.pe_c c_carry_out hr (by decide) (by rfl) (pa_cons (pv 0) (pa_cons (pv 2) pa_nil))))) pss_nil)
      (pss_one (ps_ret (pe_lst pa_nil)))))) pss_nil)
      (pss_cons (ps_if (pt_cmpR op_ne (pv 1) (pe_fld (pv 0) rfl) (nomark _)) (pss_one (ps_ret (pe_lst pa_nil))) pss_nil)
      (pss_cons (ps_expr (C8.pe_mt c_tally hr (by decide) (pv 0) (pa_cons (pe_gi (by rfl) T.g_FRAMES_FOR_IT) pa_nil)))
      (pss_one (ps_ret (C8.pe_c c_carry_out hr (by decide) (by rfl) (pa_cons (pv 0) (pa_cons (pv 2) pa_nil))))))))), ?_⟩
    obtain ⟨d, u, r, q, s, F, rfl, D, O, ok, hb, h0, hl, g⟩ := h
    obtain ⟨dx, ta, c, hi⟩ := D.ins
    refine ⟨_, rfl, d, dx, _, rfl, hi, no_tally _ _ _, d, 0, s, F, rfl, D, by rw [ok.cl]; decide, fun H1 st1 D1 => ?_⟩
    obtain ⟨dx1, ta1, c1, hi1⟩ := D1.ins
    refine ⟨_, rfl, rfl, _, rfl, ifb (fun b1 => ?_) (fun b1 => ?_)⟩
    · simp at b1
      subst b1
      refine ⟨_, rfl, d, dx1, _, rfl, hi1, no_tally _ _ _, d, 3, s.more 0, F, rfl, D1, by rw [more_len, ok.cl]; decide, fun H2 st2 D2 => ?_⟩
      obtain ⟨dx2, ta2, c2, hi2⟩ := D2.ins
      refine ⟨_, rfl, d, dx2, _, rfl, hi2, no_tally _ _ _, d, 4, (s.more 0).more 3, F, rfl, D2, by rw [more_len, more_len, ok.cl]; decide, fun H3 st3 D3 => ?_⟩
      have st13 := (st1.trans st2).trans st3
      have fr : Sg46.frame s 0 q = (none, (if Sg46.forAll q = true then (Sg46.answer ((s.more 0).more 3) q).2 else (s.more 0).more 3).more 4) := rfl
      refine ⟨_, rfl, r, _, _, _, rfl, rfl, (O.step st13).sq, (nv_at (i := 0) h0), _, _, rfl, .inr (T.t_CARRIED_OUT_FOR_ALL _), rfl, rfl, _, rfl, ?_⟩
      have hfa : inV (V.int ((q.getD 0 0 : Nat) : Int)) [V.int 5, V.int 6, V.int 15, V.int 16, V.int 22] = Sg46.forAll q := by
        unfold Sg46.forAll
        rw [headD_getD]
        generalize q.getD 0 0 = n
        rw [Bool.eq_iff_iff]
        simp [inV, eqV]
        omega
      show (if inV (V.int ((q.getD 0 0 : Nat) : Int)) [V.int 5, V.int 6, V.int 15, V.int 16, V.int 22] = true then _ else _)
      rw [hfa]
      have fin : ∀ H4 F4 (e : Sg46.Dev), Step H H4 F F4 → DevAt A.C H4 d e F4 → (Sg46.frame s 0 q).2 = e → ([] : List V).length ≤ sizeLine ∧ ∀ p, H4 p = none → Q (.ref p) (upd H4 p (.lst [])) := fun H4 F4 e st D4 he => by
        refine ⟨Nat.zero_le _, fun p np => ?_⟩
        have e4 := same_upd (o := .lst (nv [])) np
        refine g _ F4 p (st.trans (.of_same e4)) ?_ (st.free np) (D4.fresh np) (by rw [fr]; exact upd_same)
        rw [he]
        exact D4.same e4
      refine ifb (fun b2 => ?_) (fun b2 => ?_)
      · refine ⟨_, rfl, _, rfl, d, r, q, _, F, rfl, D3, O.step st13, (ok.more 0).more 3 |>.more 4, hb, h0, hl, fun H4 F4 p st4 D4 _ _ _ => ?_⟩
        refine fin H4 F4 _ (st13.trans st4) D4 ?_
        rw [fr, b2, answer_more b2]
        rfl
      · exact fin H3 F _ st13 D3 (by rw [fr, b2]; rfl)
    · simp at b1
      refine ⟨_, rfl, _, rfl, d, _, dx1, _, _, rfl, hi1, T.cl, T.n_unit, dF_unit _ _ _, rfl, _, rfl, ifb (fun b2 => ?_) (fun b2 => ?_)⟩
      · simp at b2
        have hu : ¬ u = s.unit := fun z => b2 (by rw [z]; rfl)
        have fr : Sg46.frame s u q = (none, s.more 0) := by
          unfold Sg46.frame
          dsimp only
          rw [if_neg b1]
          exact if_neg hu
        refine ⟨Nat.zero_le _, fun p np => ?_⟩
        have e4 := same_upd (o := .lst (nv [])) np
        rw [fr] at g
        exact g _ F p (st1.trans (.of_same e4)) (D1.same e4) (st1.free np) (D1.fresh np) upd_same
      · simp at b2
        have hu : u = s.unit := Int.ofNat.inj b2
        have fr : Sg46.frame s u q = (some (u :: (Sg46.answer ((s.more 0).more 3) q).1), (Sg46.answer ((s.more 0).more 3) q).2) := by
          unfold Sg46.frame
          dsimp only
          rw [if_neg b1]
          exact if_pos hu
        rw [fr] at g
        refine ⟨_, rfl, d, dx1, _, rfl, hi1, no_tally _ _ _, d, 3, s.more 0, F, rfl, D1, by rw [more_len, ok.cl]; decide, fun H2 st2 D2 => ?_⟩
        have st12 := st1.trans st2
        refine ⟨_, rfl, _, rfl, d, r, q, _, F, rfl, D2, O.step st12, (ok.more 0).more 3, hb, h0, hl, fun H4 F4 p st4 D4 np a4 hp => ?_⟩
        exact g H4 F4 p (st12.trans st4) D4 (st12.free np) a4 hp
/-! ### answer_rtu -/
theorem isRtu_iff (f : List Nat) : (4 ≤ f.length ∧ Sg46.summed (f.take (f.length - 2)) = f) ↔ isRtu f = true := by
  unfold isRtu
  rw [Bool.and_eq_true, decide_eq_true_eq, decide_eq_true_eq, summed_ends]
  constructor
  · rintro ⟨h1, h2⟩
    refine ⟨h1, ?_⟩
    have h3 : f.take (f.length - 2) ++ ends (f.take (f.length - 2)) = f.take (f.length - 2) ++ f.drop (f.length - 2) := by rw [List.take_append_drop]; exact h2
    exact (List.append_cancel_left h3).symm
  · rintro ⟨h1, h2⟩
    refine ⟨h1, ?_⟩
    rw [← h2, List.take_append_drop]
theorem frame_len {s : Sg46.Dev} {u : Nat} {q : List Nat} (ok : DevOk s) (hb : Byt q) (hl : q.length ≤ 300) : (took (Sg46.frame s u q).1).length ≤ 300 ∧ DevOk (Sg46.frame s u q).2 ∧ ((Sg46.frame s u q).1 = none ∨ ∃ l, (Sg46.frame s u q).1 = some (u :: l) ∧ 0 < l.length) := by
  unfold Sg46.frame
  dsimp only
  split
  · refine ⟨by show 0 ≤ 300; decide, ?_, .inl rfl⟩
    split
    · exact (answer_keeps ((ok.more 0).more 3) hb hl).1.more 4
    · exact ((ok.more 0).more 3).more 4
  · split
    · obtain ⟨h1, h2, h3⟩ := answer_keeps ((ok.more 0).more 3) hb hl
      exact ⟨h3, h1, .inr ⟨_, rfl, h2⟩⟩
    · exact ⟨by show 0 ≤ 300; decide, ok.more 0, .inl rfl⟩
/-! ### answers are bytes -/
theorem byt_cons {x : Nat} {l : List Nat} (hx : x < 256) (h : Byt l) : Byt (x :: l) := fun y m => by
  rcases List.mem_cons.mp m with z | z
  · rw [z]
    exact hx
  · exact h y z
theorem byt_nil : Byt [] := fun y m => absurd m (by simp)
theorem byt_app {a b : List Nat} (ha : Byt a) (hb : Byt b) : Byt (a ++ b) := fun y m => by
  rcases List.mem_append.mp m with z | z
  · exact ha y z
  · exact hb y z
theorem byt_two (x : Nat) : Byt (Sg46.two x) := byt_cons (by omega) (byt_cons (by omega) byt_nil)
theorem byt_words : ∀ l : List Nat, Byt (Sg46.words l)
  | [] => byt_nil
  | x :: r => byt_app (byt_two x) (byt_words r)
theorem packed_sum (f : Nat → Nat) (h : ∀ j, f j ≤ 2 ^ j) : ((List.range 8).map f).sum < 256 := by
  rw [sum8]
  have h0 := h 0
  have h1 := h 1
  have h2 := h 2
  have h3 := h 3
  have h4 := h 4
  have h5 := h 5
  have h6 := h 6
  have h7 := h 7
  simp only [Nat.reducePow] at h0 h1 h2 h3 h4 h5 h6 h7
  omega
theorem byt_packed (l : List Nat) : Byt (Sg46.packed l) := fun y m => by
  unfold Sg46.packed at m
  obtain ⟨k, _, rfl⟩ := List.mem_map.mp m
  refine packed_sum _ fun j => ?_
  split
  · exact Nat.zero_le _
  · exact Nat.le_refl _
theorem work_byt {s : Sg46.Dev} {q b : List Nat} {e : Sg46.Dev} (hb : Byt q) (hr : reason s q = 0) (hw : Sg46.work s q = .done b e) : Byt b := by
  have hk : fns.contains (q.getD 0 0) = true := by
    cases z : fns.contains (q.getD 0 0) with
    | true => rfl
    | false =>
      rw [work_none rfl z] at hw
      cases hw
  obtain ⟨f, hf⟩ : ∃ f, q.getD 0 0 = f := ⟨_, rfl⟩
  rw [hf] at hk
  simp [fns] at hk
  have go : ∀ {b' e'}, Sg46.work s q = .done b' e' → Byt b' → Byt b := fun {b' e'} h1 h2 => by
    rw [hw] at h1
    cases h1
    exact h2
  rcases hk with rfl | rfl | rfl | rfl | rfl | rfl | rfl | rfl | rfl | rfl | rfl | rfl | rfl
  · obtain ⟨y1, y2, y3⟩ := yes_bits hf (by decide) hr
    simp [fBits] at y1
    exact go y3 (byt_cons (by decide) (byt_cons (by omega) (byt_packed _)))
  · obtain ⟨y1, y2, y3⟩ := yes_bits hf (by decide) hr
    simp [fBits] at y1
    exact go y3 (byt_cons (by decide) (byt_cons (by omega) (byt_packed _)))
  · obtain ⟨y1, y2, y3⟩ := yes_nums hf (by decide) hr
    simp [fNums] at y1
    exact go y3 (byt_cons (by decide) (byt_cons (by omega) (byt_words _)))
  · obtain ⟨y1, y2, y3⟩ := yes_nums hf (by decide) hr
    simp [fNums] at y1
    exact go y3 (byt_cons (by decide) (byt_cons (by omega) (byt_words _)))
  · exact go (yes_coil hf hr).2.2 hb
  · exact go (yes_kept hf hr).2.2 hb
  · refine go (yes_status hf hr).2.2 (byt_cons (by decide) (byt_cons ?_ byt_nil))
    rw [packed_head (by rw [List.length_map, List.length_range])]
    refine packed_sum _ fun j => ?_
    split
    · exact Nat.zero_le _
    · exact Nat.le_refl _
  · obtain ⟨y1, ⟨_, y3⟩ | ⟨_, y3⟩ | ⟨_, _, y3⟩⟩ := yes_check hf hr
    · exact go y3 hb
    · exact go y3 hb
    · exact go y3 (byt_cons (by decide) (byt_app (byt_two _) (byt_two _)))
  · exact go (yes_went hf hr).2.2 (byt_cons (by decide) (byt_cons (by decide) (byt_cons (by decide) (byt_two _))))
  · exact go (yes_coils hf hr).2.2 (byt_cons (by decide) (byt_app (byt_two _) (byt_two _)))
  · exact go (yes_row hf hr).2.2 (byt_cons (by decide) (byt_app (byt_two _) (byt_two _)))
  · exact go (yes_mask hf hr).2.2 hb
  · obtain ⟨y1, y2, y3⟩ := yes_both hf hr
    simp [fBoth] at y1
    exact go y3 (byt_cons (by decide) (byt_cons (by omega) (byt_words _)))
theorem reason_small (s : Sg46.Dev) (q : List Nat) : reason s q < 4 := by
  unfold reason
  split
  · decide
  · split
    · decide
    · split <;> decide
theorem work_done {s : Sg46.Dev} {q : List Nat} (hr : reason s q = 0) : ∃ b e, Sg46.work s q = .done b e := by
  have hk : fns.contains (q.getD 0 0) = true := by
    unfold reason at hr
    cases z : known q with
    | false => rw [z] at hr; simp at hr
    | true => exact known_fns z
  obtain ⟨f, hf⟩ : ∃ f, q.getD 0 0 = f := ⟨_, rfl⟩
  rw [hf] at hk
  simp [fns] at hk
  rcases hk with rfl | rfl | rfl | rfl | rfl | rfl | rfl | rfl | rfl | rfl | rfl | rfl | rfl
  · exact ⟨_, _, (yes_bits hf (by decide) hr).2.2⟩
  · exact ⟨_, _, (yes_bits hf (by decide) hr).2.2⟩
  · exact ⟨_, _, (yes_nums hf (by decide) hr).2.2⟩
  · exact ⟨_, _, (yes_nums hf (by decide) hr).2.2⟩
  · exact ⟨_, _, (yes_coil hf hr).2.2⟩
  · exact ⟨_, _, (yes_kept hf hr).2.2⟩
  · exact ⟨_, _, (yes_status hf hr).2.2⟩
  · obtain ⟨y1, ⟨_, y3⟩ | ⟨_, y3⟩ | ⟨_, _, y3⟩⟩ := yes_check hf hr <;> exact ⟨_, _, y3⟩
  · exact ⟨_, _, (yes_went hf hr).2.2⟩
  · exact ⟨_, _, (yes_coils hf hr).2.2⟩
  · exact ⟨_, _, (yes_row hf hr).2.2⟩
  · exact ⟨_, _, (yes_mask hf hr).2.2⟩
  · exact ⟨_, _, (yes_both hf hr).2.2⟩
theorem answer_byt {s : Sg46.Dev} {q : List Nat} (hb : Byt q) : Byt (Sg46.answer s q).1 := by
  unfold Sg46.answer
  by_cases h : reason s q = 0
  · obtain ⟨b, e, hw⟩ := work_done h
    rw [hw]
    exact work_byt hb h hw
  · rw [work_refused h]
    have := reason_small s q
    exact byt_cons (by omega) (byt_cons (by omega) byt_nil)
theorem frame_byt {s : Sg46.Dev} {u : Nat} {q : List Nat} (hb : Byt q) : Byt (took (Sg46.frame s u q).1) := by
  unfold Sg46.frame
  dsimp only
  split
  · exact byt_nil
  · split
    · exact answer_byt hb
    · exact byt_nil
/-! ### answer_rtu -/
def sp_answer_rtu (A : Ad) : Sp := fun vs H Q _ => ∃ (d r : Addr) (q : List Nat) (s : Sg46.Dev) (F : List Addr), vs = [.ref d, .ref r] ∧ DevAt A.C H d s F ∧ Own H F r (nv q) ∧ DevOk s ∧ Byt q ∧ q.length ≤ 300 ∧
  ∀ H' F' p, Step H H' F F' → DevAt A.C H' d (Sg46.bytesIn s q).2 F' → H p = none → p ∉ F' → H' p = some (.lst (nv (Sg46.bytesIn s q).1)) → Q (.ref p) H'
theorem sh_nil : SeqAt.shaped (.list []) = true := dn_shaped []
theorem ok_answer_rtu {f : Addr} {fd : FuncData} (Fn : Fun K "answer_rtu" "answer_rtu" s_answer_rtu f fd) (T : Txt K mg A) (c_is_rtu_frame : C8.Cal P w K mg base 3 "is_rtu_frame" (sp_is_rtu_frame K) []) (c_tally : C8.Met P w K mg base 1 A.C "tally" (sp_tally A) []) (c_take_request : C8.Cal P w K mg base 6 "take_request" (sp_take_request A) []) (c_rtu_frame : C8.Cal P w K mg base 3 "rtu_frame" sp_rtu_frame []) : FnOk P w K mg base CX0 7 f fd ["device", "frame"] (sp_answer_rtu A) := by
  refine Fn.ok sc_answer_rtu (fun vs H Q E h => ?_) (fun cdv Ar outer sh H vs Q E hr h => ?_)
  · obtain ⟨_, _, _, _, _, rfl, _⟩ := h
    rfl
  · have sc := sc_answer_rtu
    refine ⟨_, (pss_cons (ps_if (pt_not (pt_val (C8.pe_c c_is_rtu_frame hr (by decide) (by rfl) (pa_cons (pv 1) pa_nil)))) (pss_cons (ps_expr (C8.pe_mt c_tally hr (by decide) (pv 0) (pa_cons (pe_gi (by rfl) T.g_FRAMES_WRONG) pa_nil)))
      (pss_one (ps_ret (pe_lst pa_nil)))) pss_nil)
      (pss_cons (ps_set (i := 2) sc.nd rfl (Or.inl rfl) (C8.pe_c c_take_request hr (by decide) (by rfl) (pa_cons (pv 0) (pa_cons (pe_ix ix_list (pv 1) pe_int (fun _ _ => rfl)) (pa_cons (pe_slice sl_list (pv 1) (po_some pe_int) (po_some (pe_un un_neg pe_int))) pa_nil)))))
      (pss_cons (ps_if (pt_cmpR (op_eqD hr.units) (pv 2) (pe_lst pa_nil) (nomark _)) (pss_one (ps_ret (pe_lst pa_nil))) pss_nil)
      (pss_one (ps_ret (C8.pe_c c_rtu_frame hr (by decide) (by rfl) (pa_cons (pe_op op_cat (pe_lst (pa_cons (pe_ix ix_list (pv 1) pe_int (fun _ _ => rfl)) pa_nil)) (pv 2)) pa_nil))))))), ?_⟩
    obtain ⟨d, r, q, s, F, rfl, D, O, ok, hb, hl, g⟩ := h
    refine ⟨_, rfl, r, q, rfl, O.sq, hb, fun H1 e1 => ⟨_, rfl, ifb (fun b1 => ?_) (fun b1 => ?_)⟩⟩
    · simp at b1
      have hin : Sg46.bytesIn s q = ([], s.more 1) := by
        unfold Sg46.bytesIn
        exact if_neg (fun z => by rw [(isRtu_iff q).mp z] at b1; cases b1)
      rw [hin] at g
      obtain ⟨dx, ta, c, hi⟩ := (D.same e1).ins
      refine ⟨_, rfl, d, dx, _, rfl, hi, no_tally _ _ _, d, 1, s, F, rfl, D.same e1, by rw [ok.cl]; decide, fun H2 st D2 => ⟨Nat.zero_le _, fun p np => ?_⟩⟩
      have st2 := (Step.of_same (F := F) e1).trans st
      have e4 := same_upd (o := .lst (nv [])) np
      exact g _ F p (st2.trans (.of_same e4)) (D2.same e4) (st2.free np) (D2.fresh np) upd_same
    · simp at b1
      obtain ⟨h4, hsum⟩ := (isRtu_iff q).mpr b1
      have hin : Sg46.bytesIn s q = (((Sg46.frame s ((q.take (q.length - 2)).headD 0) ((q.take (q.length - 2)).drop 1)).1.map Sg46.summed).getD [], (Sg46.frame s ((q.take (q.length - 2)).headD 0) ((q.take (q.length - 2)).drop 1)).2) := by
        unfold Sg46.bytesIn
        exact if_pos ⟨h4, hsum⟩
      have hh : (q.take (q.length - 2)).headD 0 = q.getD 0 0 := by
        rw [headD_getD, getD_take, if_pos (by omega)]
      rw [hin, hh] at g
      generalize hbody : (q.take (q.length - 2)).drop 1 = bd at g
      have hbl : bd.length = q.length - 3 := by
        rw [← hbody, List.length_drop, List.length_take]
        omega
      have hbb : Byt bd := by rw [← hbody]; exact byt_drop (byt_take hb _) _
      have c1 : cutV (nv q) (some 1) (some (-2)) = nv bd := by rw [← hbody]; exact cut_ib q 1 2 (by decide)
      have O1 := O.same e1
      refine ⟨_, rfl, _, rfl, r, _, _, _, rfl, rfl, O1.sq, (nv_at (i := 0) (by omega)), _, rfl, _, rfl, _, rfl, _, rfl, r, _, rfl, O1.sq, fun p1 n1 => ?_⟩
      have e2 := same_upd (o := .lst (cutV (nv q) (some 1) (some (-2)))) n1
      have e12 := e1.trans e2
      obtain ⟨fl, fok, fsh⟩ := frame_len (s := s) (u := q.getD 0 0) ok hbb (by omega)
      have fby := frame_byt (s := s) (u := q.getD 0 0) hbb
      refine ⟨d, q.getD 0 0, p1, bd, s, F, rfl, D.same e12, ⟨.inl (by rw [← c1]; exact upd_same), (D.same e1).fresh n1⟩, ok, hbb, by omega, by omega, fun H3 F3 p3 st3 D3 n3 a3 hp3 => ?_⟩
      have st13 := (Step.of_same (F := F) e12).trans st3
      have np3 : H p3 = none := e12.free n3
      refine ⟨_, rfl, by show 0 ≤ sizeLine; decide, fun o no => ?_⟩
      have e4 := same_upd (o := .lst (nv [])) no
      refine ⟨_, _, dp_nv (SqL.of (e4 _ _ hp3)), dp_nv (l := []) (SqL.of upd_same), dn_shaped _, dn_shaped _, _, rfl, ?_⟩
      rw [dn_eqv]
      generalize hfr : Sg46.frame s (q.getD 0 0) bd = fr at *
      refine ifb (fun b2 => ?_) (fun b2 => ?_)
      · simp at b2
        have hn : fr.1 = none := by
          rcases fsh with z | ⟨l, z, zl⟩
          · exact z
          · rw [z] at b2
            have : l = [] := b2
            rw [this] at zl
            simp at zl
        rw [hn] at g
        refine ⟨Nat.zero_le _, fun p np => ?_⟩
        have e5 := same_upd (o := .lst (nv [])) np
        exact g _ F3 p ((st13.trans (.of_same e4)).trans (.of_same e5)) ((D3.same e4).same e5) ((st13.trans (.of_same e4)).free np) ((D3.same e4).fresh np) upd_same
      · simp at b2
        obtain ⟨l, hx⟩ : ∃ l, fr.1 = some (q.getD 0 0 :: l) := by
          rcases fsh with z | ⟨l, z, _⟩
          · rw [z] at b2
            exact absurd rfl b2
          · exact ⟨l, z⟩
        rw [hx] at g hp3 fl fby
        have hp4 := e4 _ _ hp3
        have st14 := st13.trans (Step.of_same (F := F3) e4)
        refine ⟨_, rfl, r, _, _, _, rfl, rfl, (O.step st14).sq, (nv_at (i := 0) (by omega)), by show 1 ≤ sizeLine; decide, fun o2 no2 => ?_⟩
        have e5 := same_upd (o := .lst [V.int ((q.getD 0 0 : Nat) : Int)]) no2
        refine ⟨_, rfl, o2, p3, _, _, rfl, rfl, upd_same, e5 _ _ hp4, sz ?_, fun p5 n5 => ?_⟩
        · rw [nv_len]
          show 1 + l.length ≤ _
          have : l.length ≤ 300 := fl
          omega
        have e6 := same_upd (o := .lst ([V.int ((q.getD 0 0 : Nat) : Int)] ++ nv (took (some (q.getD 0 0 :: l))))) n5
        have st16 := (st14.trans (.of_same e5)).trans (.of_same e6)
        have D6 := ((D3.same e4).same e5).same e6
        refine ⟨p5, q.getD 0 0 :: l, rfl, upd_same, byt_cons (byt_get hb 0) fby, ?_, fun H7 p7 e7 n7 hp7 => ?_⟩
        · show l.length + 1 ≤ 1000
          have : l.length ≤ 300 := fl
          omega
        · exact g H7 F3 p7 (st16.trans (.of_same e7)) (D6.same e7) (st16.free n7) (D6.fresh n7) hp7
end
end Bd

set_option Elab.async false
set_option linter.all false
set_option maxRecDepth 100000
set_option maxHeartbeats 2000000
namespace Bd
open PySem PySem.Spec PyProof.Rows L2
/-! ### digits -/
def dv (n : Nat) : Int := if 48 ≤ n ∧ n ≤ 57 then (n : Int) - 48 else if 65 ≤ n ∧ n ≤ 70 then (n : Int) - 55 else -1
theorem dv_of (n : Nat) : Sg46.ofDigit n = if dv n = -1 then none else some (dv n).toNat := by
  unfold Sg46.ofDigit dv
  by_cases h1 : 48 ≤ n ∧ n ≤ 57
  · rw [if_pos h1, if_pos h1, if_neg (by omega)]
    congr 1
    omega
  · rw [if_neg h1, if_neg h1]
    by_cases h2 : 65 ≤ n ∧ n ≤ 70
    · rw [if_pos h2, if_pos h2, if_neg (by omega)]
      congr 1
      omega
    · rw [if_neg h2, if_neg h2, if_pos rfl]
theorem dv_ge {n : Nat} (h : dv n ≠ -1) : 0 ≤ dv n ∧ dv n < 16 := by
  unfold dv at *
  split at h
  · rename_i z
    rw [if_pos z]
    omega
  · rename_i z
    rw [if_neg z]
    split at h
    · rename_i y
      rw [if_pos y]
      omega
    · exact absurd rfl h
def dd (n : Nat) : Nat := (dv n).toNat
/-- pairs of digits read -/
def pairs (l : List Nat) (m : Nat) : List Nat := (List.range m).map fun (k : Nat) => dd (l.getD (2 * k) 0) * 16 + dd (l.getD (2 * k + 1) 0)
theorem pairs_more (l : List Nat) (i : Nat) : pairs l (i + 1) = pairs l i ++ [dd (l.getD (2 * i) 0) * 16 + dd (l.getD (2 * i + 1) 0)] := by
  unfold pairs
  rw [List.range_succ, List.map_append]
  rfl
theorem pairs_len (l : List Nat) (i : Nat) : (pairs l i).length = i := by
  unfold pairs
  rw [List.length_map, List.length_range]
theorem pairs_cons (a b : Nat) (l : List Nat) (m : Nat) : pairs (a :: b :: l) (m + 1) = (dd a * 16 + dd b) :: pairs l m := by
  unfold pairs
  rw [List.range_succ_eq_map, List.map_cons, List.map_map]
  congr 1
theorem unhex_yes : ∀ (l : List Nat) (m : Nat), l.length = 2 * m → (∀ c ∈ l, dv c ≠ -1) → Sg46.unhex l = some (pairs l m)
  | [], m, h, _ => by
    have : m = 0 := by simp at h; omega
    subst this
    rfl
  | [_], m, h, _ => by
    simp at h
    omega
  | a :: b :: l, 0, h, _ => by simp at h
  | a :: b :: l, m + 1, h, hd => by
    have ih := unhex_yes l m (by simp at h; omega) (fun c hc => hd c (by simp [hc]))
    have ha := hd a (by simp)
    have hb := hd b (by simp)
    show (Sg46.ofDigit a).bind (fun x => (Sg46.ofDigit b).bind fun y => (Sg46.unhex l).map fun r => (16 * x + y) :: r) = _
    rw [dv_of, dv_of, if_neg ha, if_neg hb, ih, pairs_cons]
    show some ((16 * (dv a).toNat + (dv b).toNat) :: pairs l m) = some ((dd a * 16 + dd b) :: pairs l m)
    unfold dd
    rw [Nat.mul_comm]
theorem unhex_odd : ∀ (l : List Nat), l.length % 2 ≠ 0 → Sg46.unhex l = none
  | [], h => by simp at h
  | [_], _ => rfl
  | a :: b :: l, h => by
    have ih := unhex_odd l (by simp at h; omega)
    show (Sg46.ofDigit a).bind (fun x => (Sg46.ofDigit b).bind fun y => (Sg46.unhex l).map fun r => (16 * x + y) :: r) = _
    rw [ih]
    cases Sg46.ofDigit a <;> cases Sg46.ofDigit b <;> rfl
theorem unhex_bad : ∀ (l : List Nat) (c : Nat), c ∈ l → dv c = -1 → Sg46.unhex l = none
  | [], c, h, _ => by simp at h
  | [_], _, _, _ => rfl
  | a :: b :: l, c, h, hc => by
    show (Sg46.ofDigit a).bind (fun x => (Sg46.ofDigit b).bind fun y => (Sg46.unhex l).map fun r => (16 * x + y) :: r) = _
    simp only [List.mem_cons] at h
    rcases h with z | z | z
    · rw [← z, dv_of, if_pos hc]
      rfl
    · rw [← z, dv_of c, if_pos hc]
      cases Sg46.ofDigit a <;> rfl
    · rw [unhex_bad l c z hc]
      cases Sg46.ofDigit a <;> cases Sg46.ofDigit b <;> rfl
theorem unhex_len {l b : List Nat} (h : Sg46.unhex l = some b) : l.length = 2 * b.length ∧ Byt b := by
  by_cases ho : l.length % 2 = 0
  · by_cases hb : ∀ c ∈ l, dv c ≠ -1
    · rw [unhex_yes l (l.length / 2) (by omega) hb] at h
      obtain rfl := Option.some.inj h
      refine ⟨by rw [pairs_len]; omega, fun x m => ?_⟩
      unfold pairs at m
      obtain ⟨k, hk, rfl⟩ := List.mem_map.mp m
      rw [List.mem_range] at hk
      have m1 : l.getD (2 * k) 0 ∈ l := by
        rw [List.getD_eq_getElem?_getD, List.getElem?_eq_getElem (by omega)]
        exact List.getElem_mem _
      have m2 : l.getD (2 * k + 1) 0 ∈ l := by
        rw [List.getD_eq_getElem?_getD, List.getElem?_eq_getElem (by omega)]
        exact List.getElem_mem _
      have h1 := dv_ge (hb _ m1)
      have h2 := dv_ge (hb _ m2)
      unfold dd
      omega
    · simp only [Classical.not_forall] at hb
      obtain ⟨c, hc, hd⟩ := hb
      rw [unhex_bad l c hc (Classical.not_not.mp hd)] at h
      cases h
  · rw [unhex_odd l ho] at h
    cases h
section
variable {P : Program} {w : World} {K : PySem.W.Frag} {mg : Str → Option Value} {base : Heap} {A : Ad}
def sp_digit_value : Sp := fun vs H Q _ => ∃ (n : Nat), vs = [.int n] ∧ Q (.int (dv n)) H
theorem ok_digit_value {f : Addr} {fd : FuncData} (Fn : Fun K "digit_value" "digit_value" s_digit_value f fd) (T : Txt K mg A) : FnOk P w K mg base CX0 1 f fd ["sign"] (sp_digit_value) := by
  refine Fn.ok sc_digit_value (fun vs H Q E h => ?_) (fun cdv Ar outer sh H vs Q E hr h => ?_)
  · obtain ⟨_, rfl, _⟩ := h
    rfl
  · have sc := sc_digit_value
    refine ⟨_, (pss_cons (ps_if (pt_chain op_le op_le pe_int (pv 0) pe_int) (pss_one (ps_ret (pe_op op_sub (pv 0) pe_int))) pss_nil)
      (pss_cons (ps_if (pt_chain op_le op_le pe_int (pv 0) pe_int) (pss_one (ps_ret (pe_op op_sub (pv 0) pe_int))) pss_nil)
      (pss_one (ps_ret (pe_gi (by rfl) T.g_NO_DIGIT))))), ?_⟩
    obtain ⟨n, rfl, q⟩ := h
    unfold dv at q
    refine ⟨_, rfl, _, _, rfl, rfl, chain_le (ifb (fun b1 => ?_) (fun b1 => ?_))⟩
    · simp at b1
      rw [if_pos (by omega)] at q
      exact ⟨_, rfl, _, _, rfl, rfl, q⟩
    · simp at b1
      rw [if_neg (by omega)] at q
      refine ⟨_, rfl, _, _, rfl, rfl, chain_le (ifb (fun b2 => ?_) (fun b2 => ?_))⟩
      · simp at b2
        rw [if_pos (by omega)] at q
        exact ⟨_, rfl, _, _, rfl, rfl, q⟩
      · simp at b2
        rw [if_neg (by omega)] at q
        exact q
def sp_digit_sign : Sp := fun vs H Q _ => ∃ (n : Nat), vs = [.int n] ∧ Q (.int (Sg46.hexDigit n : Nat)) H
theorem ok_digit_sign {f : Addr} {fd : FuncData} (Fn : Fun K "digit_sign" "digit_sign" s_digit_sign f fd) (T : Txt K mg A) : FnOk P w K mg base CX0 1 f fd ["value"] (sp_digit_sign) := by
  refine Fn.ok sc_digit_sign (fun vs H Q E h => ?_) (fun cdv Ar outer sh H vs Q E hr h => ?_)
  · obtain ⟨_, rfl, _⟩ := h
    rfl
  · have sc := sc_digit_sign
    refine ⟨_, (pss_one (ps_ret (pe_ifExp (pt_cmpR op_lt (pv 0) pe_int (nomark _)) (pe_op op_add (pv 0) pe_int) (pe_op op_add (pv 0) pe_int)))), ?_⟩
    obtain ⟨n, rfl, q⟩ := h
    unfold Sg46.hexDigit at q
    refine ⟨_, rfl, _, _, rfl, rfl, _, rfl, ifb (fun b1 => ?_) (fun b1 => ?_)⟩
    · simp at b1
      rw [if_pos (by omega)] at q
      refine ⟨_, rfl, _, _, rfl, rfl, ?_⟩
      show Q (.int ((n : Int) + 48)) H
      rw [show (n : Int) + 48 = ((48 + n : Nat) : Int) by omega]
      exact q
    · simp at b1
      rw [if_neg (by omega)] at q
      refine ⟨_, rfl, _, _, rfl, rfl, ?_⟩
      show Q (.int ((n : Int) + 55)) H
      rw [show (n : Int) + 55 = ((55 + n : Nat) : Int) by omega]
      exact q
/-! ### ascii_frame -/
theorem hex_app (a b : List Nat) : Sg46.hex (a ++ b) = Sg46.hex a ++ Sg46.hex b := List.flatMap_append
theorem hex_len (a : List Nat) : (Sg46.hex a).length = 2 * a.length := by
  induction a with
  | nil => rfl
  | cons x r ih =>
    show ([_, _] ++ Sg46.hex r).length = 2 * (r.length + 1)
    rw [List.length_append, ih]
    show 2 + 2 * r.length = _
    omega
def sp_ascii_frame : Sp := fun vs H Q _ => ∃ (a : Addr) (l : List Nat), vs = [.ref a] ∧ H a = some (.lst (nv l)) ∧ l.length ≤ 1000 ∧ NewL H Q (nv (Sg46.lined l))
theorem ok_ascii_frame {f : Addr} {fd : FuncData} (Fn : Fun K "ascii_frame" "ascii_frame" s_ascii_frame f fd) (T : Txt K mg A) (c_lrc : C8.Cal P w K mg base 1 "lrc" (sp_lrc K) []) (c_digit_sign : C8.Cal P w K mg base 1 "digit_sign" sp_digit_sign []) : FnOk P w K mg base CX0 2 f fd ["row"] (sp_ascii_frame) := by
  refine Fn.ok sc_ascii_frame (fun vs H Q E h => ?_) (fun cdv Ar outer sh H vs Q E hr h => ?_)
  · obtain ⟨_, _, rfl, _⟩ := h
    rfl
  · have sc := sc_ascii_frame
    refine ⟨_, (pss_cons (ps_set (i := 1) sc.nd rfl (Or.inl rfl) (pe_lst (pa_cons (pe_gi (by rfl) T.g_COLON) pa_nil)))
      (pss_cons (ps_for PassesOwn.never rfl (pi_list (pe_op op_cat (pv 0) (pe_lst (pa_cons (C8.pe_c c_lrc hr (by decide) (by rfl) (pa_cons (pv 0) pa_nil)) pa_nil)))) (pg_name (i := 2) sc.nd rfl (Or.inl rfl)) (pss_cons (ps_expr (pe_bm PySem.F.plainAttrs_list PySem.F.slot_list_append PySem.F.type_list_append mt_append (pv 1) (pa_cons (C8.pe_c c_digit_sign hr (by decide) (by rfl) (pa_cons (pe_op op_fdiv (pv 2) pe_int) pa_nil)) pa_nil)))
      (pss_one (ps_expr (pe_bm PySem.F.plainAttrs_list PySem.F.slot_list_append PySem.F.type_list_append mt_append (pv 1) (pa_cons (C8.pe_c c_digit_sign hr (by decide) (by rfl) (pa_cons (pe_op op_mod (pv 2) pe_int) pa_nil)) pa_nil))))))
      (pss_one (ps_ret (pe_op op_cat (pv 1) (pe_callTy call_list_of (by rfl) T.b_list (by decide +kernel) (pa_cons (pe_gr (by rfl) T.g_LINE_END) pa_nil))))))), ?_⟩
    obtain ⟨a, l, rfl, hs, hl, g⟩ := h
    refine ⟨by show 1 ≤ sizeLine; decide, fun p np => ?_⟩
    have e1 := same_upd (o := .lst (nv [58])) np
    refine ⟨_, rfl, _, rfl, a, l, rfl, e1.seq (SqL.of hs), by show 1 ≤ sizeLine; decide, fun o no => ?_⟩
    have e2 := same_upd (o := .lst (nv [Sg46.lrc l])) no
    have e12 := e1.trans e2
    refine ⟨a, o, _, _, rfl, rfl, e12 _ _ hs, upd_same, sz (by rw [nv_len]; show _ + 1 ≤ _; omega), fun r nr => ?_⟩
    have hx : nv l ++ [V.int (Sg46.lrc l : Nat)] = nv (l ++ [Sg46.lrc l]) := by rw [nv_app]; rfl
    rw [hx]
    have e3 := same_upd (o := .lst (nv (l ++ [Sg46.lrc l]))) nr
    have e13 := e12.trans e3
    have hp3 := (e2.trans e3) p _ upd_same
    have pr : p ≠ r := ne_of_none (e2 p _ upd_same) nr
    refine ⟨r, rfl, ⟨_, SqL.of upd_same⟩, for_list (K := K) (a := r) (xs := nv (l ++ [Sg46.lrc l])) (fun i σ H' => ∃ v : Option V, σ = [some (.ref a), some (.ref p), v] ∧ Same H H' ∧ H' r = some (.lst (nv (l ++ [Sg46.lrc l]))) ∧ H' p = some (.lst (nv (58 :: Sg46.hex ((l ++ [Sg46.lrc l]).take i)))))
      ⟨none, rfl, e13, upd_same, hp3⟩ (fun i σ H' _ ⟨_, _, _, z, _⟩ => SqL.of z) ?_ ?_⟩
    · rintro i y σ H' hi ⟨v, rfl, e, hr2, hp⟩
      obtain ⟨n, hn, rfl⟩ := nv_one hi
      have hlen : ((l ++ [Sg46.lrc l]).take i).length ≤ 1001 := by
        rw [List.length_take, List.length_append]
        show min i (l.length + 1) ≤ 1001
        omega
      refine ⟨_, rfl, .inl ⟨rfl, _, SqL.of hp⟩, _, rfl, _, _, rfl, rfl, ⟨by decide, by decide⟩, n / 16, rfl, p, _, _, rfl, rfl, hp, szlt (by rw [nv_len]; show (Sg46.hex _).length + 1 ≤ _; rw [hex_len]; omega), ?_⟩
      refine ⟨_, rfl, .inl ⟨rfl, _, SqL.of upd_same⟩, _, rfl, _, _, rfl, rfl, (by show (0 : Int) < 16; decide), n % 16, rfl, p, _, _, rfl, rfl, upd_same, szlt (by rw [List.length_append, nv_len]; show (Sg46.hex _).length + 1 + 1 ≤ _; rw [hex_len]; omega), ?_⟩
      refine ⟨some (.int n), rfl, fun b u q => ?_, ?_, ?_⟩
      · rw [upd_ne (ne_of_none q np), upd_ne (ne_of_none q np)]
        exact e b u q
      · rw [upd_ne pr.symm, upd_ne pr.symm]
        exact hr2
      · rw [upd_same, take_more hn, hex_app]
        show _ = some (HO.lst (nv ((58 :: Sg46.hex _) ++ [Sg46.hexDigit (n / 16), Sg46.hexDigit (n % 16)])))
        rw [nv_app, List.append_assoc]
        rfl
    · rintro σ H' ⟨v, rfl, e, hr2, hp⟩
      rw [nv_len, List.take_length] at hp
      refine ⟨_, rfl, A.LINE_END, _, rfl, .inr (T.t_LINE_END _), fun z nz => ?_⟩
      have e4 := same_upd (o := .lst [V.int 13, V.int 10]) nz
      refine ⟨p, z, _, _, rfl, rfl, e4 _ _ hp, upd_same, sz (by rw [nv_len]; show (Sg46.hex _).length + 1 + 2 ≤ _; rw [hex_len, List.length_append]; show 2 * (l.length + 1) + 1 + 2 ≤ _; omega), fun q nq => ?_⟩
      have e5 := e.trans e4
      have hf : nv (58 :: Sg46.hex (l ++ [Sg46.lrc l])) ++ [V.int 13, V.int 10] = nv (Sg46.lined l) := by
        unfold Sg46.lined
        rw [nv_app]
        rfl
      rw [hf]
      exact g _ q (same_new e5 (e5.free nq)) (e5.free nq) upd_same
/-! ### bytes_of_digits -/
def sp_bytes_of_digits (K : PySem.W.Frag) : Sp := fun vs H Q _ => ∃ (a : Addr) (l : List Nat), vs = [.ref a] ∧ SqL K H a (nv l) ∧ l.length ≤ 1000 ∧ NewL H Q (nv ((Sg46.unhex l).getD []))
def dvs (l : List Nat) : List V := l.map fun (n : Nat) => V.int (dv n)
theorem dvs_app (a b : List Nat) : dvs (a ++ b) = dvs a ++ dvs b := List.map_append
theorem dvs_len (a : List Nat) : (dvs a).length = a.length := List.length_map _
theorem dvs_at {l : List Nat} {i : Nat} (h : i < l.length) : atI (dvs l) (i : Int) = some (V.int (dv (l.getD i 0))) := atI_nat (by simp [dvs, h])
theorem dvs_flat (l : List Nat) : (dvs l).all flatV = true := by
  unfold dvs
  rw [List.all_map]
  exact List.all_eq_true.mpr fun x _ => rfl
theorem dvs_in (l : List Nat) : inV (V.int (-1)) (dvs l) = l.any fun c => decide (dv c = -1) := by
  unfold inV dvs
  rw [List.any_map]
  congr 1
theorem ok_bytes_of_digits {f : Addr} {fd : FuncData} (Fn : Fun K "bytes_of_digits" "bytes_of_digits" s_bytes_of_digits f fd) (T : Txt K mg A) (c_digit_value : C8.Cal P w K mg base 1 "digit_value" sp_digit_value []) : FnOk P w K mg base CX0 2 f fd ["signs"] (sp_bytes_of_digits K) := by
  refine Fn.ok sc_bytes_of_digits (fun vs H Q E h => ?_) (fun cdv Ar outer sh H vs Q E hr h => ?_)
  · obtain ⟨_, _, rfl, _⟩ := h
    rfl
  · have sc := sc_bytes_of_digits
    refine ⟨_, (pss_cons (ps_set (i := 2) sc.nd rfl (Or.inr rfl) (pe_lc (own := [("sign", 1)]) (g := gName 1) rfl sc.nd (pi_list (pv 0)) (blkOk_by (own := [("sign", 1)]) (N := n_bytes_of_digits) (sc := defScope s_bytes_of_digits) (by decide +kernel)) (fun _ _ _ _ _ => (pg_name (i := 1) sc.nd rfl (Or.inl rfl))) (fun _ _ _ _ _ => pts_nil) (fun _ _ _ _ _ => (C8.pe_c c_digit_value hr (by decide) (by rfl) (pa_cons (pv 1) pa_nil)))))
      (pss_cons (ps_if (PW.pt (pw_or (pt_cmpR op_ne (pe_op op_mod (pe_callB call_len_seq (by rfl) T.b_len PySem.boot_len (pa_cons (pv 2) pa_nil)) pe_int) pe_int (nomark _)) (pw_or1 (pt_cmpR op_in_seq (pe_gi (by rfl) T.g_NO_DIGIT) (pv 2) (by rfl))))) (pss_one (ps_ret (pe_lst pa_nil))) pss_nil)
      (pss_one (ps_ret (pe_lc (own := [("k", 3)]) (g := gName 3) rfl sc.nd (pi_range3 (by rfl) T.b_range (pa_cons pe_int (pa_cons (pe_callB call_len_seq (by rfl) T.b_len PySem.boot_len (pa_cons (pv 2) pa_nil)) (pa_cons pe_int pa_nil)))) (blkOk_by (own := [("k", 3)]) (N := n_bytes_of_digits) (sc := defScope s_bytes_of_digits) (by decide +kernel)) (fun _ _ _ _ _ => (pg_name (i := 3) sc.nd rfl (Or.inl rfl))) (fun _ _ _ _ _ => pts_nil) (fun _ _ _ _ _ => (pe_op op_add (pe_op op_mul (pe_ix (r := rIxL K) ix_list (pv 2) (pv 3) (fun _ _ => rfl)) pe_int) (pe_ix (r := rIxL K) ix_list (pv 2) (pe_op op_add (pv 3) pe_int) (fun _ _ => rfl))))))))), ?_⟩
    obtain ⟨a, l, rfl, hs, hl, g⟩ := h
    refine ⟨_, rfl, a, rfl, ⟨_, hs⟩, fun L nL => ?_⟩
    refine lc_list (K := K) (a := a) (xs := nv l) (fun i H' => Same H H' ∧ H' L = some (.lst (dvs (l.take i)))) ⟨same_upd nL, upd_same⟩ (fun i H' _ z => z.1.seq hs) ?_ ?_
    · rintro i y H1 hi ⟨e, hL⟩
      obtain ⟨n, hn, rfl⟩ := nv_one hi
      refine ⟨rfl, ?_⟩
      refine ⟨_, rfl, n, rfl, _, hL, szlt (by rw [dvs_len, List.length_take]; omega), same_new e nL, ?_⟩
      rw [upd_same, take_more hn, dvs_app]
      rfl
    · rintro H1 ⟨e1, hL⟩
      rw [nv_len, List.take_length] at hL
      refine ⟨_, rfl, L, _, rfl, .inl (SqL.of hL), _, _, rfl, rfl, (by show (0 : Int) < 2; decide), rfl, _, rfl, ifb (fun b1 => ?_) (fun b1 => ?_)⟩
      · rw [dvs_len] at b1
        simp at b1
        have hu : Sg46.unhex l = none := unhex_odd l (by omega)
        rw [hu] at g
        exact ⟨Nat.zero_le _, fun p np => g _ p (same_new e1 (e1.free np)) (e1.free np) upd_same⟩
      · rw [dvs_len] at b1
        simp at b1
        refine ⟨_, rfl, L, _, rfl, .inl (SqL.of hL), rfl, dvs_flat l, _, rfl, ?_⟩
        show (if inV (V.int (-1)) (dvs l) = true then _ else _)
        rw [dvs_in]
        refine ifb (fun b2 => ?_) (fun b2 => ?_)
        · obtain ⟨c, hc, hd⟩ := List.any_eq_true.mp b2
          have hu : Sg46.unhex l = none := unhex_bad l c hc (of_decide_eq_true hd)
          rw [hu] at g
          exact ⟨Nat.zero_le _, fun p np => g _ p (same_new e1 (e1.free np)) (e1.free np) upd_same⟩
        · have hall : ∀ c ∈ l, dv c ≠ -1 := fun c hc z => by
            have := List.any_eq_false.mp b2 c hc
            exact this (decide_eq_true z)
          have hm : l.length = 2 * (l.length / 2) := by omega
          rw [unhex_yes l (l.length / 2) hm hall] at g
          refine ⟨_, rfl, L, _, rfl, .inl (SqL.of hL), 0, _, 2, l.length / 2, rfl, ?_, fun M nM => ?_⟩
          · rw [dvs_len]
            have := rg_two (n := l.length / 2) (by omega)
            rw [← hm] at this
            exact this
          · refine lc_it (walk_rangeC (lo := 0) (c := 2) (n := l.length / 2)) (fun i H' => Same H1 H' ∧ H' M = some (.lst (nv (pairs l i)))) ⟨same_upd nM, upd_same⟩ (fun _ _ _ _ => trivial) ?_ ?_
            · rintro i x H2 H3 hi ⟨e, hM⟩ ⟨rfl, rfl⟩
              refine ⟨rfl, ?_⟩
              have i1 : 2 * i < l.length := by omega
              have i2 : 2 * i + 1 < l.length := by omega
              have e0 : (0 : Int) + (i : Int) * 2 = ((2 * i : Nat) : Int) := by omega
              have v1 := dv_ge (hall (l.getD (2 * i) 0) (by rw [List.getD_eq_getElem?_getD, List.getElem?_eq_getElem i1]; exact List.getElem_mem _))
              have v2 := dv_ge (hall (l.getD (2 * i + 1) 0) (by rw [List.getD_eq_getElem?_getD, List.getElem?_eq_getElem i2]; exact List.getElem_mem _))
              have hLs := e.seq (K := K) (SqL.of hL)
              refine ⟨_, rfl, _, rfl, L, _, ((2 * i : Nat) : Int), _, rfl, ?_, hLs, dvs_at i1, _, _, rfl, rfl, .inr ⟨by decide, by decide⟩, _, rfl, _, rfl, _, _, rfl, rfl, L, _, ((2 * i + 1 : Nat) : Int), _, rfl, ?_, hLs, dvs_at i2, _, _, rfl, rfl, ?_⟩
              · show V.int ((0 : Int) + (i : Int) * 2) = _
                rw [e0]
              · show V.int ((0 : Int) + (i : Int) * 2 + 1) = _
                rw [e0]
                rfl
              · refine ⟨_, hM, szlt (by rw [nv_len, pairs_len]; omega), same_new e nM, ?_⟩
                rw [upd_same, pairs_more, nv_app]
                have ev : dv (l.getD (2 * i) 0) * 16 + dv (l.getD (2 * i + 1) 0) = ((dd (l.getD (2 * i) 0) * 16 + dd (l.getD (2 * i + 1) 0) : Nat) : Int) := by
                  unfold dd
                  omega
                show some (HO.lst (nv (pairs l i) ++ [V.int (dv (l.getD (2 * i) 0) * 16 + dv (l.getD (2 * i + 1) 0))])) = _
                rw [ev]
                rfl
            · rintro H2 ⟨e, hM⟩
              exact g H2 M (e1.trans e) (e1.free nM) hM
/-! ### bytes_of_line -/
def lineOf (t : List Nat) : Option (List Nat) := if t.headD 0 = 58 ∧ t.drop (t.length - 2) = [13, 10] ∧ 3 ≤ t.length then Sg46.unhex ((t.drop 1).take (t.length - 3)) else none
theorem take_one (t : List Nat) : t.take 1 = [58] ↔ t.headD 0 = 58 := by
  cases t with
  | nil => simp
  | cons x r => simp
def sp_bytes_of_line (K : PySem.W.Frag) : Sp := fun vs H Q _ => ∃ (a : Addr) (t : List Nat), vs = [.ref a] ∧ SqL K H a (nv t) ∧ t.length ≤ 1000 ∧ NewL H Q (nv ((lineOf t).getD []))
theorem ok_bytes_of_line {f : Addr} {fd : FuncData} (Fn : Fun K "bytes_of_line" "bytes_of_line" s_bytes_of_line f fd) (T : Txt K mg A) (c_bytes_of_digits : C8.Cal P w K mg base 2 "bytes_of_digits" (sp_bytes_of_digits K) []) : FnOk P w K mg base CX0 3 f fd ["signs"] (sp_bytes_of_line K) := by
  refine Fn.ok sc_bytes_of_line (fun vs H Q E h => ?_) (fun cdv Ar outer sh H vs Q E hr h => ?_)
  · obtain ⟨_, _, rfl, _⟩ := h
    rfl
  · have sc := sc_bytes_of_line
    refine ⟨_, (pss_cons (ps_if (PW.pt (pw_or (pt_cmpR (op_neD hr.units) (pe_slice sl_list (pv 0) po_none (po_some pe_int)) (pe_lst (pa_cons (pe_gi (by rfl) T.g_COLON) pa_nil)) (nomark _)) (pw_or1 (pt_cmpR (op_neD hr.units) (pe_slice sl_list (pv 0) (po_some (pe_un un_neg pe_int)) po_none) (pe_callTy call_list_of (by rfl) T.b_list (by decide +kernel) (pa_cons (pe_gr (by rfl) T.g_LINE_END) pa_nil)) (nomark _))))) (pss_one (ps_ret (pe_lst pa_nil))) pss_nil)
      (pss_one (ps_ret (C8.pe_c c_bytes_of_digits hr (by decide) (by rfl) (pa_cons (pe_slice sl_list (pv 0) (po_some pe_int) (po_some (pe_un un_neg pe_int))) pa_nil))))), ?_⟩
    obtain ⟨a, t, rfl, hs, hl, g⟩ := h
    have c1 : cutV (nv t) none (some 1) = nv (t.take 1) := cut_t (j := 1) t
    have c2 : cutV (nv t) (some (-2)) none = nv (t.drop (t.length - 2)) := cut_fb t 2 (by decide)
    have c3 : cutV (nv t) (some 1) (some (-2)) = nv ((t.take (t.length - 2)).drop 1) := cut_ib t 1 2 (by decide)
    refine ⟨_, rfl, _, rfl, a, _, rfl, hs, fun p1 n1 => ?_⟩
    rw [c1]
    have e1 := same_upd (o := .lst (nv (t.take 1))) n1
    refine ⟨by show 1 ≤ sizeLine; decide, fun p2 n2 => ?_⟩
    have e2 := same_upd (o := .lst (nv [58])) n2
    have e12 := e1.trans e2
    refine ⟨_, _, dp_nv (SqL.of (e2 _ _ upd_same)), dp_nv (l := [58]) (SqL.of upd_same), dn_shaped _, dn_shaped _, _, rfl, ?_⟩
    rw [dn_eqv]
    refine ifb (fun b1 => ?_) (fun b1 => ?_)
    · simp only [Bool.not_eq_true', decide_eq_false_iff_not] at b1
      have hn : lineOf t = none := if_neg (fun z => b1 ((take_one t).mpr z.1))
      rw [hn] at g
      exact ⟨Nat.zero_le _, fun p np => g _ p (same_new e12 (e12.free np)) (e12.free np) upd_same⟩
    · simp only [Bool.not_eq_false', decide_eq_true_eq] at b1
      have h58 := (take_one t).mp b1
      refine ⟨_, rfl, _, rfl, _, rfl, a, _, rfl, e12.seq hs, fun p3 n3 => ?_⟩
      rw [c2]
      have e3 := same_upd (o := .lst (nv (t.drop (t.length - 2)))) n3
      refine ⟨A.LINE_END, _, rfl, .inr (T.t_LINE_END _), fun p4 n4 => ?_⟩
      have e4 := same_upd (o := .lst (nv [13, 10])) n4
      have e14 := (e12.trans e3).trans e4
      refine ⟨_, _, dp_nv (SqL.of (e4 _ _ upd_same)), dp_nv (l := [13, 10]) (SqL.of upd_same), dn_shaped _, dn_shaped _, _, rfl, ?_⟩
      rw [dn_eqv]
      refine ifb (fun b2 => ?_) (fun b2 => ?_)
      · simp only [Bool.not_eq_true', decide_eq_false_iff_not] at b2
        have hn : lineOf t = none := if_neg (fun z => b2 z.2.1)
        rw [hn] at g
        exact ⟨Nat.zero_le _, fun p np => g _ p (same_new e14 (e14.free np)) (e14.free np) upd_same⟩
      · simp only [Bool.not_eq_false', decide_eq_true_eq] at b2
        have h3 : 3 ≤ t.length := by
          match t, h58, b2 with
          | [x], h58, b2 => simp at b2
          | [x, y], h58, b2 =>
            simp at b2 h58
            omega
          | x :: y :: z :: r, _, _ => simp
        have hy : lineOf t = Sg46.unhex ((t.take (t.length - 2)).drop 1) := by
          unfold lineOf
          rw [if_pos ⟨h58, b2, h3⟩, List.drop_take]
          congr 2
        rw [hy] at g
        refine ⟨_, rfl, _, rfl, _, rfl, _, rfl, a, _, rfl, e14.seq hs, fun p5 n5 => ?_⟩
        rw [c3]
        have e5 := same_upd (o := .lst (nv ((t.take (t.length - 2)).drop 1))) n5
        have e15 := e14.trans e5
        refine ⟨p5, _, rfl, SqL.of upd_same, by rw [List.length_drop, List.length_take]; omega, fun H' p e np hp => g H' p (e15.trans e) (e15.free np) hp⟩
/-! ### answer_ascii -/
theorem nv_last {b : List Nat} (h : 0 < b.length) : atI (nv b) (-1) = some (V.int ((b.getD (b.length - 1) 0 : Nat) : Int)) := by
  unfold atI ixN
  rw [if_neg (by decide), nv_len, if_pos (by omega)]
  show (nv b)[((-1 : Int) + (b.length : Int)).toNat]? = _
  rw [show ((-1 : Int) + (b.length : Int)).toNat = b.length - 1 by omega]
  exact nv_get (by omega)
def isLine (b : List Nat) : Bool := decide (3 ≤ b.length) && decide (b.getD (b.length - 1) 0 = Sg46.lrc (b.take (b.length - 1)))
theorem last_split {b : List Nat} (h : 0 < b.length) : b.take (b.length - 1) ++ [b.getD (b.length - 1) 0] = b := by
  have e : b[b.length - 1]? = some (b.getD (b.length - 1) 0) := by
    rw [List.getD_eq_getElem?_getD, List.getElem?_eq_getElem (by omega)]
    rfl
  rw [← take_more e, show b.length - 1 + 1 = b.length by omega, List.take_length]
theorem isLine_iff (b : List Nat) : (3 ≤ b.length ∧ b.take (b.length - 1) ++ [Sg46.lrc (b.take (b.length - 1))] = b) ↔ isLine b = true := by
  unfold isLine
  rw [Bool.and_eq_true, decide_eq_true_eq, decide_eq_true_eq]
  constructor
  · rintro ⟨h1, h2⟩
    refine ⟨h1, ?_⟩
    have h3 : b.take (b.length - 1) ++ [Sg46.lrc (b.take (b.length - 1))] = b.take (b.length - 1) ++ [b.getD (b.length - 1) 0] := h2.trans (last_split (by omega)).symm
    have h4 := List.append_cancel_left h3
    exact (List.cons.inj h4).1.symm
  · rintro ⟨h1, h2⟩
    refine ⟨h1, ?_⟩
    rw [← h2]
    exact last_split (by omega)
def sp_answer_ascii (A : Ad) : Sp := fun vs H Q _ => ∃ (d r : Addr) (q : List Nat) (s : Sg46.Dev) (F : List Addr), vs = [.ref d, .ref r] ∧ DevAt A.C H d s F ∧ Own H F r (nv q) ∧ DevOk s ∧ q.length ≤ 513 ∧
  ∀ H' F' p, Step H H' F F' → DevAt A.C H' d (Sg46.lineIn s q).2 F' → H p = none → p ∉ F' → H' p = some (.lst (nv (Sg46.lineIn s q).1)) → Q (.ref p) H'
theorem lineIn_eq (s : Sg46.Dev) (q : List Nat) : Sg46.lineIn s q = match lineOf q with
    | none => ([], s.more 1)
    | some b => if 3 ≤ b.length ∧ b.take (b.length - 1) ++ [Sg46.lrc (b.take (b.length - 1))] = b ∧ (b.take (b.length - 1)).length ≤ 254 then
        (((Sg46.frame s ((b.take (b.length - 1)).headD 0) ((b.take (b.length - 1)).drop 1)).1.map Sg46.lined).getD [], (Sg46.frame s ((b.take (b.length - 1)).headD 0) ((b.take (b.length - 1)).drop 1)).2)
      else ([], s.more 1) := rfl
theorem ok_answer_ascii {f : Addr} {fd : FuncData} (Fn : Fun K "answer_ascii" "answer_ascii" s_answer_ascii f fd) (T : Txt K mg A) (c_bytes_of_line : C8.Cal P w K mg base 3 "bytes_of_line" (sp_bytes_of_line K) []) (c_lrc : C8.Cal P w K mg base 1 "lrc" (sp_lrc K) []) (c_tally : C8.Met P w K mg base 1 A.C "tally" (sp_tally A) []) (c_take_request : C8.Cal P w K mg base 6 "take_request" (sp_take_request A) []) (c_ascii_frame : C8.Cal P w K mg base 2 "ascii_frame" sp_ascii_frame []) : FnOk P w K mg base CX0 7 f fd ["device", "signs"] (sp_answer_ascii A) := by
  refine Fn.ok sc_answer_ascii (fun vs H Q E h => ?_) (fun cdv Ar outer sh H vs Q E hr h => ?_)
  · obtain ⟨_, _, _, _, _, rfl, _⟩ := h
    rfl
  · have sc := sc_answer_ascii
    refine ⟨_, (pss_cons (ps_set (i := 2) sc.nd rfl (Or.inl rfl) (C8.pe_c c_bytes_of_line hr (by decide) (by rfl) (pa_cons (pv 1) pa_nil)))
      (pss_cons (ps_if (PW.pt (pw_or (pt_cmpR op_lt (pe_callB call_len_seq (by rfl) T.b_len PySem.boot_len (pa_cons (pv 2) pa_nil)) pe_int (nomark _)) (pw_or1 (pt_cmpR op_ne (pe_ix ix_list (pv 2) (pe_un un_neg pe_int) (fun _ _ => rfl)) (C8.pe_c c_lrc hr (by decide) (by rfl) (pa_cons (pe_slice sl_list (pv 2) po_none (po_some (pe_un un_neg pe_int))) pa_nil)) (nomark _))))) (pss_cons (ps_expr (C8.pe_mt c_tally hr (by decide) (pv 0) (pa_cons (pe_gi (by rfl) T.g_FRAMES_WRONG) pa_nil)))
      (pss_one (ps_ret (pe_lst pa_nil)))) pss_nil)
      (pss_cons (ps_set (i := 3) sc.nd rfl (Or.inl rfl) (C8.pe_c c_take_request hr (by decide) (by rfl) (pa_cons (pv 0) (pa_cons (pe_ix ix_list (pv 2) pe_int (fun _ _ => rfl)) (pa_cons (pe_slice sl_list (pv 2) (po_some pe_int) (po_some (pe_un un_neg pe_int))) pa_nil)))))
      (pss_cons (ps_if (pt_cmpR (op_eqD hr.units) (pv 3) (pe_lst pa_nil) (nomark _)) (pss_one (ps_ret (pe_lst pa_nil))) pss_nil)
      (pss_one (ps_ret (C8.pe_c c_ascii_frame hr (by decide) (by rfl) (pa_cons (pe_op op_cat (pe_lst (pa_cons (pe_ix ix_list (pv 2) pe_int (fun _ _ => rfl)) pa_nil)) (pv 3)) pa_nil)))))))), ?_⟩
    obtain ⟨d, r, q, s, F, rfl, D, O, ok, hl, g⟩ := h
    refine ⟨_, rfl, r, q, rfl, O.sq, by omega, fun H1 p1 e1 n1 hp1 => ?_⟩
    have wrong : ∀ H2 : Hp, Same H H2 → isLine ((lineOf q).getD []) = false → ∀ (D0 : Ends) (σ : L2.St), D0.rt = Q → σ[0]? = some (some (.ref d)) → tSeq (tDrop (tMeth A.C "tally" (sp_tally A) [] C8.E0 (tVar 0) (tCons (tC (.int 1)) tNil))) (tRet (tLst tNil)) D0 σ H2 := fun H2 e2 hw D0 σ hD hσ => by
      have hin : Sg46.lineIn s q = ([], s.more 1) := by
        rw [lineIn_eq]
        cases z : lineOf q with
        | none => rfl
        | some b =>
          rw [z] at hw
          have hw : isLine b = false := hw
          dsimp only
          exact if_neg (fun y => by rw [(isLine_iff b).mp ⟨y.1, y.2.1⟩] at hw; cases hw)
      rw [hin] at g
      obtain ⟨dx, ta, c, hi⟩ := (D.same e2).ins
      refine ⟨_, hσ, d, dx, _, rfl, hi, no_tally _ _ _, d, 1, s, F, rfl, D.same e2, by rw [ok.cl]; decide, fun H3 st D3 => ⟨Nat.zero_le _, fun p np => ?_⟩⟩
      have st2 := (Step.of_same (F := F) e2).trans st
      have e4 := same_upd (o := .lst (nv [])) np
      rw [hD]
      exact g _ F p (st2.trans (.of_same e4)) (D3.same e4) (st2.free np) (D3.fresh np) upd_same
    generalize hb : (lineOf q).getD [] = b at *
    refine ⟨_, rfl, p1, _, rfl, .inl (SqL.of hp1), _, _, rfl, rfl, _, rfl, ifb (fun b1 => ?_) (fun b1 => ?_)⟩
    · simp [nv_len] at b1
      refine iteT (wrong H1 e1 ?_ _ _ rfl rfl)
      unfold isLine
      rw [decide_eq_false (by omega)]
      rfl
    · simp [nv_len] at b1
      have hsome : lineOf q = some b := by
        cases z : lineOf q with
        | none =>
          rw [z] at hb
          rw [← hb] at b1
          simp at b1
        | some b' =>
          rw [z] at hb
          exact congrArg some hb
      have hub : q.length - 3 = 2 * b.length ∧ Byt b := by
        unfold lineOf at hsome
        split at hsome
        · rename_i z
          obtain ⟨h1, h2⟩ := unhex_len hsome
          refine ⟨?_, h2⟩
          rw [← h1, List.length_take, List.length_drop]
          omega
        · cases hsome
      obtain ⟨hbl, hbb⟩ := hub
      have c1 : cutV (nv b) none (some (-1)) = nv (b.take (b.length - 1)) := cut_tb b 1 (by decide)
      have c2 : cutV (nv b) (some 1) (some (-1)) = nv ((b.take (b.length - 1)).drop 1) := cut_ib b 1 1 (by decide)
      refine ⟨_, rfl, _, rfl, p1, _, _, _, rfl, rfl, SqL.of hp1, nv_last (by omega), _, rfl, _, rfl, _, rfl, p1, _, rfl, SqL.of hp1, fun p2 n2 => ?_⟩
      rw [c1]
      have e2 := same_upd (o := .lst (nv (b.take (b.length - 1)))) n2
      have e12 := e1.trans e2
      have hp12 := e2 _ _ hp1
      refine ⟨p2, _, rfl, SqL.of upd_same, rfl, _, rfl, ifb (fun b2 => ?_) (fun b2 => ?_)⟩
      · simp [-List.getD_eq_getElem?_getD] at b2
        refine wrong _ e12 ?_ _ _ rfl rfl
        unfold isLine
        rw [decide_eq_false (show ¬ b.getD (b.length - 1) 0 = _ by omega), Bool.and_false]
      · simp [-List.getD_eq_getElem?_getD] at b2
        have hline : isLine b = true := by
          unfold isLine
          rw [decide_eq_true (show 3 ≤ b.length by omega), decide_eq_true (show b.getD (b.length - 1) 0 = _ by omega)]
          rfl
        obtain ⟨h3, hsum⟩ := (isLine_iff b).mpr hline
        have hin : Sg46.lineIn s q = (((Sg46.frame s ((b.take (b.length - 1)).headD 0) ((b.take (b.length - 1)).drop 1)).1.map Sg46.lined).getD [], (Sg46.frame s ((b.take (b.length - 1)).headD 0) ((b.take (b.length - 1)).drop 1)).2) := by
          rw [lineIn_eq, hsome]
          exact if_pos ⟨h3, hsum, by rw [List.length_take]; omega⟩
        have hh : (b.take (b.length - 1)).headD 0 = b.getD 0 0 := by
          rw [headD_getD, getD_take, if_pos (by omega)]
        rw [hin, hh] at g
        generalize hbody : (b.take (b.length - 1)).drop 1 = bd at *
        have hbdl : bd.length = b.length - 2 := by
          rw [← hbody, List.length_drop, List.length_take]
          omega
        have hbdb : Byt bd := by rw [← hbody]; exact byt_drop (byt_take hbb _) _
        refine ⟨_, rfl, _, rfl, p1, _, _, _, rfl, rfl, SqL.of hp12, (nv_at (i := 0) (by omega)), _, rfl, _, rfl, _, rfl, _, rfl, p1, _, rfl, SqL.of hp12, fun p3 n3 => ?_⟩
        rw [c2]
        have e3 := same_upd (o := .lst (nv bd)) n3
        have e13 := e12.trans e3
        have hp13 := e3 _ _ hp12
        obtain ⟨fl, fok, fsh⟩ := frame_len (s := s) (u := b.getD 0 0) ok hbdb (by omega)
        refine ⟨d, b.getD 0 0, p3, bd, s, F, rfl, D.same e13, ⟨.inl upd_same, (D.same e12).fresh n3⟩, ok, hbdb, by omega, by omega, fun H4 F4 p4 st4 D4 n4 a4 hp4 => ?_⟩
        have st14 := (Step.of_same (F := F) e13).trans st4
        have O1 : Own H4 F4 p1 (nv b) := Own.step ⟨.inl hp13, D.fresh n1⟩ st4
        refine ⟨_, rfl, by show 0 ≤ sizeLine; decide, fun o no => ?_⟩
        have e5 := same_upd (o := .lst (nv [])) no
        refine ⟨_, _, dp_nv (SqL.of (e5 _ _ hp4)), dp_nv (l := []) (SqL.of upd_same), dn_shaped _, dn_shaped _, _, rfl, ?_⟩
        rw [dn_eqv]
        generalize hfr : Sg46.frame s (b.getD 0 0) bd = fr at *
        have st15 := st14.trans (Step.of_same (F := F4) e5)
        refine ifb (fun b3 => ?_) (fun b3 => ?_)
        · simp at b3
          have hn : fr.1 = none := by
            rcases fsh with z | ⟨l, z, zl⟩
            · exact z
            · rw [z] at b3
              have : l = [] := b3
              rw [this] at zl
              simp at zl
          rw [hn] at g
          refine ⟨Nat.zero_le _, fun p np => ?_⟩
          have e6 := same_upd (o := .lst (nv [])) np
          exact g _ F4 p (st15.trans (.of_same e6)) ((D4.same e5).same e6) (st15.free np) ((D4.same e5).fresh np) upd_same
        · simp at b3
          obtain ⟨l, hx⟩ : ∃ l, fr.1 = some (b.getD 0 0 :: l) := by
            rcases fsh with z | ⟨l, z, _⟩
            · rw [z] at b3
              exact absurd rfl b3
            · exact ⟨l, z⟩
          rw [hx] at g hp4 fl
          have hp5 := e5 _ _ hp4
          have hfl : l.length ≤ 300 := fl
          refine ⟨_, rfl, p1, _, _, _, rfl, rfl, (O1.same e5).sq, (nv_at (i := 0) (by omega)), by show 1 ≤ sizeLine; decide, fun o2 no2 => ?_⟩
          have e6 := same_upd (o := .lst [V.int ((b.getD 0 0 : Nat) : Int)]) no2
          refine ⟨_, rfl, o2, p4, _, _, rfl, rfl, upd_same, e6 _ _ hp5, sz ?_, fun p6 n6 => ?_⟩
          · rw [nv_len]
            show 1 + l.length ≤ _
            omega
          have e7 := same_upd (o := .lst ([V.int ((b.getD 0 0 : Nat) : Int)] ++ nv (took (some (b.getD 0 0 :: l))))) n6
          have st17 := (st15.trans (.of_same e6)).trans (.of_same e7)
          have D7 := ((D4.same e5).same e6).same e7
          refine ⟨p6, b.getD 0 0 :: l, rfl, upd_same, ?_, fun H8 p8 e8 n8 hp8 => ?_⟩
          · show l.length + 1 ≤ 1000
            omega
          · exact g H8 F4 p8 (st17.trans (.of_same e8)) (D7.same e8) (st17.free n8) (D7.fresh n8) hp8
end
end Bd

set_option Elab.async false
set_option linter.all false
set_option maxRecDepth 100000
set_option maxHeartbeats 2000000
namespace Bd
open PySem PySem.Spec PyProof.Rows L2
/-! ### one call -/
def iv (l : List Int) : List V := l.map V.int
theorem iv_len (l : List Int) : (iv l).length = l.length := List.length_map _
theorem iv_app (a b : List Int) : iv (a ++ b) = iv a ++ iv b := List.map_append
theorem iv_at {l : List Int} {i : Nat} (h : i < l.length) : atI (iv l) (i : Int) = some (V.int (l.getD i 0)) := atI_nat (by simp [iv, h])
def ofN (l : List Nat) : List Int := l.map fun (n : Nat) => (n : Int)
theorem nv_iv (l : List Nat) : nv l = iv (ofN l) := nv_ints l
theorem ofN_ints (l : List Nat) : ofN l = Sg46Neutral.ints l := rfl
theorem nats_ofN (l : List Nat) : Sg46Neutral.nats (ofN l) = l := by
  unfold Sg46Neutral.nats ofN
  rw [List.map_map]
  have : (Int.toNat ∘ fun (n : Nat) => (n : Int)) = id := by
    funext n
    exact Int.toNat_natCast n
  rw [this, List.map_id]
theorem ofN_len (l : List Nat) : (ofN l).length = l.length := List.length_map _
/-- a call as the specification has it -/
def callAt (p : Int) (ns : List Int) (rows : List (List Nat)) : List (List Int) := PySg46.whole ((p :: ns) :: rows.map ofN)
/-- what one call answers, and the device after it -/
def sp_call (A : Ad) (p : Int) (C : List Int → List (List Nat) → Prop) : Sp := fun vs H Q _ => ∃ (d nu ro : Addr) (ns : List Int) (rs : List Addr) (rows : List (List Nat)) (s : Sg46.Dev) (F : List Addr), vs = [.ref d, .ref nu, .ref ro] ∧
  DevAt A.C H d s F ∧ DevOk s ∧ Own H F nu (iv ns) ∧ Own H F ro (rs.map V.ref) ∧ rs.length = rows.length ∧ (∀ (i : Nat) (a : Addr) (l : List Nat), rs[i]? = some a → rows[i]? = some l → Own H F a (nv l)) ∧ C ns rows ∧
  ∀ H' F' q, Step H H' F F' → DevAt A.C H' d (Sg46Neutral.step s (callAt p ns rows)).1 F' → H q = none → q ∉ F' → H' q = some (.lst (iv (Sg46Neutral.step s (callAt p ns rows)).2)) → Q (.ref q) H'
section
variable {P : Program} {w : World} {K : PySem.W.Frag} {mg : Str → Option Value} {base : Heap} {A : Ad}
/-! ### begin, set, get -/
theorem no_begin (u t c : V) : (dF u t c).lookup ("begin" : Str) = none := dF_no (by decide +kernel) (by decide +kernel) (by decide +kernel) u t c
theorem no_set (u t c : V) : (dF u t c).lookup ("set_value" : Str) = none := dF_no (by decide +kernel) (by decide +kernel) (by decide +kernel) u t c
theorem cutI_f (l : List Int) {i : Nat} (hi : i ≤ l.length) : cutV (iv l) (some (i : Int)) none = iv (l.drop i) := by
  unfold cutV
  rw [HT.sIx_nat, HT.sIx_none, iv_len, Nat.min_eq_left hi]
  unfold iv
  rw [← List.map_drop, List.take_of_length_le (by rw [List.length_map, List.length_drop]; omega)]
theorem ok_call_begin {f : Addr} {fd : FuncData} (Fn : Fun K "call_begin" "call_begin" s_call_begin f fd) (T : Txt K mg A) (c_begin : C8.Met P w K mg base 2 A.C "begin" (sp_begin A) []) : FnOk P w K mg base CX0 3 f fd ["device", "numbers", "rows"] (sp_call A 0 (fun ns rows => ns.length = 5 ∧ rows = [])) := by
  refine Fn.ok sc_call_begin (fun vs H Q E h => ?_) (fun cdv Ar outer sh H vs Q E hr h => ?_)
  · obtain ⟨_, _, _, _, _, _, _, _, rfl, _⟩ := h
    rfl
  · have sc := sc_call_begin
    refine ⟨_, (pss_one (ps_ret (pe_lst (pa_cons (C8.pe_mt c_begin hr (by decide) (pv 0) (pa_cons (pe_ix ix_list (pv 1) pe_int (fun _ _ => rfl)) (pa_cons (pe_slice sl_list (pv 1) (po_some pe_int) po_none) pa_nil))) pa_nil)))), ?_⟩
    obtain ⟨d, nu, ro, ns, rs, rows, s, F, rfl, D, ok, On, Or, hlr, hrow, ⟨h5, h0⟩, g⟩ := h
    subst h0
    obtain ⟨u, n1, n2, n3, n4, rfl⟩ : ∃ u n1 n2 n3 n4, ns = [u, n1, n2, n3, n4] := by
      match ns, h5 with
      | [u, n1, n2, n3, n4], _ => exact ⟨u, n1, n2, n3, n4, rfl⟩
    obtain ⟨dx, ta, c, hi⟩ := D.ins
    refine ⟨_, rfl, d, dx, _, rfl, hi, no_begin _ _ _, _, rfl, nu, _, _, _, rfl, rfl, On.sq, (iv_at (i := 0) (by show 0 < 5; decide)), _, rfl, _, rfl, nu, _, rfl, On.sq, fun p1 n1' => ?_⟩
    have c1 : cutV (iv [u, n1, n2, n3, n4]) (some 1) none = iv [n1, n2, n3, n4] := cutI_f (i := 1) [u, n1, n2, n3, n4] (by show 1 ≤ 5; decide)
    rw [c1]
    have e1 := same_upd (o := .lst (iv [n1, n2, n3, n4])) n1'
    have stp : Sg46Neutral.step s (callAt 0 [u, n1, n2, n3, n4] []) = if Sg46.beginOk u n1 n2 n3 n4 = true then (Sg46.fresh u.toNat ([n1, n2, n3, n4].map Int.toNat), [0]) else (s, [-2]) := rfl
    have hok : okI u [n1, n2, n3, n4] = Sg46.beginOk u n1 n2 n3 n4 := rfl
    rw [stp] at g
    refine ⟨d, u, p1, [n1, n2, n3, n4], s, F, rfl, D.same e1, ⟨.inl upd_same, D.fresh n1'⟩, rfl, fun hb => ?_, fun hb H2 F2 st D2 => ?_⟩
    · rw [hok] at hb
      rw [hb, if_neg (by decide)] at g
      refine ⟨by show 1 ≤ sizeLine; decide, fun p np => ?_⟩
      have e2 := same_upd (o := .lst (iv [-2])) np
      exact g _ F p ((Step.of_same e1).trans (.of_same e2)) ((D.same e1).same e2) (e1.free np) ((D.same e1).fresh np) upd_same
    · rw [hok] at hb
      rw [hb, if_pos rfl] at g
      refine ⟨by show 1 ≤ sizeLine; decide, fun p np => ?_⟩
      have e2 := same_upd (o := .lst (iv [0])) np
      have st2 := (Step.of_same (F := F) e1).trans st
      exact g _ F2 p (st2.trans (.of_same e2)) (D2.same e2) (st2.free np) (D2.fresh np) upd_same
/-- a call that isn't begin -/
theorem step_of {s : Sg46.Dev} {c : List (List Int)} {q : Sg46.Call} {n : Int} {out : List Nat} {e : Sg46.Dev} (hc : Sg46Neutral.callOf c = some (.inr q)) (hd : Sg46.does s q = (⟨n, out⟩, e)) : Sg46Neutral.step s c = (e, n :: if n < 0 then [] else ofN out) := by
  unfold Sg46Neutral.step
  rw [hc]
  dsimp only
  rw [hd]
  rfl
theorem step_one {s : Sg46.Dev} {c : List (List Int)} {q : Sg46.Call} {n : Int} {e : Sg46.Dev} (hc : Sg46Neutral.callOf c = some (.inr q)) (hd : Sg46.does s q = (Sg46.says n, e)) : Sg46Neutral.step s c = (e, [n]) := by
  rw [step_of hc hd]
  split <;> rfl
theorem step_told {s : Sg46.Dev} {c : List (List Int)} {q : Sg46.Call} {b : List Nat} {e : Sg46.Dev} (hc : Sg46Neutral.callOf c = some (.inr q)) (hd : Sg46.does s q = (Sg46.told b, e)) : Sg46Neutral.step s c = (e, (b.length : Int) :: ofN b) := by
  rw [step_of hc hd, if_neg (by omega)]
theorem has_within (s : Sg46.Dev) (t i : Int) : hasI s t i 1 = (Sg46.within t 0 3 && Sg46.within i 0 ((s.size t.toNat : Int) - 1)) := by
  unfold hasI Sg46.within
  rw [Bool.eq_iff_iff]
  simp
  omega
theorem ok_call_get {f : Addr} {fd : FuncData} (Fn : Fun K "call_get" "call_get" s_call_get f fd) (T : Txt K mg A) (c_get_value : C8.Met P w K mg base 2 A.C "get_value" (sp_get_value A) []) : FnOk P w K mg base CX0 3 f fd ["device", "numbers", "rows"] (sp_call A 2 (fun ns rows => ns.length = 2 ∧ rows = [])) := by
  refine Fn.ok sc_call_get (fun vs H Q E h => ?_) (fun cdv Ar outer sh H vs Q E hr h => ?_)
  · obtain ⟨_, _, _, _, _, _, _, _, rfl, _⟩ := h
    rfl
  · have sc := sc_call_get
    refine ⟨_, (pss_one (ps_ret (pe_lst (pa_cons (C8.pe_mt c_get_value hr (by decide) (pv 0) (pa_cons (pe_ix ix_list (pv 1) pe_int (fun _ _ => rfl)) (pa_cons (pe_ix ix_list (pv 1) pe_int (fun _ _ => rfl)) pa_nil))) pa_nil)))), ?_⟩
    obtain ⟨d, nu, ro, ns, rs, rows, s, F, rfl, D, ok, On, Or, hlr, hrow, ⟨h5, h0⟩, g⟩ := h
    subst h0
    obtain ⟨t, i, rfl⟩ : ∃ t i, ns = [t, i] := by
      match ns, h5 with
      | [t, i], _ => exact ⟨t, i, rfl⟩
    obtain ⟨dx, ta, c, hi⟩ := D.ins
    refine ⟨_, rfl, d, dx, _, rfl, hi, no_get _ _ _, _, rfl, nu, _, _, _, rfl, rfl, On.sq, (iv_at (i := 0) (by show 0 < 2; decide)), _, rfl, nu, _, _, _, rfl, rfl, On.sq, (iv_at (i := 1) (by show 1 < 2; decide)), d, t, i, s, F, rfl, D, ?_⟩
    have stp : Sg46Neutral.step s (callAt 2 [t, i] []) = (s, [if hasI s t i 1 = true then ((s.held t.toNat i.toNat : Nat) : Int) else -2]) := by
      refine step_one (q := .get t i) rfl ?_
      show (if (Sg46.within t 0 3 && Sg46.within i 0 ((s.size t.toNat : Int) - 1)) = false then Sg46.says (-2) else Sg46.says _, s) = _
      rw [← has_within]
      cases hasI s t i 1 <;> rfl
    rw [stp] at g
    refine ⟨by show 1 ≤ sizeLine; decide, fun p np => ?_⟩
    have e2 := same_upd (o := .lst (iv [if hasI s t i 1 = true then ((s.held t.toNat i.toNat : Nat) : Int) else -2])) np
    exact g _ F p (.of_same e2) (D.same e2) np (D.fresh np) upd_same
theorem ok_call_set {f : Addr} {fd : FuncData} (Fn : Fun K "call_set" "call_set" s_call_set f fd) (T : Txt K mg A) (c_set_value : C8.Met P w K mg base 2 A.C "set_value" (sp_set_value A) []) : FnOk P w K mg base CX0 3 f fd ["device", "numbers", "rows"] (sp_call A 1 (fun ns rows => ns.length = 3 ∧ rows = [])) := by
  refine Fn.ok sc_call_set (fun vs H Q E h => ?_) (fun cdv Ar outer sh H vs Q E hr h => ?_)
  · obtain ⟨_, _, _, _, _, _, _, _, rfl, _⟩ := h
    rfl
  · have sc := sc_call_set
    refine ⟨_, (pss_one (ps_ret (pe_lst (pa_cons (C8.pe_mt c_set_value hr (by decide) (pv 0) (pa_cons (pe_ix ix_list (pv 1) pe_int (fun _ _ => rfl)) (pa_cons (pe_ix ix_list (pv 1) pe_int (fun _ _ => rfl)) (pa_cons (pe_ix ix_list (pv 1) pe_int (fun _ _ => rfl)) pa_nil)))) pa_nil)))), ?_⟩
    obtain ⟨d, nu, ro, ns, rs, rows, s, F, rfl, D, ok, On, Or, hlr, hrow, ⟨h5, h0⟩, g⟩ := h
    subst h0
    obtain ⟨t, i, x, rfl⟩ : ∃ t i x, ns = [t, i, x] := by
      match ns, h5 with
      | [t, i, x], _ => exact ⟨t, i, x, rfl⟩
    obtain ⟨dx, ta, c, hi⟩ := D.ins
    have hd : Sg46.does s (.set t i x) = if (hasI s t i 1 && (decide (0 ≤ x) && decide (x ≤ if t < 2 then 1 else 65535))) = false then (Sg46.says (-2), s) else (Sg46.says 0, s.put t.toNat i.toNat x.toNat) := by
      rw [has_within, Bool.and_assoc]
      rfl
    refine ⟨_, rfl, d, dx, _, rfl, hi, no_set _ _ _, _, rfl, nu, _, _, _, rfl, rfl, On.sq, (iv_at (i := 0) (by show 0 < 3; decide)), _, rfl, nu, _, _, _, rfl, rfl, On.sq, (iv_at (i := 1) (by show 1 < 3; decide)), _, rfl, nu, _, _, _, rfl, rfl, On.sq, (iv_at (i := 2) (by show 2 < 3; decide)), d, t, i, x, s, F, rfl, D, fun hb => ?_, fun hb H2 st D2 => ?_⟩
    · rw [hb, if_pos rfl] at hd
      rw [step_one (c := callAt 1 [t, i, x] []) (q := .set t i x) rfl hd] at g
      refine ⟨by show 1 ≤ sizeLine; decide, fun p np => ?_⟩
      have e2 := same_upd (o := .lst (iv [-2])) np
      exact g _ F p (.of_same e2) (D.same e2) np (D.fresh np) upd_same
    · rw [hb, if_neg (by decide)] at hd
      rw [step_one (c := callAt 1 [t, i, x] []) (q := .set t i x) rfl hd] at g
      refine ⟨by show 1 ≤ sizeLine; decide, fun p np => ?_⟩
      have e2 := same_upd (o := .lst (iv [0])) np
      exact g _ F p (st.trans (.of_same e2)) (D2.same e2) (st.free np) (D2.fresh np) upd_same
/-! ### requests and frames -/
theorem whole_row {p : Int} (h : p = 3 ∨ p = 4 ∨ p = 5 ∨ p = 6 ∨ p = 8 ∨ p = 9) (l : List Nat) : callAt p [] [l] = [[p, (l.length : Int)], ofN l] := by
  have e : ((ofN l).length : Int) = (l.length : Int) := by rw [ofN_len]
  rcases h with rfl | rfl | rfl | rfl | rfl | rfl
  · show [[3, ((ofN l).length : Int)], ofN l] = _; rw [e]
  · show [[4, ((ofN l).length : Int)], ofN l] = _; rw [e]
  · show [[5, ((ofN l).length : Int)], ofN l] = _; rw [e]
  · show [[6, ((ofN l).length : Int)], ofN l] = _; rw [e]
  · show [[8, ((ofN l).length : Int)], ofN l] = _; rw [e]
  · show [[9, ((ofN l).length : Int)], ofN l] = _; rw [e]
/-- the one row of a call -/
theorem one_row {H : Hp} {F : List Addr} {ro : Addr} {rs : List Addr} {l : List Nat} (Or : Own H F ro (rs.map V.ref)) (hlr : rs.length = [l].length) (hrow : ∀ (i : Nat) (a : Addr) (l' : List Nat), rs[i]? = some a → [l][i]? = some l' → Own H F a (nv l')) :
    ∃ a, Own H F ro [V.ref a] ∧ Own H F a (nv l) := by
  match rs, hlr with
  | [a], _ => exact ⟨a, Or, hrow 0 a l rfl rfl⟩
theorem ok_call_pdu {f : Addr} {fd : FuncData} (Fn : Fun K "call_pdu" "call_pdu" s_call_pdu f fd) (T : Txt K mg A) (c_counted : C8.Cal P w K mg base 1 "counted" sp_counted []) (c_carry_out : C8.Cal P w K mg base 5 "carry_out" (sp_carry_out A) []) : FnOk P w K mg base CX0 6 f fd ["device", "numbers", "rows"] (sp_call A 3 (fun ns rows => ns = [] ∧ ∃ l, rows = [l] ∧ Byt l ∧ l.length ≤ 253)) := by
  refine Fn.ok sc_call_pdu (fun vs H Q E h => ?_) (fun cdv Ar outer sh H vs Q E hr h => ?_)
  · obtain ⟨_, _, _, _, _, _, _, _, rfl, _⟩ := h
    rfl
  · have sc := sc_call_pdu
    refine ⟨_, (pss_cons (ps_if (pt_not (pt_chain op_le op_le pe_int (pe_callB call_len_seq (by rfl) T.b_len PySem.boot_len (pa_cons (pe_ix ix_list (pv 2) pe_int (fun _ _ => rfl)) pa_nil)) pe_int)) (pss_one (ps_ret (pe_lst (pa_cons (pe_gi (by rfl) T.g_OUT_OF_RANGE) pa_nil)))) pss_nil)
      (pss_one (ps_ret (C8.pe_c c_counted hr (by decide) (by rfl) (pa_cons (C8.pe_c c_carry_out hr (by decide) (by rfl) (pa_cons (pv 0) (pa_cons (pe_ix ix_list (pv 2) pe_int (fun _ _ => rfl)) pa_nil))) pa_nil))))), ?_⟩
    obtain ⟨d, nu, ro, ns, rs, rows, s, F, rfl, D, ok, On, Or, hlr, hrow, ⟨h5, l, rfl, hb, hl⟩, g⟩ := h
    subst h5
    obtain ⟨a, Or1, Oa⟩ := one_row Or hlr hrow
    rw [whole_row (.inl rfl)] at g
    have hd : Sg46.does s (.pdu l (l.length : Int)) = if Sg46.within (l.length : Int) 1 253 = false then (Sg46.says (-2), s) else (Sg46.told (Sg46.answer s l).1, (Sg46.answer s l).2) := rfl
    have hc : Sg46Neutral.callOf [[3, (l.length : Int)], ofN l] = some (.inr (.pdu l (l.length : Int))) := by
      show some (Sum.inr (Sg46.Call.pdu (Sg46Neutral.nats (ofN l)) _)) = _
      rw [nats_ofN]
    refine ⟨_, rfl, ro, _, _, _, rfl, rfl, Or1.sq, atI_nat (j := 0) rfl, a, _, rfl, .inl Oa.sq, _, _, rfl, rfl, chain_le ?_⟩
    rw [nv_len]
    refine ifb (fun b1 => ?_) (fun b1 => ?_)
    · have hw : Sg46.within (l.length : Int) 1 253 = false := by
        unfold Sg46.within
        simp at b1 ⊢
        omega
      rw [hw, if_pos rfl] at hd
      rw [step_one hc hd] at g
      refine ⟨by show 1 ≤ sizeLine; decide, fun p np => ?_⟩
      have e2 := same_upd (o := .lst (iv [-2])) np
      exact g _ F p (.of_same e2) (D.same e2) np (D.fresh np) upd_same
    · have hw : Sg46.within (l.length : Int) 1 253 = true := by
        unfold Sg46.within
        simp at b1 ⊢
        omega
      rw [hw, if_neg (by decide)] at hd
      rw [step_told hc hd] at g
      unfold Sg46.within at hw
      simp at hw
      refine ⟨_, rfl, _, rfl, ro, _, _, _, rfl, rfl, Or1.sq, atI_nat (j := 0) rfl, d, a, l, s, F, rfl, D, Oa, ok, hb, by omega, by omega, fun H2 F2 p2 st2 D2 n2 a2 hp2 => ?_⟩
      have kl := (answer_keeps ok hb (show l.length ≤ 300 by omega)).2.2
      refine ⟨p2, _, rfl, hp2, by rw [nv_len]; omega, fun H3 p3 e3 n3 hp3 => ?_⟩
      rw [nv_len, nv_iv] at hp3
      exact g H3 F2 p3 (st2.trans (.of_same e3)) (D2.same e3) (st2.free n3) (D2.fresh n3) hp3
theorem rtu_len {s : Sg46.Dev} {l : List Nat} (ok : DevOk s) (hb : Byt l) (hl : l.length ≤ 300) : (Sg46.bytesIn s l).1.length ≤ 1000 ∧ DevOk (Sg46.bytesIn s l).2 := by
  unfold Sg46.bytesIn
  dsimp only
  split
  · obtain ⟨h1, h2, h3⟩ := frame_len (s := s) (u := (l.take (l.length - 2)).headD 0) (q := (l.take (l.length - 2)).drop 1) ok (byt_drop (byt_take hb _) _) (by rw [List.length_drop, List.length_take]; omega)
    refine ⟨?_, h2⟩
    rcases h3 with z | ⟨x, z, _⟩
    · rw [z]
      show 0 ≤ 1000
      decide
    · rw [z] at h1 ⊢
      show (Sg46.summed (_ :: x)).length ≤ 1000
      have : x.length ≤ 300 := h1
      rw [summed_ends, List.length_append]
      show x.length + 1 + 2 ≤ 1000
      omega
  · exact ⟨by show 0 ≤ 1000; decide, ok.more 1⟩
theorem line_len {s : Sg46.Dev} {l : List Nat} (ok : DevOk s) (hl : l.length ≤ 513) : (Sg46.lineIn s l).1.length ≤ 1000 ∧ DevOk (Sg46.lineIn s l).2 := by
  rw [lineIn_eq]
  cases z0 : lineOf l with
  | none => exact ⟨by show 0 ≤ 1000; decide, ok.more 1⟩
  | some b =>
    dsimp only
    split
    · rename_i hc
      have hbb : Byt b := by
        unfold lineOf at z0
        split at z0
        · exact (unhex_len z0).2
        · cases z0
      have hbt := hc.2.2
      obtain ⟨h1, h2, h3⟩ := frame_len (s := s) (u := (b.take (b.length - 1)).headD 0) (q := (b.take (b.length - 1)).drop 1) ok (byt_drop (byt_take hbb _) _) (by rw [List.length_drop]; omega)
      refine ⟨?_, h2⟩
      rcases h3 with z | ⟨x, z, _⟩
      · rw [z]
        show 0 ≤ 1000
        decide
      · rw [z] at h1 ⊢
        show (Sg46.lined (_ :: x)).length ≤ 1000
        have : x.length ≤ 300 := h1
        unfold Sg46.lined
        rw [List.length_append, List.length_cons, hex_len, List.length_append]
        show 2 * (x.length + 1 + 1) + 1 + 2 ≤ 1000
        omega
    · exact ⟨by show 0 ≤ 1000; decide, ok.more 1⟩
theorem ok_call_rtu {f : Addr} {fd : FuncData} (Fn : Fun K "call_rtu" "call_rtu" s_call_rtu f fd) (T : Txt K mg A) (c_counted : C8.Cal P w K mg base 1 "counted" sp_counted []) (c_answer_rtu : C8.Cal P w K mg base 7 "answer_rtu" (sp_answer_rtu A) []) : FnOk P w K mg base CX0 8 f fd ["device", "numbers", "rows"] (sp_call A 4 (fun ns rows => ns = [] ∧ ∃ l, rows = [l] ∧ Byt l ∧ l.length ≤ 256)) := by
  refine Fn.ok sc_call_rtu (fun vs H Q E h => ?_) (fun cdv Ar outer sh H vs Q E hr h => ?_)
  · obtain ⟨_, _, _, _, _, _, _, _, rfl, _⟩ := h
    rfl
  · have sc := sc_call_rtu
    refine ⟨_, (pss_cons (ps_if (pt_cmpR op_gt (pe_callB call_len_seq (by rfl) T.b_len PySem.boot_len (pa_cons (pe_ix ix_list (pv 2) pe_int (fun _ _ => rfl)) pa_nil)) pe_int (nomark _)) (pss_one (ps_ret (pe_lst (pa_cons (pe_gi (by rfl) T.g_OUT_OF_RANGE) pa_nil)))) pss_nil)
      (pss_one (ps_ret (C8.pe_c c_counted hr (by decide) (by rfl) (pa_cons (C8.pe_c c_answer_rtu hr (by decide) (by rfl) (pa_cons (pv 0) (pa_cons (pe_ix ix_list (pv 2) pe_int (fun _ _ => rfl)) pa_nil))) pa_nil))))), ?_⟩
    obtain ⟨d, nu, ro, ns, rs, rows, s, F, rfl, D, ok, On, Or, hlr, hrow, ⟨h5, l, rfl, hb, hl⟩, g⟩ := h
    subst h5
    obtain ⟨a, Or1, Oa⟩ := one_row Or hlr hrow
    rw [whole_row (by omega)] at g
    have hw : Sg46.within (l.length : Int) 0 256 = true := by
      unfold Sg46.within
      simp
      omega
    have hd : Sg46.does s (.rtu l (l.length : Int)) = (Sg46.told (Sg46.bytesIn s l).1, (Sg46.bytesIn s l).2) := by
      show (if Sg46.within (l.length : Int) 0 256 = false then _ else _) = _
      rw [hw]
      rfl
    have hc : Sg46Neutral.callOf [[4, (l.length : Int)], ofN l] = some (.inr (.rtu l (l.length : Int))) := by
      show some (Sum.inr (Sg46.Call.rtu (Sg46Neutral.nats (ofN l)) _)) = _
      rw [nats_ofN]
    rw [step_told hc hd] at g
    refine ⟨_, rfl, ro, _, _, _, rfl, rfl, Or1.sq, atI_nat (j := 0) rfl, a, _, rfl, .inl Oa.sq, _, _, rfl, rfl, _, rfl, ?_⟩
    rw [nv_len]
    refine ifb (fun b1 => ?_) (fun b1 => ?_)
    · simp at b1
      omega
    · refine ⟨_, rfl, _, rfl, ro, _, _, _, rfl, rfl, Or1.sq, atI_nat (j := 0) rfl, d, a, l, s, F, rfl, D, Oa, ok, hb, by omega, fun H2 F2 p2 st2 D2 n2 a2 hp2 => ?_⟩
      have kl := rtu_len ok hb (show l.length ≤ 300 by omega)
      refine ⟨p2, _, rfl, hp2, by rw [nv_len]; omega, fun H3 p3 e3 n3 hp3 => ?_⟩
      rw [nv_len, nv_iv] at hp3
      exact g H3 F2 p3 (st2.trans (.of_same e3)) (D2.same e3) (st2.free n3) (D2.fresh n3) hp3
theorem ok_call_ascii {f : Addr} {fd : FuncData} (Fn : Fun K "call_ascii" "call_ascii" s_call_ascii f fd) (T : Txt K mg A) (c_counted : C8.Cal P w K mg base 1 "counted" sp_counted []) (c_answer_ascii : C8.Cal P w K mg base 7 "answer_ascii" (sp_answer_ascii A) []) : FnOk P w K mg base CX0 8 f fd ["device", "numbers", "rows"] (sp_call A 5 (fun ns rows => ns = [] ∧ ∃ l, rows = [l] ∧ Byt l ∧ l.length ≤ 513)) := by
  refine Fn.ok sc_call_ascii (fun vs H Q E h => ?_) (fun cdv Ar outer sh H vs Q E hr h => ?_)
  · obtain ⟨_, _, _, _, _, _, _, _, rfl, _⟩ := h
    rfl
  · have sc := sc_call_ascii
    refine ⟨_, (pss_cons (ps_if (pt_cmpR op_gt (pe_callB call_len_seq (by rfl) T.b_len PySem.boot_len (pa_cons (pe_ix ix_list (pv 2) pe_int (fun _ _ => rfl)) pa_nil)) pe_int (nomark _)) (pss_one (ps_ret (pe_lst (pa_cons (pe_gi (by rfl) T.g_OUT_OF_RANGE) pa_nil)))) pss_nil)
      (pss_one (ps_ret (C8.pe_c c_counted hr (by decide) (by rfl) (pa_cons (C8.pe_c c_answer_ascii hr (by decide) (by rfl) (pa_cons (pv 0) (pa_cons (pe_ix ix_list (pv 2) pe_int (fun _ _ => rfl)) pa_nil))) pa_nil))))), ?_⟩
    obtain ⟨d, nu, ro, ns, rs, rows, s, F, rfl, D, ok, On, Or, hlr, hrow, ⟨h5, l, rfl, hb, hl⟩, g⟩ := h
    subst h5
    obtain ⟨a, Or1, Oa⟩ := one_row Or hlr hrow
    rw [whole_row (by omega)] at g
    have hw : Sg46.within (l.length : Int) 0 513 = true := by
      unfold Sg46.within
      simp
      omega
    have hd : Sg46.does s (.ascii l (l.length : Int)) = (Sg46.told (Sg46.lineIn s l).1, (Sg46.lineIn s l).2) := by
      show (if Sg46.within (l.length : Int) 0 513 = false then _ else _) = _
      rw [hw]
      rfl
    have hc : Sg46Neutral.callOf [[5, (l.length : Int)], ofN l] = some (.inr (.ascii l (l.length : Int))) := by
      show some (Sum.inr (Sg46.Call.ascii (Sg46Neutral.nats (ofN l)) _)) = _
      rw [nats_ofN]
    rw [step_told hc hd] at g
    refine ⟨_, rfl, ro, _, _, _, rfl, rfl, Or1.sq, atI_nat (j := 0) rfl, a, _, rfl, .inl Oa.sq, _, _, rfl, rfl, _, rfl, ?_⟩
    rw [nv_len]
    refine ifb (fun b1 => ?_) (fun b1 => ?_)
    · simp at b1
      omega
    · refine ⟨_, rfl, _, rfl, ro, _, _, _, rfl, rfl, Or1.sq, atI_nat (j := 0) rfl, d, a, l, s, F, rfl, D, Oa, ok, by omega, fun H2 F2 p2 st2 D2 n2 a2 hp2 => ?_⟩
      have kl := line_len ok (show l.length ≤ 513 by omega)
      refine ⟨p2, _, rfl, hp2, by rw [nv_len]; omega, fun H3 p3 e3 n3 hp3 => ?_⟩
      rw [nv_len, nv_iv] at hp3
      exact g H3 F2 p3 (st2.trans (.of_same e3)) (D2.same e3) (st2.free n3) (D2.fresh n3) hp3
end
end Bd

set_option Elab.async false
set_option linter.all false
set_option maxRecDepth 100000
set_option maxHeartbeats 2000000
namespace Bd
open PySem PySem.Spec PyProof.Rows L2
/-! ### tcp -/
/-- two tests, both asked -/
theorem and_if {b1 b2 : Bool} {S A B : Prop} (h2 : (if b2 = true then A else B) → S) (h : if (b1 && b2) = true then A else B) : ∃ k, V.bl b1 = V.bl k ∧ if k = true then S else if false = true then A else B := by
  refine ⟨b1, rfl, ?_⟩
  cases b1 with
  | true => exact iteT (h2 h)
  | false => exact iteF h
theorem take22 {f : List Nat} (h : 4 ≤ f.length) : (f.drop 2).take 2 = [f.getD 2 0, f.getD 3 0] := by
  match f, h with
  | _ :: _ :: _ :: _ :: _, _ => rfl
def isTcp (f : List Nat) : Bool := decide (8 ≤ f.length) && (decide ((f.drop 2).take 2 = [0, 0]) && decide (Sg46.at2 f 4 + 6 = f.length))
theorem isTcp_iff {f : List Nat} (hl : f.length ≤ 260) : (8 ≤ f.length ∧ f.length ≤ 260 ∧ Sg46.at2 f 2 = 0 ∧ Sg46.at2 f 4 + 6 = f.length) ↔ isTcp f = true := by
  unfold isTcp
  have ha : Sg46.at2 f 2 = 256 * f.getD 2 0 + f.getD 3 0 := rfl
  rw [Bool.and_eq_true, Bool.and_eq_true, decide_eq_true_eq, decide_eq_true_eq, decide_eq_true_eq, ha]
  constructor
  · rintro ⟨h8, _, h2, h6⟩
    refine ⟨h8, ?_, h6⟩
    rw [take22 (by omega), show f.getD 2 0 = 0 by omega, show f.getD 3 0 = 0 by omega]
  · rintro ⟨h8, h2, h6⟩
    rw [take22 (by omega)] at h2
    obtain ⟨h3, h4⟩ := List.cons.inj h2
    obtain ⟨h4, _⟩ := List.cons.inj h4
    exact ⟨h8, hl, by omega, h6⟩
section
variable {P : Program} {w : World} {K : PySem.W.Frag} {mg : Str → Option Value} {base : Heap} {A : Ad}
def sp_is_tcp_frame (K : PySem.W.Frag) : Sp := fun vs H Q _ => ∃ (a : Addr) (f : List Nat), vs = [.ref a] ∧ SqL K H a (nv f) ∧ GivV H Q (.bl (isTcp f))
theorem ok_is_tcp_frame {f : Addr} {fd : FuncData} (Fn : Fun K "is_tcp_frame" "is_tcp_frame" s_is_tcp_frame f fd) (T : Txt K mg A) (c_number_at : C8.Cal P w K mg base 1 "number_at" (sp_number_at K) []) : FnOk P w K mg base CX0 2 f fd ["frame"] (sp_is_tcp_frame K) := by
  refine Fn.ok sc_is_tcp_frame (fun vs H Q E h => ?_) (fun cdv Ar outer sh H vs Q E hr h => ?_)
  · obtain ⟨_, _, rfl, _⟩ := h
    rfl
  · have sc := sc_is_tcp_frame
    refine ⟨_, (pss_one (ps_ret (pe_and (pe_cmpR op_ge (pe_callB call_len_seq (by rfl) T.b_len PySem.boot_len (pa_cons (pv 0) pa_nil)) pe_int (nomark _)) (pe_and (pe_cmpR (op_eqD hr.units) (pe_slice sl_list (pv 0) (po_some pe_int) (po_some pe_int)) (pe_lst (pa_cons pe_int (pa_cons pe_int pa_nil))) (nomark _)) (pe_one (pe_cmpR op_eq (C8.pe_c c_number_at hr (by decide) (by rfl) (pa_cons (pv 0) (pa_cons pe_int pa_nil))) (pe_op op_sub (pe_callB call_len_seq (by rfl) T.b_len PySem.boot_len (pa_cons (pv 0) pa_nil)) pe_int) (nomark _))))))), ?_⟩
    obtain ⟨a, f, rfl, hs, g⟩ := h
    refine ⟨_, rfl, a, _, rfl, .inl hs, _, _, rfl, rfl, _, rfl, ifb (fun b1 => ?_) (fun b1 => ?_)⟩
    · simp [nv_len] at b1
      refine ⟨_, rfl, _, rfl, _, rfl, a, _, rfl, hs, fun p1 n1 => ?_⟩
      have c1 : cutV (nv f) (some 2) (some 4) = nv ((f.drop 2).take 2) := cut_ft f (i := 2) (j := 4) (by omega) (by omega)
      rw [c1]
      have e1 := same_upd (o := .lst (nv ((f.drop 2).take 2))) n1
      refine ⟨by show 2 ≤ sizeLine; decide, fun p2 n2 => ?_⟩
      have e2 := same_upd (o := .lst (nv [0, 0])) n2
      have e12 := e1.trans e2
      refine ⟨_, _, dp_nv (SqL.of (e2 _ _ upd_same)), dp_nv (l := [0, 0]) (SqL.of upd_same), dn_shaped _, dn_shaped _, _, rfl, ?_⟩
      rw [dn_eqv]
      refine ifb (fun b2 => ?_) (fun b2 => ?_)
      · refine ⟨_, rfl, a, f, 4, rfl, e12.seq hs, by omega, _, rfl, a, _, rfl, .inl (e12.seq hs), _, _, rfl, rfl, rfl, g.bl e12 ?_⟩
        unfold isTcp
        rw [decide_eq_true (show 8 ≤ f.length by omega), b2, Bool.true_and, Bool.true_and, Bool.eq_iff_iff]
        simp [nv_len]
        omega
      · refine g.bl e12 ?_
        unfold isTcp
        rw [b2, Bool.false_and, Bool.and_false]
    · refine g.bl (Same.refl _) ?_
      simp [nv_len] at b1
      unfold isTcp
      rw [decide_eq_false (show ¬ 8 ≤ f.length by omega), Bool.false_and]
def sp_answer_tcp (A : Ad) : Sp := fun vs H Q _ => ∃ (d r : Addr) (q : List Nat) (s : Sg46.Dev) (F : List Addr), vs = [.ref d, .ref r] ∧ DevAt A.C H d s F ∧ Own H F r (nv q) ∧ DevOk s ∧ Byt q ∧ q.length ≤ 260 ∧
  ∀ H' F' p, Step H H' F F' → DevAt A.C H' d (Sg46.netIn s q).2 F' → H p = none → p ∉ F' → H' p = some (.lst (nv (Sg46.netIn s q).1)) → Q (.ref p) H'
theorem ok_answer_tcp {f : Addr} {fd : FuncData} (Fn : Fun K "answer_tcp" "answer_tcp" s_answer_tcp f fd) (T : Txt K mg A) (c_is_tcp_frame : C8.Cal P w K mg base 2 "is_tcp_frame" (sp_is_tcp_frame K) []) (c_tally : C8.Met P w K mg base 1 A.C "tally" (sp_tally A) []) (c_carry_out : C8.Cal P w K mg base 5 "carry_out" (sp_carry_out A) []) (c_bytes_of_numbers : C8.Cal P w K mg base 1 "bytes_of_numbers" (sp_bytes_of_numbers K) []) : FnOk P w K mg base CX0 6 f fd ["device", "frame"] (sp_answer_tcp A) := by
  refine Fn.ok sc_answer_tcp (fun vs H Q E h => ?_) (fun cdv Ar outer sh H vs Q E hr h => ?_)
  · obtain ⟨_, _, _, _, _, rfl, _⟩ := h
    rfl
  · have sc := sc_answer_tcp
    refine ⟨_, (pss_cons (ps_if (pt_not (pt_val (C8.pe_c c_is_tcp_frame hr (by decide) (by rfl) (pa_cons (pv 1) pa_nil)))) (pss_cons (ps_expr (C8.pe_mt c_tally hr (by decide) (pv 0) (pa_cons (pe_gi (by rfl) T.g_FRAMES_WRONG) pa_nil)))
      (pss_one (ps_ret (pe_lst pa_nil)))) pss_nil)
      (pss_cons (ps_expr (C8.pe_mt c_tally hr (by decide) (pv 0) (pa_cons (pe_gi (by rfl) T.g_FRAMES_RIGHT) pa_nil)))
      (pss_cons (ps_set (i := 2) sc.nd rfl (Or.inl rfl) (pe_ix ix_list (pv 1) pe_int (fun _ _ => rfl)))
      (pss_cons (ps_if (PW.pt (pw_and (pt_cmpR op_ne (pv 2) (pe_fld (pv 0) rfl) (nomark _)) (pw_and1 (pt_cmpR op_notIn_seq (pv 2) (pe_gr (by rfl) T.g_ANY_DEVICE) (by rfl))))) (pss_one (ps_ret (pe_lst pa_nil))) pss_nil)
      (pss_cons (ps_expr (C8.pe_mt c_tally hr (by decide) (pv 0) (pa_cons (pe_gi (by rfl) T.g_FRAMES_FOR_IT) pa_nil)))
      (pss_cons (ps_set (i := 3) sc.nd rfl (Or.inl rfl) (pe_op op_cat (pe_lst (pa_cons (pv 2) pa_nil)) (C8.pe_c c_carry_out hr (by decide) (by rfl) (pa_cons (pv 0) (pa_cons (pe_slice sl_list (pv 1) (po_some pe_int) po_none) pa_nil)))))
      (pss_one (ps_ret (pe_op op_cat (pe_op op_cat (pe_slice sl_list (pv 1) po_none (po_some pe_int)) (C8.pe_c c_bytes_of_numbers hr (by decide) (by rfl) (pa_cons (pe_lst (pa_cons (pe_callB call_len_seq (by rfl) T.b_len PySem.boot_len (pa_cons (pv 3) pa_nil)) pa_nil)) pa_nil))) (pv 3)))))))))), ?_⟩
    obtain ⟨d, r, q, s, F, rfl, D, O, ok, hb, hl, g⟩ := h
    refine ⟨_, rfl, r, q, rfl, O.sq, fun H1 e1 => ⟨_, rfl, ifb (fun b1 => ?_) (fun b1 => ?_)⟩⟩
    · simp at b1
      have hin : Sg46.netIn s q = ([], s.more 1) := by
        unfold Sg46.netIn
        exact if_neg (fun z => by rw [(isTcp_iff hl).mp z] at b1; cases b1)
      rw [hin] at g
      obtain ⟨dx, ta, c, hi⟩ := (D.same e1).ins
      refine ⟨_, rfl, d, dx, _, rfl, hi, no_tally _ _ _, d, 1, s, F, rfl, D.same e1, by rw [ok.cl]; decide, fun H2 st D2 => ⟨Nat.zero_le _, fun p np => ?_⟩⟩
      have st2 := (Step.of_same (F := F) e1).trans st
      have e4 := same_upd (o := .lst (nv [])) np
      exact g _ F p (st2.trans (.of_same e4)) (D2.same e4) (st2.free np) (D2.fresh np) upd_same
    · simp at b1
      obtain ⟨h8, _, h2, h6⟩ := (isTcp_iff hl).mpr b1
      have hin : Sg46.netIn s q = if q.getD 6 0 = s.unit ∨ q.getD 6 0 = 0 ∨ q.getD 6 0 = 255 then (q.take 4 ++ Sg46.two ((Sg46.answer ((s.more 0).more 3) (q.drop 7)).1.length + 1) ++ (q.getD 6 0 :: (Sg46.answer ((s.more 0).more 3) (q.drop 7)).1), (Sg46.answer ((s.more 0).more 3) (q.drop 7)).2) else ([], s.more 0) := by
        unfold Sg46.netIn
        rw [if_pos ⟨h8, hl, h2, h6⟩]
        rfl
      obtain ⟨dx, ta, c, hi⟩ := (D.same e1).ins
      refine ⟨_, rfl, d, dx, _, rfl, hi, no_tally _ _ _, d, 0, s, F, rfl, D.same e1, by rw [ok.cl]; decide, fun H2 st2 D2 => ?_⟩
      have st12 := (Step.of_same (F := F) e1).trans st2
      obtain ⟨dx2, ta2, c2, hi2⟩ := D2.ins
      refine ⟨_, rfl, r, _, _, _, rfl, rfl, (O.step st12).sq, (nv_at (i := 6) (by omega)), ?_⟩
      refine ⟨_, rfl, _, rfl, d, _, dx2, _, _, rfl, hi2, T.cl, T.n_unit, dF_unit _ _ _, rfl, and_if (b2 := !inV (V.int ((q.getD 6 0 : Nat) : Int)) [V.int 0, V.int 255]) (fun z => ⟨_, rfl, _, _, rfl, .inr (T.t_ANY_DEVICE _), rfl, rfl, _, rfl, z⟩) (ifb (fun b3 => ?_) (fun b3 => ?_))⟩
      · have hno : ¬ (q.getD 6 0 = s.unit ∨ q.getD 6 0 = 0 ∨ q.getD 6 0 = 255) := by
          have hu : (s.more 0).unit = s.unit := rfl
          simp [inV, eqV, hu, -List.getD_eq_getElem?_getD] at b3
          omega
        rw [hin, if_neg hno] at g
        refine ⟨Nat.zero_le _, fun p np => ?_⟩
        have e4 := same_upd (o := .lst (nv [])) np
        exact g _ F p (st12.trans (.of_same e4)) (D2.same e4) (st12.free np) (D2.fresh np) upd_same
      · have hyes : q.getD 6 0 = s.unit ∨ q.getD 6 0 = 0 ∨ q.getD 6 0 = 255 := by
          have hu : (s.more 0).unit = s.unit := rfl
          simp [inV, eqV, hu, -List.getD_eq_getElem?_getD] at b3
          omega
        rw [hin, if_pos hyes] at g
        refine ⟨_, rfl, d, dx2, _, rfl, hi2, no_tally _ _ _, d, 3, s.more 0, F, rfl, D2, by rw [more_len, ok.cl]; decide, fun H3 st3 D3 => ?_⟩
        have st13 := st12.trans st3
        refine ⟨_, rfl, by show 1 ≤ sizeLine; decide, fun o no => ?_⟩
        have e4 := same_upd (o := .lst [V.int ((q.getD 6 0 : Nat) : Int)]) no
        refine ⟨_, rfl, _, rfl, _, rfl, r, _, rfl, ((O.step st13).same e4).sq, fun p1 n1 => ?_⟩
        have c1 : cutV (nv q) (some 7) none = nv (q.drop 7) := cut_f q (i := 7) (by omega)
        rw [c1]
        have e5 := same_upd (o := .lst (nv (q.drop 7))) n1
        have e45 := e4.trans e5
        have st15 := st13.trans (Step.of_same (F := F) e45)
        have okm := (ok.more 0).more 3
        have hbd := byt_drop hb 7
        have hq7 : (q.drop 7).length = q.length - 7 := List.length_drop
        obtain ⟨k1, k2, k3⟩ := answer_keeps okm hbd (show (q.drop 7).length ≤ 300 by omega)
        refine ⟨d, p1, q.drop 7, (s.more 0).more 3, F, rfl, D3.same e45, ⟨.inl upd_same, (D3.same e4).fresh n1⟩, okm, hbd, by omega, by omega, fun H6 F6 p6 st6 D6 n6 a6 hp6 => ?_⟩
        generalize hans : Sg46.answer ((s.more 0).more 3) (q.drop 7) = an at *
        have st16 := st15.trans st6
        have ho6 := st6.keep _ _ (e5 _ _ (upd_same (a := o))) (D3.fresh no)
        refine ⟨o, p6, _, _, rfl, rfl, ho6, hp6, sz (by rw [nv_len]; show 1 + _ ≤ _; omega), fun p7 n7 => ?_⟩
        have hbody : [V.int ((q.getD 6 0 : Nat) : Int)] ++ nv an.1 = nv (q.getD 6 0 :: an.1) := rfl
        rw [hbody]
        have e7 := same_upd (o := .lst (nv (q.getD 6 0 :: an.1))) n7
        have st17 := st16.trans (Step.of_same (F := F6) e7)
        refine ⟨_, rfl, _, rfl, r, _, rfl, (O.step st17).sq, fun p8 n8 => ?_⟩
        have c2 : cutV (nv q) none (some 4) = nv (q.take 4) := cut_t q (j := 4)
        rw [c2]
        have e8 := same_upd (o := .lst (nv (q.take 4))) n8
        refine ⟨_, rfl, p7, _, rfl, .inl (SqL.of (e8 _ _ upd_same)), by show 1 ≤ sizeLine; decide, fun p9 n9 => ?_⟩
        have hlen : [V.int ((nv (q.getD 6 0 :: an.1)).length : Nat)] = nv [an.1.length + 1] := by
          rw [nv_len]
          rfl
        rw [hlen]
        have e9 := same_upd (o := .lst (nv [an.1.length + 1])) n9
        refine ⟨p9, [an.1.length + 1], rfl, SqL.of upd_same, fun x m => ?_, by show 1 ≤ 70000; decide, fun H10 p10 e10 n10 hp10 => ?_⟩
        · rw [List.mem_singleton] at m
          omega
        rw [words_one] at hp10
        have e910 := e9.trans e10
        refine ⟨p8, p10, _, _, rfl, rfl, e910 _ _ upd_same, hp10, sz (by rw [nv_len, nv_len, List.length_take]; show _ + 2 ≤ _; omega), fun p11 n11 => ?_⟩
        rw [← nv_app]
        have e11 := same_upd (o := .lst (nv (q.take 4 ++ Sg46.two (an.1.length + 1)))) n11
        refine ⟨_, rfl, p11, p7, _, _, rfl, rfl, upd_same, (e910.trans e11) _ _ (e8 _ _ upd_same), sz (by rw [nv_len, nv_len, List.length_append, List.length_take]; show _ + 2 + (_ + 1) ≤ _; omega), fun p12 n12 => ?_⟩
        rw [← nv_app]
        have e12 := same_upd (o := .lst (nv (q.take 4 ++ Sg46.two (an.1.length + 1) ++ (q.getD 6 0 :: an.1)))) n12
        have eA := ((e7.trans e8).trans (e910.trans e11)).trans e12
        have stA := st16.trans (Step.of_same (F := F6) eA)
        exact g _ F6 p12 stA (D6.same eA) ((st16.trans (Step.of_same (F := F6) ((e7.trans e8).trans (e910.trans e11)))).free n12) ((D6.same ((e7.trans e8).trans (e910.trans e11))).fresh n12) upd_same
end
end Bd

set_option Elab.async false
set_option linter.all false
set_option maxRecDepth 100000
set_option maxHeartbeats 2000000
namespace Bd
open PySem PySem.Spec PyProof.Rows L2
/-! ### what is asked with how many -/
def bnd (f : Int) : Int × Int :=
  if f = 1 ∨ f = 2 then (1, 2000) else if f = 3 ∨ f = 4 then (1, 125) else if f = 5 ∨ f = 6 then (1, 1) else if f = 15 then (1, 1968) else if f = 16 then (1, 123) else if f = 22 then (2, 2) else (1, 0)
def mayAsk (f a c : Int) : Bool := (decide ((bnd f).1 ≤ c) && decide (c ≤ (bnd f).2)) && (decide (0 ≤ a) && decide (a + (if f = 22 then 1 else c) - 1 ≤ 65535))
/-- a dict whose keys are whole numbers -/
theorem valV_ints (f : Int) : ∀ l : List (Int × V), valV (l.map fun kv => ((Sum.inl kv.1 : Key), kv.2)) (Sum.inl f) = pickT l f
  | [] => rfl
  | (j, v) :: r => by
    rw [List.map_cons]
    unfold pickT
    by_cases e : j = f
    · rw [if_pos e, valV_pos (by rw [e])]
    · rw [if_neg e, valV_neg (fun z => e (Sum.inl.inj z)), valV_ints f r]
/-- a chain of two tests, the third read anyhow -/
theorem chain_any {b1 b2 : Bool} {S : Prop} {QQ : Bool → Prop} (h3 : (∃ k', V.bl b2 = V.bl k' ∧ QQ k') → S) (h : QQ (b1 && b2)) :
    ∃ k, V.bl b1 = V.bl k ∧ if k = true then S else ∃ k', V.bl false = V.bl k' ∧ QQ k' := by
  refine ⟨b1, rfl, ?_⟩
  cases b1 with
  | true => exact iteT (h3 ⟨_, rfl, h⟩)
  | false => exact iteF ⟨_, rfl, h⟩
section
variable {P : Program} {w : World} {K : PySem.W.Frag} {mg : Str → Option Value} {base : Heap} {A : Ad}
def sp_count_bounds : Sp := fun vs H Q _ => ∃ (f : Int), vs = [.int f] ∧ ∀ H' t, Same H H' → H' t = some (.tup [.int (bnd f).1, .int (bnd f).2]) → Q (.ref t) H'
theorem ok_count_bounds {f : Addr} {fd : FuncData} (Fn : Fun K "count_bounds" "count_bounds" s_count_bounds f fd) (T : Txt K mg A) : FnOk P w K mg base CX0 1 f fd ["function"] (sp_count_bounds) := by
  refine Fn.ok sc_count_bounds (fun vs H Q E h => ?_) (fun cdv Ar outer sh H vs Q E hr h => ?_)
  · obtain ⟨_, rfl, _⟩ := h
    rfl
  · have sc := sc_count_bounds
    refine ⟨_, (pss_cons (ps_set (i := 1) sc.nd rfl (Or.inl rfl) (pe_disp (pps_cons pe_int (pe_tup (pa_cons pe_int (pa_cons (pe_gi (by rfl) T.g_MOST_BITS_READ) pa_nil))) (pps_cons pe_int (pe_tup (pa_cons pe_int (pa_cons (pe_gi (by rfl) T.g_MOST_BITS_READ) pa_nil))) (pps_cons pe_int (pe_tup (pa_cons pe_int (pa_cons (pe_gi (by rfl) T.g_MOST_NUMBERS_READ) pa_nil))) (pps_cons pe_int (pe_tup (pa_cons pe_int (pa_cons (pe_gi (by rfl) T.g_MOST_NUMBERS_READ) pa_nil))) (pps_cons pe_int (pe_tup (pa_cons pe_int (pa_cons pe_int pa_nil))) (pps_cons pe_int (pe_tup (pa_cons pe_int (pa_cons pe_int pa_nil))) (pps_cons pe_int (pe_tup (pa_cons pe_int (pa_cons (pe_gi (by rfl) T.g_MOST_COILS_WRITTEN) pa_nil))) (pps_cons pe_int (pe_tup (pa_cons pe_int (pa_cons (pe_gi (by rfl) T.g_MOST_KEPT_WRITTEN) pa_nil))) (pps_cons pe_int (pe_tup (pa_cons pe_int (pa_cons pe_int pa_nil))) pps_nil))))))))) (by rfl) (by rfl) (fun z => by cases z) (by decide)))
      (pss_one (ps_ret (pe_dget2 (hu_of hr) (pv 1) (pv 0) (pe_tup (pa_cons pe_int (pa_cons pe_int pa_nil))) ⟨by rfl, by rfl, by rfl, by rfl⟩)))), ?_⟩
    obtain ⟨f, rfl, g⟩ := h
    refine fun p np => ⟨by show 2 ≤ sizeLine; decide, fun t1 n1 => ⟨by show 2 ≤ sizeLine; decide, fun t2 n2 => ⟨by show 2 ≤ sizeLine; decide, fun t3 n3 => ⟨by show 2 ≤ sizeLine; decide, fun t4 n4 => ⟨by show 2 ≤ sizeLine; decide, fun t5 n5 => ⟨by show 2 ≤ sizeLine; decide, fun t6 n6 => ⟨by show 2 ≤ sizeLine; decide, fun t7 n7 => ⟨by show 2 ≤ sizeLine; decide, fun t8 n8 => ⟨by show 2 ≤ sizeLine; decide, fun t9 n9 => ?_⟩⟩⟩⟩⟩⟩⟩⟩⟩
    have e0 := same_upd (o := .dK []) np
    have e1 := same_upd (o := .tup [.int 1, .int 2000]) n1
    have e2 := same_upd (o := .tup [.int 1, .int 2000]) n2
    have e3 := same_upd (o := .tup [.int 1, .int 125]) n3
    have e4 := same_upd (o := .tup [.int 1, .int 125]) n4
    have e5 := same_upd (o := .tup [.int 1, .int 1]) n5
    have e6 := same_upd (o := .tup [.int 1, .int 1]) n6
    have e7 := same_upd (o := .tup [.int 1, .int 1968]) n7
    have e8 := same_upd (o := .tup [.int 1, .int 123]) n8
    have e9 := same_upd (o := .tup [.int 2, .int 2]) n9
    have r8 := e9
    have r7 := e8.trans r8
    have r6 := e7.trans r7
    have r5 := e6.trans r6
    have r4 := e5.trans r5
    have r3 := e4.trans r4
    have r2 := e3.trans r3
    have r1 := e2.trans r2
    have r0 := e1.trans r1
    have hp9 := r0 p (.dK []) upd_same
    have h1 := r1 t1 _ upd_same
    have h2 := r2 t2 _ upd_same
    have h3 := r3 t3 _ upd_same
    have h4 := r4 t4 _ upd_same
    have h5 := r5 t5 _ upd_same
    have h6 := r6 t6 _ upd_same
    have h7 := r7 t7 _ upd_same
    have h8 := r8 t8 _ upd_same
    have h9 : (upd (upd (upd (upd (upd (upd (upd (upd (upd (upd H p (.dK [])) t1 (.tup [.int 1, .int 2000])) t2 (.tup [.int 1, .int 2000])) t3 (.tup [.int 1, .int 125])) t4 (.tup [.int 1, .int 125])) t5 (.tup [.int 1, .int 1])) t6 (.tup [.int 1, .int 1])) t7 (.tup [.int 1, .int 1968])) t8 (.tup [.int 1, .int 123])) t9 (.tup [.int 2, .int 2])) t9 = some (.tup [.int 2, .int 2]) := upd_same
    have E9 := e0.trans r0
    clear e0 e1 e2 e3 e4 e5 e6 e7 e8 e9 r8 r7 r6 r5 r4 r3 r2 r1 r0
    generalize upd (upd (upd (upd (upd (upd (upd (upd (upd (upd H p (.dK [])) t1 (.tup [.int 1, .int 2000])) t2 (.tup [.int 1, .int 2000])) t3 (.tup [.int 1, .int 125])) t4 (.tup [.int 1, .int 125])) t5 (.tup [.int 1, .int 1])) t6 (.tup [.int 1, .int 1])) t7 (.tup [.int 1, .int 1968])) t8 (.tup [.int 1, .int 123])) t9 (.tup [.int 2, .int 2]) = H9 at *
    refine ⟨hp9, ([(1, .ref t1), (2, .ref t2), (3, .ref t3), (4, .ref t4), (5, .ref t5), (6, .ref t6), (15, .ref t7), (16, .ref t8), (22, .ref t9)] : List (Int × V)).map fun kv => ((Sum.inl kv.1 : Key), kv.2), rfl, by show 9 ≤ 15; decide, ?_⟩
    have hm : mergeK [] ((([(1, .ref t1), (2, .ref t2), (3, .ref t3), (4, .ref t4), (5, .ref t5), (6, .ref t6), (15, .ref t7), (16, .ref t8), (22, .ref t9)] : List (Int × V)).map fun kv => ((Sum.inl kv.1 : Key), kv.2))) = ([(1, .ref t1), (2, .ref t2), (3, .ref t3), (4, .ref t4), (5, .ref t5), (6, .ref t6), (15, .ref t7), (16, .ref t8), (22, .ref t9)] : List (Int × V)).map fun kv => ((Sum.inl kv.1 : Key), kv.2) := rfl
    rw [hm]
    generalize hkv : ([(1, .ref t1), (2, .ref t2), (3, .ref t3), (4, .ref t4), (5, .ref t5), (6, .ref t6), (15, .ref t7), (16, .ref t8), (22, .ref t9)] : List (Int × V)) = kvs
    refine ⟨_, rfl, p, rfl, .inl ⟨_, .inl upd_same⟩, _, rfl, by show 2 ≤ sizeLine; decide, fun z nz => ?_⟩
    have ez := same_upd (o := .tup [.int 1, .int 0]) nz
    refine ⟨_, DGet.k (k := Sum.inl f) (ez _ _ upd_same), ?_⟩
    rw [valV_ints]
    have EZ := (same_new E9 np (o := .dK (kvs.map fun kv => ((Sum.inl kv.1 : Key), kv.2)))).trans ez
    have fin : ∀ t lo hi, H9 t = some (.tup [.int lo, .int hi]) → bnd f = (lo, hi) → Q (.ref t) (upd (upd H9 p (.dK (kvs.map fun kv => ((Sum.inl kv.1 : Key), kv.2)))) z (.tup [.int 1, .int 0])) := fun t lo hi ht hb => by
      refine g _ t EZ (ez _ _ ?_)
      rw [upd_ne (fun q => by rw [q, hp9] at ht; cases ht), hb]
      exact ht
    subst hkv
    by_cases c1 : f = 1
    · subst c1
      exact fin t1 _ _ h1 rfl
    by_cases c2 : f = 2
    · subst c2
      exact fin t2 _ _ h2 rfl
    by_cases c3 : f = 3
    · subst c3
      exact fin t3 _ _ h3 rfl
    by_cases c4 : f = 4
    · subst c4
      exact fin t4 _ _ h4 rfl
    by_cases c5 : f = 5
    · subst c5
      exact fin t5 _ _ h5 rfl
    by_cases c6 : f = 6
    · subst c6
      exact fin t6 _ _ h6 rfl
    by_cases c7 : f = 15
    · subst c7
      exact fin t7 _ _ h7 rfl
    by_cases c8 : f = 16
    · subst c8
      exact fin t8 _ _ h8 rfl
    by_cases c9 : f = 22
    · subst c9
      exact fin t9 _ _ h9 rfl
    have hn : pickT ([(1, .ref t1), (2, .ref t2), (3, .ref t3), (4, .ref t4), (5, .ref t5), (6, .ref t6), (15, .ref t7), (16, .ref t8), (22, .ref t9)] : List (Int × V)) f = none := by
      simp only [pickT]
      rw [if_neg (fun q => c1 q.symm), if_neg (fun q => c2 q.symm), if_neg (fun q => c3 q.symm), if_neg (fun q => c4 q.symm), if_neg (fun q => c5 q.symm), if_neg (fun q => c6 q.symm), if_neg (fun q => c7 q.symm), if_neg (fun q => c8 q.symm), if_neg (fun q => c9 q.symm)]
    have hb : bnd f = (1, 0) := by
      unfold bnd
      rw [if_neg (by omega), if_neg (by omega), if_neg (by omega), if_neg (by omega), if_neg (by omega), if_neg (by omega)]
    rw [hn]
    refine g _ z EZ ?_
    rw [hb]
    exact upd_same
def sp_places_reached : Sp := fun vs H Q _ => ∃ (f c : Int), vs = [.int f, .int c] ∧ Q (.int (if f = 22 then 1 else c)) H
theorem ok_places_reached {f : Addr} {fd : FuncData} (Fn : Fun K "places_reached" "places_reached" s_places_reached f fd) (T : Txt K mg A) : FnOk P w K mg base CX0 1 f fd ["function", "count"] (sp_places_reached) := by
  refine Fn.ok sc_places_reached (fun vs H Q E h => ?_) (fun cdv Ar outer sh H vs Q E hr h => ?_)
  · obtain ⟨_, _, rfl, _⟩ := h
    rfl
  · have sc := sc_places_reached
    refine ⟨_, (pss_one (ps_ret (pe_ifExp (pt_cmpR op_eq (pv 0) pe_int (nomark _)) pe_int (pv 1)))), ?_⟩
    obtain ⟨f, c, rfl, q⟩ := h
    refine ⟨_, rfl, rfl, _, rfl, ifb (fun b1 => ?_) (fun b1 => ?_)⟩
    · simp at b1
      rw [if_pos b1] at q
      exact q
    · simp at b1
      rw [if_neg b1] at q
      exact ⟨_, rfl, q⟩
def sp_may_be_asked : Sp := fun vs H Q _ => ∃ (f a c : Int), vs = [.int f, .int a, .int c] ∧ GivV H Q (.bl (mayAsk f a c))
theorem ok_may_be_asked {f : Addr} {fd : FuncData} (Fn : Fun K "may_be_asked" "may_be_asked" s_may_be_asked f fd) (T : Txt K mg A) (c_count_bounds : C8.Cal P w K mg base 1 "count_bounds" sp_count_bounds []) (c_places_reached : C8.Cal P w K mg base 1 "places_reached" sp_places_reached []) : FnOk P w K mg base CX0 2 f fd ["function", "at", "count"] (sp_may_be_asked) := by
  refine Fn.ok sc_may_be_asked (fun vs H Q E h => ?_) (fun cdv Ar outer sh H vs Q E hr h => ?_)
  · obtain ⟨_, _, _, rfl, _⟩ := h
    rfl
  · have sc := sc_may_be_asked
    refine ⟨_, (pss_cons (ps_set (i := 3) sc.nd rfl (Or.inl rfl) (C8.pe_c c_count_bounds hr (by decide) (by rfl) (pa_cons (pv 0) pa_nil)))
      (pss_cons (ps_if (pt_not (pt_chain op_le op_le (pe_ix ix_tup (pv 3) pe_int (fun _ _ => rfl)) (pv 2) (pe_ix ix_tup (pv 3) pe_int (fun _ _ => rfl)))) (pss_one (ps_ret pe_bl)) pss_nil)
      (pss_one (ps_ret (pe_and (pe_cmpR op_ge (pv 1) pe_int (nomark _)) (pe_one (pe_cmpR op_le (pe_op op_sub (pe_op op_add (pv 1) (C8.pe_c c_places_reached hr (by decide) (by rfl) (pa_cons (pv 0) (pa_cons (pv 2) pa_nil)))) pe_int) (pe_gi (by rfl) T.g_GREATEST_PLACE) (nomark _)))))))), ?_⟩
    obtain ⟨f, a, c, rfl, g⟩ := h
    refine ⟨_, rfl, f, rfl, fun H1 t e1 ht => ?_⟩
    refine ⟨_, rfl, t, _, _, _, rfl, rfl, SqT.of ht, atI_nat (j := 0) rfl, _, rfl, _, _, rfl, rfl, chain_any (fun z => ⟨_, rfl, t, _, _, _, rfl, rfl, SqT.of ht, atI_nat (j := 1) rfl, _, _, rfl, rfl, z⟩) (ifb (fun b1 => ?_) (fun b1 => ?_))⟩
    · refine g.bl e1 ?_
      rw [Bool.not_eq_true'] at b1
      unfold mayAsk
      rw [b1, Bool.false_and]
    · rw [Bool.not_eq_false'] at b1
      refine ⟨_, rfl, _, _, rfl, rfl, _, rfl, ifb (fun b2 => ?_) (fun b2 => ?_)⟩
      · refine ⟨_, rfl, _, rfl, _, rfl, f, c, rfl, _, _, rfl, rfl, _, _, rfl, rfl, _, _, rfl, rfl, g.bl e1 ?_⟩
        unfold mayAsk
        rw [b1, Bool.true_and]
        simp at b2
        rw [decide_eq_true b2, Bool.true_and]
      · refine g.bl e1 ?_
        unfold mayAsk
        simp at b2
        rw [decide_eq_false (show ¬ 0 ≤ a by omega), Bool.false_and, Bool.and_false]
/-! ### the parts of a request that is made -/
def nbp (f c : Nat) (l : List Nat) : List Nat := if f = 5 then [if l.getD 0 0 = 0 then 0 else 65280] else if f = 6 ∨ f = 22 then l else [c]
def rbn (f : Nat) (l : List Nat) : List Nat := if f = 15 then (l.length + 7) / 8 :: Sg46.packed l else if f = 16 then 2 * l.length :: Sg46.words l else []
def sp_numbers_behind_place (K : PySem.W.Frag) : Sp := fun vs H Q _ => ∃ (f c : Nat) (v : Addr) (l : List Nat), vs = [.int f, .int c, .ref v] ∧ SqL K H v (nv l) ∧ (f = 5 → 0 < l.length) ∧ NewL H Q (nv (nbp f c l))
theorem ok_numbers_behind_place {f : Addr} {fd : FuncData} (Fn : Fun K "numbers_behind_place" "numbers_behind_place" s_numbers_behind_place f fd) (T : Txt K mg A) : FnOk P w K mg base CX0 1 f fd ["function", "count", "values"] (sp_numbers_behind_place K) := by
  refine Fn.ok sc_numbers_behind_place (fun vs H Q E h => ?_) (fun cdv Ar outer sh H vs Q E hr h => ?_)
  · obtain ⟨_, _, _, _, rfl, _⟩ := h
    rfl
  · have sc := sc_numbers_behind_place
    refine ⟨_, (pss_cons (ps_if (pt_cmpR op_eq (pv 0) pe_int (nomark _)) (pss_one (ps_ret (pe_lst (pa_cons (pe_ifExp (pt_cmpR op_ne (pe_ix ix_list (pv 2) pe_int (fun _ _ => rfl)) pe_int (nomark _)) (pe_gi (by rfl) T.g_COIL_ON) pe_int) pa_nil)))) pss_nil)
      (pss_cons (ps_if (pt_cmpR op_in_seq (pv 0) (pe_tup (pa_cons pe_int (pa_cons pe_int pa_nil))) (by rfl)) (pss_one (ps_ret (pe_callTy call_list_of (by rfl) T.b_list (by decide +kernel) (pa_cons (pv 2) pa_nil)))) pss_nil)
      (pss_one (ps_ret (pe_lst (pa_cons (pv 1) pa_nil)))))), ?_⟩
    obtain ⟨f, c, v, l, rfl, hs, h5, g⟩ := h
    refine ⟨_, rfl, rfl, _, rfl, ifb (fun b1 => ?_) (fun b1 => ?_)⟩
    · simp at b1
      have hf : f = 5 := by omega
      have hn : nbp f c l = [if l.getD 0 0 = 0 then 0 else 65280] := if_pos hf
      rw [hn] at g
      refine ⟨_, rfl, v, _, _, _, rfl, rfl, hs, (nv_at (i := 0) (h5 hf)), rfl, _, rfl, ifb (fun b2 => ?_) (fun b2 => ?_)⟩
      · simp [-List.getD_eq_getElem?_getD] at b2
        rw [if_neg (by omega)] at g
        exact ⟨by show 1 ≤ sizeLine; decide, fun p np => g _ p (same_upd np) np upd_same⟩
      · simp [-List.getD_eq_getElem?_getD] at b2
        rw [if_pos (by omega)] at g
        exact ⟨by show 1 ≤ sizeLine; decide, fun p np => g _ p (same_upd np) np upd_same⟩
    · simp at b1
      refine ⟨_, rfl, by show 2 ≤ sizeLine; decide, fun z nz => ?_⟩
      have e1 : Same H (upd H z (.tup [.int 6, .int 22])) := same_upd nz
      refine ⟨z, _, rfl, .inr (SqT.of upd_same), rfl, rfl, _, rfl, ifb (fun b2 => ?_) (fun b2 => ?_)⟩
      · simp [inV, eqV] at b2
        have hn : nbp f c l = l := by
          unfold nbp
          rw [if_neg (by omega), if_pos (by omega)]
        rw [hn] at g
        exact ⟨_, rfl, v, _, rfl, .inl (e1.seq hs), fun p np => g _ p (same_new e1 (e1.free np)) (e1.free np) upd_same⟩
      · simp [inV, eqV] at b2
        have hn : nbp f c l = [c] := by
          unfold nbp
          rw [if_neg (by omega), if_neg (by omega)]
        rw [hn] at g
        exact ⟨_, rfl, by show 1 ≤ sizeLine; decide, fun p np => g _ p (same_new e1 (e1.free np)) (e1.free np) upd_same⟩
def nz (n : Nat) : Nat := if n = 0 then 0 else 1
theorem nz_bits (l : List Nat) : Bits (l.map nz) := fun x m => by
  obtain ⟨n, _, rfl⟩ := List.mem_map.mp m
  unfold nz
  split <;> omega
theorem nz_get (l : List Nat) (i : Nat) : (l.map nz).getD i 0 = nz (l.getD i 0) := by
  rw [List.getD_eq_getElem?_getD, List.getD_eq_getElem?_getD, List.getElem?_map]
  cases l[i]? <;> rfl
theorem nz_zero (n : Nat) : nz n = 0 ↔ n = 0 := by
  unfold nz
  split <;> omega
theorem packed_nz (l : List Nat) : Sg46.packed (l.map nz) = Sg46.packed l := by
  unfold Sg46.packed
  rw [List.length_map]
  apply List.map_congr_left
  intro k _
  congr 1
  apply List.map_congr_left
  intro j _
  rw [nz_get]
  by_cases h : l.getD (8 * k + j) 0 = 0
  · rw [if_pos h, if_pos ((nz_zero _).mpr h)]
  · rw [if_neg h, if_neg (fun z => h ((nz_zero _).mp z))]
def sp_row_behind_numbers (K : PySem.W.Frag) : Sp := fun vs H Q _ => ∃ (f : Nat) (v : Addr) (l : List Nat), vs = [.int f, .ref v] ∧ SqL K H v (nv l) ∧ Words l ∧ l.length ≤ 2000 ∧ NewL H Q (nv (rbn f l))
theorem ok_row_behind_numbers {f : Addr} {fd : FuncData} (Fn : Fun K "row_behind_numbers" "row_behind_numbers" s_row_behind_numbers f fd) (T : Txt K mg A) (c_counted : C8.Cal P w K mg base 1 "counted" sp_counted []) (c_bytes_of_bits : C8.Cal P w K mg base 2 "bytes_of_bits" (sp_bytes_of_bits K) []) (c_bytes_of_numbers : C8.Cal P w K mg base 1 "bytes_of_numbers" (sp_bytes_of_numbers K) []) : FnOk P w K mg base CX0 3 f fd ["function", "values"] (sp_row_behind_numbers K) := by
  refine Fn.ok sc_row_behind_numbers (fun vs H Q E h => ?_) (fun cdv Ar outer sh H vs Q E hr h => ?_)
  · obtain ⟨_, _, _, rfl, _⟩ := h
    rfl
  · have sc := sc_row_behind_numbers
    refine ⟨_, (pss_cons (ps_if (pt_cmpR op_eq (pv 0) pe_int (nomark _)) (pss_one (ps_ret (C8.pe_c c_counted hr (by decide) (by rfl) (pa_cons (C8.pe_c c_bytes_of_bits hr (by decide) (by rfl) (pa_cons (pe_lc (own := [("value", 2)]) (g := gName 2) rfl sc.nd (pi_list (pv 1)) (blkOk_by (own := [("value", 2)]) (N := n_row_behind_numbers) (sc := defScope s_row_behind_numbers) (by decide +kernel)) (fun _ _ _ _ _ => (pg_name (i := 2) sc.nd rfl (Or.inl rfl))) (fun _ _ _ _ _ => pts_nil) (fun _ _ _ _ _ => (pe_ifExp (pt_cmpR op_ne (pv 2) pe_int (nomark _)) pe_int pe_int))) pa_nil)) pa_nil)))) pss_nil)
      (pss_cons (ps_if (pt_cmpR op_eq (pv 0) pe_int (nomark _)) (pss_one (ps_ret (C8.pe_c c_counted hr (by decide) (by rfl) (pa_cons (C8.pe_c c_bytes_of_numbers hr (by decide) (by rfl) (pa_cons (pv 1) pa_nil)) pa_nil)))) pss_nil)
      (pss_one (ps_ret (pe_lst pa_nil))))), ?_⟩
    obtain ⟨f, v, l, rfl, hs, hw, hl, g⟩ := h
    refine ⟨_, rfl, rfl, _, rfl, ifb (fun b1 => ?_) (fun b1 => ?_)⟩
    · simp at b1
      have hn : rbn f l = (l.length + 7) / 8 :: Sg46.packed l := if_pos (by omega)
      rw [hn] at g
      refine ⟨_, rfl, v, rfl, ⟨_, hs⟩, fun M nM => ?_⟩
      refine lc_list (K := K) (a := v) (xs := nv l) (fun i H' => Same H H' ∧ H' M = some (.lst (nv ((l.take i).map nz)))) ⟨same_upd nM, upd_same⟩ (fun i H' _ z => z.1.seq hs) ?_ ?_
      · rintro i y H7 hi ⟨e, hM⟩
        obtain ⟨n, hn, rfl⟩ := nv_one hi
        refine ⟨rfl, ?_⟩
        have more : ∀ x : Nat, x = nz n → (∃ ys, H7 M = some (.lst ys) ∧ ys.length < sizeLine ∧ (Same H (upd H7 M (.lst (ys ++ [V.int (x : Int)]))) ∧ upd H7 M (.lst (ys ++ [V.int (x : Int)])) M = some (.lst (nv ((l.take (i + 1)).map nz))))) := fun x hx => by
          refine ⟨_, hM, szlt (by rw [nv_len, List.length_map, List.length_take]; omega), same_new e nM, ?_⟩
          rw [upd_same, take_more hn, List.map_append, nv_app, hx]
          rfl
        refine ⟨_, rfl, rfl, _, rfl, ifb (fun b2 => ?_) (fun b2 => ?_)⟩
        · simp at b2
          exact more 1 (by unfold nz; rw [if_neg (by omega)])
        · simp at b2
          exact more 0 (by unfold nz; rw [if_pos (by omega)])
      · rintro H7 ⟨e, hM⟩
        rw [nv_len, List.take_length] at hM
        refine ⟨M, l.map nz, rfl, SqL.of hM, nz_bits l, by rw [List.length_map]; omega, fun H3 p3 e3 n3 hp3 => ?_⟩
        rw [packed_nz] at hp3
        refine ⟨p3, _, rfl, hp3, by rw [nv_len, packed_len]; omega, fun H4 p4 e4 n4 hp4 => ?_⟩
        have e34 := (e.trans e3).trans e4
        refine g H4 p4 e34 ((e.trans e3).free n4) ?_
        rw [hp4, nv_len, packed_len]
        rfl
    · simp at b1
      refine ⟨_, rfl, rfl, _, rfl, ifb (fun b2 => ?_) (fun b2 => ?_)⟩
      · simp at b2
        have hn : rbn f l = 2 * l.length :: Sg46.words l := by
          unfold rbn
          rw [if_neg (by omega), if_pos (by omega)]
        rw [hn] at g
        refine ⟨_, rfl, v, l, rfl, hs, hw, by omega, fun H3 p3 e3 n3 hp3 => ?_⟩
        refine ⟨p3, _, rfl, hp3, by rw [nv_len, words_len]; omega, fun H4 p4 e4 n4 hp4 => ?_⟩
        refine g H4 p4 (e3.trans e4) (e3.free n4) ?_
        rw [hp4, nv_len, words_len]
        rfl
      · simp at b2
        have hn : rbn f l = [] := by
          unfold rbn
          rw [if_neg (by omega), if_neg (by omega)]
        rw [hn] at g
        exact ⟨Nat.zero_le _, fun p np => g _ p (same_upd np) np upd_same⟩
/-! ### ask -/
def askA (f a c : Int) (l : List Nat) : Sg46.Ans := if (Sg46.within f 1 255 && (Sg46.within a 0 65535 && (Sg46.within c 1 2000 && Sg46.placeOk f.toNat a.toNat c.toNat))) = false then Sg46.says (-2) else ((Sg46.ask f.toNat a.toNat c.toNat l).map Sg46.told).getD (Sg46.says (-2))
theorem does_ask (s : Sg46.Dev) (f a c : Int) (l : List Nat) : Sg46.does s (.ask f a c l) = (askA f a c l, s) := by
  unfold Sg46.does askA
  dsimp only
  congr 1
  split
  · rfl
  · cases Sg46.ask f.toNat a.toNat c.toNat l <;> rfl
def outL (x : Sg46.Ans) : List Int := x.code :: (if x.code < 0 then [] else ofN x.out)
theorem outL_says (n : Int) : outL (Sg46.says n) = [n] := by
  unfold outL Sg46.says
  dsimp only
  split <;> rfl
theorem outL_told (b : List Nat) : outL (Sg46.told b) = (b.length : Int) :: ofN b := by
  unfold outL Sg46.told
  dsimp only
  rw [if_neg (by omega)]
theorem step_out {s e : Sg46.Dev} {c : List (List Int)} {q : Sg46.Call} {x : Sg46.Ans} (hc : Sg46Neutral.callOf c = some (.inr q)) (hd : Sg46.does s q = (x, e)) : Sg46Neutral.step s c = (e, outL x) := by
  unfold Sg46Neutral.step
  rw [hc]
  dsimp only
  rw [hd]
  rfl
/-- what may be asked, as natural numbers -/
theorem may_nat {f a c : Int} (h : mayAsk f a c = true) : ∃ fn an cn : Nat, f = fn ∧ a = an ∧ c = cn ∧ an < 65536 ∧ 1 ≤ cn ∧ an + (if fn = 22 then 1 else cn) ≤ 65536 ∧
    (((fn = 1 ∨ fn = 2) ∧ cn ≤ 2000) ∨ ((fn = 3 ∨ fn = 4) ∧ cn ≤ 125) ∨ (fn = 5 ∧ cn = 1) ∨ (fn = 6 ∧ cn = 1) ∨ (fn = 15 ∧ cn ≤ 1968) ∨ (fn = 16 ∧ cn ≤ 123) ∨ (fn = 22 ∧ cn = 2)) := by
  unfold mayAsk at h
  simp only [Bool.and_eq_true, decide_eq_true_eq] at h
  obtain ⟨⟨h1, h2⟩, h3, h4⟩ := h
  unfold bnd at h1 h2
  have key : ∀ m : Int, 1 ≤ c → c ≤ m → 0 ≤ f → a ≤ 65535 → (∀ fn an cn : Nat, f = fn → a = an → c = cn → (((fn = 1 ∨ fn = 2) ∧ cn ≤ 2000) ∨ ((fn = 3 ∨ fn = 4) ∧ cn ≤ 125) ∨ (fn = 5 ∧ cn = 1) ∨ (fn = 6 ∧ cn = 1) ∨ (fn = 15 ∧ cn ≤ 1968) ∨ (fn = 16 ∧ cn ≤ 123) ∨ (fn = 22 ∧ cn = 2))) →
      ∃ fn an cn : Nat, f = fn ∧ a = an ∧ c = cn ∧ an < 65536 ∧ 1 ≤ cn ∧ an + (if fn = 22 then 1 else cn) ≤ 65536 ∧
    (((fn = 1 ∨ fn = 2) ∧ cn ≤ 2000) ∨ ((fn = 3 ∨ fn = 4) ∧ cn ≤ 125) ∨ (fn = 5 ∧ cn = 1) ∨ (fn = 6 ∧ cn = 1) ∨ (fn = 15 ∧ cn ≤ 1968) ∨ (fn = 16 ∧ cn ≤ 123) ∨ (fn = 22 ∧ cn = 2)) := fun m k1 k2 k3 k5 k4 => by
    refine ⟨f.toNat, a.toNat, c.toNat, by omega, by omega, by omega, by omega, by omega, ?_, k4 f.toNat a.toNat c.toNat (by omega) (by omega) (by omega)⟩
    by_cases z : f = 22
    · rw [if_pos z] at h4
      rw [if_pos (by omega)]
      omega
    · rw [if_neg z] at h4
      rw [if_neg (by omega)]
      omega
  have ha : 1 ≤ c → a ≤ 65535 := fun z => by
    split at h4 <;> omega
  split at h1
  · rename_i c1
    rw [if_pos c1] at h2
    exact key 2000 h1 h2 (by omega) (ha h1) (fun fn an cn q1 q2 q3 => by dsimp only at h1 h2; omega)
  rename_i c1
  rw [if_neg c1] at h2
  split at h1
  · rename_i c2
    rw [if_pos c2] at h2
    exact key 125 h1 h2 (by omega) (ha h1) (fun fn an cn q1 q2 q3 => by dsimp only at h1 h2; omega)
  rename_i c2
  rw [if_neg c2] at h2
  split at h1
  · rename_i c3
    rw [if_pos c3] at h2
    exact key 1 h1 h2 (by omega) (ha h1) (fun fn an cn q1 q2 q3 => by dsimp only at h1 h2; omega)
  rename_i c3
  rw [if_neg c3] at h2
  split at h1
  · rename_i c4
    rw [if_pos c4] at h2
    exact key 1968 h1 h2 (by omega) (ha h1) (fun fn an cn q1 q2 q3 => by dsimp only at h1 h2; omega)
  rename_i c4
  rw [if_neg c4] at h2
  split at h1
  · rename_i c5
    rw [if_pos c5] at h2
    exact key 123 h1 h2 (by omega) (ha h1) (fun fn an cn q1 q2 q3 => by dsimp only at h1 h2; omega)
  rename_i c5
  rw [if_neg c5] at h2
  split at h1
  · rename_i c6
    rw [if_pos c6] at h2
    have h1' : (2 : Int) ≤ c := h1
    have h2' : c ≤ (2 : Int) := h2
    exact key 2 (by omega) h2' (by omega) (ha (by omega)) (fun fn an cn q1 q2 q3 => by omega)
  rename_i c6
  rw [if_neg c6] at h2
  have h1' : (1 : Int) ≤ c := h1
  have h2' : c ≤ (0 : Int) := h2
  omega
theorem ask_some {f a c : Nat} {l b : List Nat} (hf : 1 ≤ f ∧ f ≤ 255) (ha : a < 65536) (hc : 1 ≤ c ∧ c ≤ 2000) (hp : a + (if f = 22 then 1 else c) ≤ 65536) (h : Sg46.ask f a c l = some b) : askA (f : Int) (a : Int) (c : Int) l = Sg46.told b := by
  unfold askA
  have hw : (Sg46.within (f : Int) 1 255 && (Sg46.within (a : Int) 0 65535 && (Sg46.within (c : Int) 1 2000 && Sg46.placeOk (f : Int).toNat (a : Int).toNat (c : Int).toNat))) = true := by
    unfold Sg46.within Sg46.placeOk
    rw [Int.toNat_natCast, Int.toNat_natCast, Int.toNat_natCast, decide_eq_true hp]
    simp
    omega
  rw [hw, if_neg (by decide), Int.toNat_natCast, Int.toNat_natCast, Int.toNat_natCast, h]
  rfl
theorem words_two (x y : Nat) : Sg46.words [x, y] = Sg46.two x ++ Sg46.two y := by
  show Sg46.two x ++ (Sg46.two y ++ []) = _
  rw [List.append_nil]
theorem ask_yes {f a c : Int} {l : List Nat} (h : mayAsk f a c = true) (hw : Words l) (hlen : (l.length : Int) = if ([5, 6, 15, 16, 22] : List Int).contains f = true ∧ ((0 ≤ a ∧ a ≤ 65535) ∧ (1 ≤ c ∧ c ≤ 2000)) then c else 0) :
    ∃ fn an cn : Nat, f = fn ∧ a = an ∧ c = cn ∧ fn < 256 ∧ (fn = 5 → 0 < l.length) ∧ (nbp fn cn l).length ≤ 2 ∧ Words (an :: nbp fn cn l) ∧ (rbn fn l).length ≤ 300 ∧ askA f a c l = Sg46.told ([fn] ++ Sg46.words (an :: nbp fn cn l) ++ rbn fn l) := by
  obtain ⟨fn, an, cn, rfl, rfl, rfl, ha, hc1, hp, hcase⟩ := may_nat h
  have len : (fn = 5 ∨ fn = 6 ∨ fn = 15 ∨ fn = 16 ∨ fn = 22) → cn ≤ 2000 → l.length = cn := fun q1 q2 => by
    rw [if_pos ⟨by simp; omega, by omega⟩] at hlen
    omega
  have ws : ∀ m : List Nat, Words m → Words (an :: m) := fun m hm x q => by
    rcases List.mem_cons.mp q with rfl | q
    · exact ha
    · exact hm x q
  have w1 : ∀ x, x < 65536 → Words [x] := fun x hx y q => by
    rw [List.mem_singleton] at q
    rw [q]
    exact hx
  refine ⟨fn, an, cn, rfl, rfl, rfl, ?_⟩
  rcases hcase with ⟨q, hc⟩ | ⟨q, hc⟩ | ⟨q, hc⟩ | ⟨q, hc⟩ | ⟨q, hc⟩ | ⟨q, hc⟩ | ⟨q, hc⟩
  · have hn : nbp fn cn l = [cn] := by unfold nbp; rw [if_neg (by omega), if_neg (by omega)]
    have hr : rbn fn l = [] := by unfold rbn; rw [if_neg (by omega), if_neg (by omega)]
    rw [hn, hr]
    refine ⟨by omega, by omega, by show 1 ≤ 2; decide, ws _ (w1 _ (by omega)), by show 0 ≤ 300; decide, ask_some (by omega) ha (by omega) hp ?_⟩
    unfold Sg46.ask
    rw [if_pos (.inl ⟨q, hc1, hc⟩), words_two, List.append_nil]
    rfl
  · have hn : nbp fn cn l = [cn] := by unfold nbp; rw [if_neg (by omega), if_neg (by omega)]
    have hr : rbn fn l = [] := by unfold rbn; rw [if_neg (by omega), if_neg (by omega)]
    rw [hn, hr]
    refine ⟨by omega, by omega, by show 1 ≤ 2; decide, ws _ (w1 _ (by omega)), by show 0 ≤ 300; decide, ask_some (by omega) ha (by omega) hp ?_⟩
    unfold Sg46.ask
    rw [if_pos (.inr ⟨q, hc1, hc⟩), words_two, List.append_nil]
    rfl
  · subst q hc
    obtain ⟨x, rfl⟩ : ∃ x, l = [x] := by
      have := len (by omega) (by omega)
      match l, this with
      | [x], _ => exact ⟨x, rfl⟩
    have hn : nbp 5 1 [x] = [if x = 0 then 0 else 65280] := rfl
    have hr : rbn 5 [x] = [] := rfl
    rw [hn, hr]
    refine ⟨by omega, fun _ => by show 0 < 1; decide, by show 1 ≤ 2; decide, ws _ (w1 _ (by split <;> omega)), by show 0 ≤ 300; decide, ask_some (by omega) ha (by omega) hp ?_⟩
    rw [words_two, List.append_nil]
    show some (5 :: Sg46.two an ++ (if x = 0 then [0, 0] else [255, 0])) = _
    by_cases hx : x = 0
    · rw [if_pos hx, if_pos hx]
      rfl
    · rw [if_neg hx, if_neg hx]
      rfl
  · subst q hc
    obtain ⟨x, rfl⟩ : ∃ x, l = [x] := by
      have := len (by omega) (by omega)
      match l, this with
      | [x], _ => exact ⟨x, rfl⟩
    have hn : nbp 6 1 [x] = [x] := rfl
    have hr : rbn 6 [x] = [] := rfl
    rw [hn, hr]
    refine ⟨by omega, by omega, by show 1 ≤ 2; decide, ws _ hw, by show 0 ≤ 300; decide, ask_some (by omega) ha (by omega) hp ?_⟩
    rw [words_two, List.append_nil]
    rfl
  · subst q
    have hll := len (by omega) (by omega)
    have hn : nbp 15 cn l = [cn] := rfl
    have hr : rbn 15 l = (l.length + 7) / 8 :: Sg46.packed l := rfl
    rw [hn, hr]
    refine ⟨by omega, by omega, by show 1 ≤ 2; decide, ws _ (w1 _ (by omega)), by rw [List.length_cons, packed_len]; omega, ask_some (by omega) ha (by omega) hp ?_⟩
    unfold Sg46.ask
    rw [if_neg (by omega), if_neg (by omega), if_neg (by omega), if_pos ⟨rfl, hc1, hc⟩, words_two, List.take_of_length_le (by omega), hll]
    simp
  · subst q
    have hll := len (by omega) (by omega)
    have hn : nbp 16 cn l = [cn] := rfl
    have hr : rbn 16 l = 2 * l.length :: Sg46.words l := rfl
    rw [hn, hr]
    refine ⟨by omega, by omega, by show 1 ≤ 2; decide, ws _ (w1 _ (by omega)), by rw [List.length_cons, words_len]; omega, ask_some (by omega) ha (by omega) hp ?_⟩
    unfold Sg46.ask
    rw [if_neg (by omega), if_neg (by omega), if_neg (by omega), if_neg (by omega), if_pos ⟨rfl, hc1, hc⟩, words_two, List.take_of_length_le (by omega), hll]
    simp
  · subst q hc
    have hll := len (by omega) (by omega)
    have hn : nbp 22 2 l = l := rfl
    have hr : rbn 22 l = [] := rfl
    rw [hn, hr]
    refine ⟨by omega, by omega, by omega, ws _ hw, by show 0 ≤ 300; decide, ask_some (by omega) ha (by omega) hp ?_⟩
    show some (22 :: Sg46.two an ++ Sg46.words (l.take 2)) = _
    rw [List.take_of_length_le (by omega), List.append_nil]
    rfl
theorem ask_no {f a c : Int} {l : List Nat} (h : mayAsk f a c = false) : askA f a c l = Sg46.says (-2) := by
  unfold askA
  split
  · rfl
  rename_i hw
  unfold Sg46.within Sg46.placeOk at hw
  simp only [Bool.not_eq_false, Bool.and_eq_true, decide_eq_true_eq] at hw
  obtain ⟨⟨f1, f2⟩, ⟨a1, a2⟩, ⟨c1, c2⟩, hp⟩ := hw
  obtain ⟨fn, rfl⟩ := Int.eq_ofNat_of_zero_le (show 0 ≤ f by omega)
  obtain ⟨an, rfl⟩ := Int.eq_ofNat_of_zero_le a1
  obtain ⟨cn, rfl⟩ := Int.eq_ofNat_of_zero_le (show 0 ≤ c by omega)
  rw [Int.toNat_natCast, Int.toNat_natCast, Int.toNat_natCast] at *
  have nob : ¬ ((bnd (fn : Int)).1 ≤ (cn : Int) ∧ (cn : Int) ≤ (bnd (fn : Int)).2) := fun z => by
    unfold mayAsk at h
    rw [decide_eq_true z.1, decide_eq_true z.2, decide_eq_true a1, Bool.true_and, Bool.true_and, Bool.true_and, decide_eq_false_iff_not] at h
    apply h
    by_cases q : fn = 22
    · rw [if_pos q] at hp
      rw [if_pos (by omega)]
      omega
    · rw [if_neg q] at hp
      rw [if_neg (by omega)]
      omega
  have hn : Sg46.ask fn an cn l = none := by
    unfold bnd at nob
    unfold Sg46.ask
    by_cases q1 : fn = 1 ∨ fn = 2
    · rw [if_pos (by omega)] at nob
      dsimp only at nob
      rw [if_neg (by omega), if_neg (by omega), if_neg (by omega), if_neg (by omega), if_neg (by omega), if_neg (by omega)]
    rw [if_neg (by omega)] at nob
    by_cases q2 : fn = 3 ∨ fn = 4
    · rw [if_pos (by omega)] at nob
      dsimp only at nob
      rw [if_neg (by omega), if_neg (by omega), if_neg (by omega), if_neg (by omega), if_neg (by omega), if_neg (by omega)]
    rw [if_neg (by omega)] at nob
    by_cases q3 : fn = 5 ∨ fn = 6
    · rw [if_pos (by omega)] at nob
      dsimp only at nob
      rw [if_neg (by omega), if_neg (by omega), if_neg (by omega), if_neg (by omega), if_neg (by omega), if_neg (by omega)]
    rw [if_neg (by omega)] at nob
    by_cases q4 : fn = 15
    · rw [if_pos (by omega)] at nob
      dsimp only at nob
      rw [if_neg (by omega), if_neg (by omega), if_neg (by omega), if_neg (by omega), if_neg (by omega), if_neg (by omega)]
    rw [if_neg (by omega)] at nob
    by_cases q5 : fn = 16
    · rw [if_pos (by omega)] at nob
      dsimp only at nob
      rw [if_neg (by omega), if_neg (by omega), if_neg (by omega), if_neg (by omega), if_neg (by omega), if_neg (by omega)]
    rw [if_neg (by omega)] at nob
    by_cases q6 : fn = 22
    · rw [if_pos (by omega)] at nob
      dsimp only at nob
      rw [if_neg (by omega), if_neg (by omega), if_neg (by omega), if_neg (by omega), if_neg (by omega), if_neg (by omega)]
    rw [if_neg (by omega), if_neg (by omega), if_neg (by omega), if_neg (by omega), if_neg (by omega), if_neg (by omega)]
  rw [hn]
  rfl
def sp_ask (K : PySem.W.Frag) : Sp := fun vs H Q _ => ∃ (f a c : Int) (v : Addr) (l : List Nat), vs = [.int f, .int a, .int c, .ref v] ∧ SqL K H v (nv l) ∧ Words l ∧ l.length ≤ 2000 ∧
  ((l.length : Int) = if ([5, 6, 15, 16, 22] : List Int).contains f = true ∧ ((0 ≤ a ∧ a ≤ 65535) ∧ (1 ≤ c ∧ c ≤ 2000)) then c else 0) ∧ NewL H Q (iv (outL (askA f a c l)))
theorem ok_ask {f : Addr} {fd : FuncData} (Fn : Fun K "ask" "ask" s_ask f fd) (T : Txt K mg A) (c_may_be_asked : C8.Cal P w K mg base 2 "may_be_asked" sp_may_be_asked []) (c_numbers_behind_place : C8.Cal P w K mg base 1 "numbers_behind_place" (sp_numbers_behind_place K) []) (c_row_behind_numbers : C8.Cal P w K mg base 3 "row_behind_numbers" (sp_row_behind_numbers K) []) (c_bytes_of_numbers : C8.Cal P w K mg base 1 "bytes_of_numbers" (sp_bytes_of_numbers K) []) (c_counted : C8.Cal P w K mg base 1 "counted" sp_counted []) : FnOk P w K mg base CX0 4 f fd ["function", "at", "count", "values"] (sp_ask K) := by
  refine Fn.ok sc_ask (fun vs H Q E h => ?_) (fun cdv Ar outer sh H vs Q E hr h => ?_)
  · obtain ⟨_, _, _, _, _, rfl, _⟩ := h
    rfl
  · have sc := sc_ask
    refine ⟨_, (pss_cons (ps_if (pt_not (pt_val (C8.pe_c c_may_be_asked hr (by decide) (by rfl) (pa_cons (pv 0) (pa_cons (pv 1) (pa_cons (pv 2) pa_nil)))))) (pss_one (ps_ret (pe_lst (pa_cons (pe_gi (by rfl) T.g_OUT_OF_RANGE) pa_nil)))) pss_nil)
      (pss_cons (ps_set (i := 4) sc.nd rfl (Or.inl rfl) (pe_op op_cat (pe_lst (pa_cons (pv 1) pa_nil)) (C8.pe_c c_numbers_behind_place hr (by decide) (by rfl) (pa_cons (pv 0) (pa_cons (pv 2) (pa_cons (pv 3) pa_nil))))))
      (pss_one (ps_ret (C8.pe_c c_counted hr (by decide) (by rfl) (pa_cons (pe_op op_cat (pe_op op_cat (pe_lst (pa_cons (pv 0) pa_nil)) (C8.pe_c c_bytes_of_numbers hr (by decide) (by rfl) (pa_cons (pv 4) pa_nil))) (C8.pe_c c_row_behind_numbers hr (by decide) (by rfl) (pa_cons (pv 0) (pa_cons (pv 3) pa_nil)))) pa_nil)))))), ?_⟩
    obtain ⟨f, a, c, v, l, rfl, hs, hw, hl, hlen, g⟩ := h
    refine ⟨_, rfl, _, rfl, _, rfl, f, a, c, rfl, fun H1 e1 => ⟨_, rfl, ifb (fun b1 => ?_) (fun b1 => ?_)⟩⟩
    · rw [Bool.not_eq_true'] at b1
      rw [ask_no b1, outL_says] at g
      exact ⟨by show 1 ≤ sizeLine; decide, fun p np => g _ p (same_new e1 (e1.free np)) (e1.free np) upd_same⟩
    · rw [Bool.not_eq_false'] at b1
      obtain ⟨fn, an, cn, rfl, rfl, rfl, hf, h5, hnl, hww, hrl, hask⟩ := ask_yes b1 hw hlen
      rw [hask, outL_told] at g
      have hal : (an :: nbp fn cn l).length ≤ 3 := by
        rw [List.length_cons]
        omega
      refine ⟨_, rfl, by show 1 ≤ sizeLine; decide, fun o no => ?_⟩
      have e2 := same_upd (o := .lst (nv [an])) no
      have e12 := e1.trans e2
      refine ⟨_, rfl, _, rfl, _, rfl, fn, cn, v, l, rfl, e12.seq hs, h5, fun H3 p3 e3 n3 hp3 => ?_⟩
      have e13 := e12.trans e3
      refine ⟨o, p3, _, _, rfl, rfl, e3 _ _ upd_same, hp3, sz (by rw [nv_len]; show 1 + _ ≤ _; omega), fun p4 n4 => ?_⟩
      have hx : [V.int (an : Int)] ++ nv (nbp fn cn l) = nv (an :: nbp fn cn l) := rfl
      rw [hx]
      have e4 := same_upd (o := .lst (nv (an :: nbp fn cn l))) n4
      have e14 := e13.trans e4
      refine ⟨_, rfl, by show 1 ≤ sizeLine; decide, fun p5 n5 => ?_⟩
      have e5 := same_upd (o := .lst (nv [fn])) n5
      have e15 := e14.trans e5
      refine ⟨_, rfl, p4, an :: nbp fn cn l, rfl, SqL.of (e5 _ _ upd_same), hww, by rw [List.length_cons]; omega, fun H6 p6 e6 n6 hp6 => ?_⟩
      have e16 := e15.trans e6
      refine ⟨p5, p6, _, _, rfl, rfl, e6 _ _ upd_same, hp6, sz (by rw [nv_len, words_len]; show 1 + _ ≤ _; omega), fun p7 n7 => ?_⟩
      have hx2 : [V.int (fn : Int)] ++ nv (Sg46.words (an :: nbp fn cn l)) = nv ([fn] ++ Sg46.words (an :: nbp fn cn l)) := rfl
      rw [hx2]
      have e7 := same_upd (o := .lst (nv ([fn] ++ Sg46.words (an :: nbp fn cn l)))) n7
      have e17 := e16.trans e7
      refine ⟨_, rfl, _, rfl, fn, v, l, rfl, e17.seq hs, hw, hl, fun H8 p8 e8 n8 hp8 => ?_⟩
      have e18 := e17.trans e8
      have hsz : ([fn] ++ Sg46.words (an :: nbp fn cn l)).length ≤ 100 := by
        rw [List.length_append, words_len]
        show 1 + _ ≤ _
        omega
      refine ⟨p7, p8, _, _, rfl, rfl, e8 _ _ upd_same, hp8, sz (by rw [nv_len, nv_len]; omega), fun p9 n9 => ?_⟩
      rw [← nv_app]
      have e9 := same_upd (o := .lst (nv ([fn] ++ Sg46.words (an :: nbp fn cn l) ++ rbn fn l))) n9
      have e19 := e18.trans e9
      refine ⟨p9, _, rfl, upd_same, by rw [nv_len, List.length_append]; omega, fun H10 p10 e10 n10 hp10 => ?_⟩
      rw [nv_len, nv_iv] at hp10
      exact g H10 p10 (e19.trans e10) (e19.free n10) hp10
end
end Bd

set_option Elab.async false
set_option linter.all false
set_option maxRecDepth 100000
set_option maxHeartbeats 2000000
namespace Bd
open PySem PySem.Spec PyProof.Rows L2
/-! ### an answer read -/
theorem cut_f' (l : List Nat) (i : Nat) : cutV (nv l) (some (i : Int)) none = nv (l.drop i) := by
  by_cases h : i ≤ l.length
  · exact cut_f l h
  · unfold cutV
    rw [HT.sIx_nat, HT.sIx_none, nv_len, Nat.min_eq_right (by omega), nv_drop, nv_take, List.drop_of_length_le (by omega), List.drop_of_length_le (by omega), List.take_nil]
section
variable {P : Program} {w : World} {K : PySem.W.Frag} {mg : Str → Option Value} {base : Heap} {A : Ad}
def isRef (q b : List Nat) : Bool := decide (q.getD 0 0 < 128) && (decide (b.length = 2) && decide (b.getD 0 0 = q.getD 0 0 + 128))
def sp_tells_refusal (K : PySem.W.Frag) : Sp := fun vs H Q _ => ∃ (x y : Addr) (q b : List Nat), vs = [.ref x, .ref y] ∧ SqL K H x (nv q) ∧ SqL K H y (nv b) ∧ 0 < q.length ∧ GivV H Q (.bl (isRef q b))
theorem ok_tells_refusal {f : Addr} {fd : FuncData} (Fn : Fun K "tells_refusal" "tells_refusal" s_tells_refusal f fd) (T : Txt K mg A) : FnOk P w K mg base CX0 1 f fd ["request", "answer"] (sp_tells_refusal K) := by
  refine Fn.ok sc_tells_refusal (fun vs H Q E h => ?_) (fun cdv Ar outer sh H vs Q E hr h => ?_)
  · obtain ⟨_, _, _, _, rfl, _⟩ := h
    rfl
  · have sc := sc_tells_refusal
    refine ⟨_, (pss_one (ps_ret (pe_and (pe_cmpR op_lt (pe_ix ix_list (pv 0) pe_int (fun _ _ => rfl)) pe_int (nomark _)) (pe_and (pe_cmpR op_eq (pe_callB call_len_seq (by rfl) T.b_len PySem.boot_len (pa_cons (pv 1) pa_nil)) pe_int (nomark _)) (pe_one (pe_cmpR op_eq (pe_ix ix_list (pv 1) pe_int (fun _ _ => rfl)) (pe_op op_add (pe_ix ix_list (pv 0) pe_int (fun _ _ => rfl)) pe_int) (nomark _))))))), ?_⟩
    obtain ⟨x, y, q, b, rfl, hq, hb, h0, g⟩ := h
    refine ⟨_, rfl, x, _, _, _, rfl, rfl, hq, (nv_at (i := 0) h0), _, _, rfl, rfl, _, rfl, ifb (fun b1 => ?_) (fun b1 => ?_)⟩
    · simp [-List.getD_eq_getElem?_getD] at b1
      refine ⟨_, rfl, y, _, rfl, .inl hb, rfl, _, rfl, ifb (fun b2 => ?_) (fun b2 => ?_)⟩
      · simp [nv_len] at b2
        refine ⟨_, rfl, y, _, _, _, rfl, rfl, hb, (nv_at (i := 0) (by omega)), _, rfl, x, _, _, _, rfl, rfl, hq, (nv_at (i := 0) h0), _, _, rfl, rfl, rfl, g.bl (Same.refl _) ?_⟩
        rw [Bool.eq_iff_iff]
        simp [isRef, -List.getD_eq_getElem?_getD]
        omega
      · refine g.bl (Same.refl _) ?_
        simp [nv_len] at b2
        simp [isRef, -List.getD_eq_getElem?_getD]
        omega
    · refine g.bl (Same.refl _) ?_
      simp [-List.getD_eq_getElem?_getD] at b1
      simp [isRef, -List.getD_eq_getElem?_getD]
      omega
/-! ### is_confirmed -/
def conf (q b : List Nat) : Bool := if q.getD 0 0 = 5 ∨ q.getD 0 0 = 6 ∨ q.getD 0 0 = 22 then decide (b = q) else if q.getD 0 0 = 15 ∨ q.getD 0 0 = 16 then decide (6 ≤ q.length) && decide (b = q.take 5) else false
def sp_is_confirmed (K : PySem.W.Frag) : Sp := fun vs H Q _ => ∃ (x y : Addr) (q b : List Nat), vs = [.ref x, .ref y] ∧ SqL K H x (nv q) ∧ SqL K H y (nv b) ∧ 0 < q.length ∧ GivV H Q (.bl (conf q b))
theorem ok_is_confirmed {f : Addr} {fd : FuncData} (Fn : Fun K "is_confirmed" "is_confirmed" s_is_confirmed f fd) (T : Txt K mg A) : FnOk P w K mg base CX0 1 f fd ["request", "answer"] (sp_is_confirmed K) := by
  refine Fn.ok sc_is_confirmed (fun vs H Q E h => ?_) (fun cdv Ar outer sh H vs Q E hr h => ?_)
  · obtain ⟨_, _, _, _, rfl, _⟩ := h
    rfl
  · have sc := sc_is_confirmed
    refine ⟨_, (pss_cons (ps_if (pt_cmpR op_in_seq (pe_ix ix_list (pv 0) pe_int (fun _ _ => rfl)) (pe_tup (pa_cons pe_int (pa_cons pe_int (pa_cons pe_int pa_nil)))) (by rfl)) (pss_one (ps_ret (pe_cmpR (op_eqD hr.units) (pv 1) (pv 0) (nomark _)))) pss_nil)
      (pss_cons (ps_if (pt_cmpR op_in_seq (pe_ix ix_list (pv 0) pe_int (fun _ _ => rfl)) (pe_tup (pa_cons pe_int (pa_cons pe_int pa_nil))) (by rfl)) (pss_one (ps_ret (pe_and (pe_cmpR op_ge (pe_callB call_len_seq (by rfl) T.b_len PySem.boot_len (pa_cons (pv 0) pa_nil)) pe_int (nomark _)) (pe_one (pe_cmpR (op_eqD hr.units) (pv 1) (pe_slice sl_list (pv 0) po_none (po_some pe_int)) (nomark _)))))) pss_nil)
      (pss_one (ps_ret pe_bl)))), ?_⟩
    obtain ⟨x, y, q, b, rfl, hq, hb, h0, g⟩ := h
    refine ⟨_, rfl, x, _, _, _, rfl, rfl, hq, (nv_at (i := 0) h0), by show 3 ≤ sizeLine; decide, fun z nz => ?_⟩
    have e1 : Same H (upd H z (.tup [.int 5, .int 6, .int 22])) := same_upd nz
    refine ⟨z, _, rfl, .inr (SqT.of upd_same), rfl, rfl, _, rfl, ifb (fun b1 => ?_) (fun b1 => ?_)⟩
    · simp [inV, eqV, -List.getD_eq_getElem?_getD] at b1
      refine ⟨_, rfl, _, rfl, _, _, dp_nv (e1.seq hb), dp_nv (e1.seq hq), dn_shaped _, dn_shaped _, g.bl e1 ?_⟩
      rw [dn_eqv]
      unfold conf
      rw [if_pos (by omega)]
    · simp [inV, eqV, -List.getD_eq_getElem?_getD] at b1
      generalize upd H z (.tup [.int 5, .int 6, .int 22]) = H1 at *
      refine ⟨_, rfl, x, _, _, _, rfl, rfl, e1.seq hq, (nv_at (i := 0) h0), by show 2 ≤ sizeLine; decide, fun z2 nz2 => ?_⟩
      have e2 : Same H1 (upd H1 z2 (.tup [.int 15, .int 16])) := same_upd nz2
      have e12 := e1.trans e2
      refine ⟨z2, _, rfl, .inr (SqT.of upd_same), rfl, rfl, _, rfl, ifb (fun b2 => ?_) (fun b2 => ?_)⟩
      · simp [inV, eqV, -List.getD_eq_getElem?_getD] at b2
        have hc : conf q b = (decide (6 ≤ q.length) && decide (b = q.take 5)) := by
          unfold conf
          rw [if_neg (by omega), if_pos (by omega)]
        rw [hc] at g
        refine ⟨_, rfl, x, _, rfl, .inl (e12.seq hq), _, _, rfl, rfl, _, rfl, ifb (fun b3 => ?_) (fun b3 => ?_)⟩
        · simp [nv_len] at b3
          refine ⟨_, rfl, _, rfl, _, rfl, x, _, rfl, e12.seq hq, fun p np => ?_⟩
          have c2 : cutV (nv q) none (some 5) = nv (q.take 5) := cut_t q (j := 5)
          rw [c2]
          have e3 := same_upd (o := .lst (nv (q.take 5))) np
          refine ⟨_, _, dp_nv ((e12.trans e3).seq hb), dp_nv (SqL.of upd_same), dn_shaped _, dn_shaped _, g.bl (e12.trans e3) ?_⟩
          rw [dn_eqv, decide_eq_true (show 6 ≤ q.length by omega), Bool.true_and]
        · simp [nv_len] at b3
          refine g.bl e12 ?_
          rw [decide_eq_false (show ¬ 6 ≤ q.length by omega), Bool.false_and]
      · simp [inV, eqV, -List.getD_eq_getElem?_getD] at b2
        refine g.bl e12 ?_
        unfold conf
        rw [if_neg (by omega), if_neg (by omega)]
/-! ### read_values -/
def valsA (q b : List Nat) : Sg46.Ans :=
  if q.getD 0 0 = 1 ∨ q.getD 0 0 = 2 then (if q.length = 5 ∧ 1 ≤ Sg46.at2 q 3 ∧ Sg46.at2 q 3 ≤ 2000 ∧ b.length = 2 + (Sg46.at2 q 3 + 7) / 8 ∧ b.headD 0 = q.getD 0 0 ∧ b.getD 1 0 = (Sg46.at2 q 3 + 7) / 8 then ⟨Sg46.at2 q 3, Sg46.unpacked (b.drop 2) (Sg46.at2 q 3)⟩ else Sg46.says (-5))
  else (if q.length = 5 ∧ 1 ≤ Sg46.at2 q 3 ∧ Sg46.at2 q 3 ≤ 125 ∧ b.length = 2 + 2 * Sg46.at2 q 3 ∧ b.headD 0 = q.getD 0 0 ∧ b.getD 1 0 = 2 * Sg46.at2 q 3 then ⟨Sg46.at2 q 3, Sg46.unworded (b.drop 2) (Sg46.at2 q 3)⟩ else Sg46.says (-5))
theorem fit_iff {b : List Nat} {f n : Nat} : (b.take 2 = [f, n] ∧ (b.drop 2).length = n) ↔ (b.length = 2 + n ∧ b.headD 0 = f ∧ b.getD 1 0 = n) := by
  match b with
  | [] =>
    simp
    omega
  | [x] =>
    simp
    omega
  | x :: y :: r =>
    simp
    omega
theorem outL_vals {n : Nat} {l : List Nat} (h : l.length = n) : outL ⟨(n : Int), l⟩ = ((l.length : Nat) : Int) :: ofN l := by
  unfold outL
  dsimp only
  rw [if_neg (by omega), h]
def sp_read_values (K : PySem.W.Frag) : Sp := fun vs H Q _ => ∃ (x y : Addr) (q b : List Nat), vs = [.ref x, .ref y] ∧ SqL K H x (nv q) ∧ SqL K H y (nv b) ∧ 0 < q.length ∧ 1 ≤ q.getD 0 0 ∧ q.getD 0 0 ≤ 4 ∧ b.length ≤ 253 ∧ NewL H Q (iv (outL (valsA q b)))
theorem ok_read_values {f : Addr} {fd : FuncData} (Fn : Fun K "read_values" "read_values" s_read_values f fd) (T : Txt K mg A) (c_has_right_form : C8.Cal P w K mg base 3 "has_right_form" (sp_has_right_form K) []) (c_number_at : C8.Cal P w K mg base 1 "number_at" (sp_number_at K) []) (c_bytes_for_bits : C8.Cal P w K mg base 1 "bytes_for_bits" sp_bytes_for_bits []) (c_counted : C8.Cal P w K mg base 1 "counted" sp_counted []) (c_bits_of_bytes : C8.Cal P w K mg base 1 "bits_of_bytes" (sp_bits_of_bytes K) []) (c_numbers_of_bytes : C8.Cal P w K mg base 2 "numbers_of_bytes" (sp_numbers_of_bytes K) []) : FnOk P w K mg base CX0 4 f fd ["request", "answer"] (sp_read_values K) := by
  refine Fn.ok sc_read_values (fun vs H Q E h => ?_) (fun cdv Ar outer sh H vs Q E hr h => ?_)
  · obtain ⟨_, _, _, _, rfl, _⟩ := h
    rfl
  · have sc := sc_read_values
    refine ⟨_, (pss_cons (ps_if (pt_not (pt_val (C8.pe_c c_has_right_form hr (by decide) (by rfl) (pa_cons (pv 0) pa_nil)))) (pss_one (ps_ret (pe_lst (pa_cons (pe_gi (by rfl) T.g_UNFIT) pa_nil)))) pss_nil)
      (pss_cons (ps_set (i := 2) sc.nd rfl (Or.inl rfl) (C8.pe_c c_number_at hr (by decide) (by rfl) (pa_cons (pv 0) (pa_cons pe_int pa_nil))))
      (pss_cons (ps_set (i := 3) sc.nd rfl (Or.inl rfl) (pe_cmpR op_in_seq (pe_ix ix_list (pv 0) pe_int (fun _ _ => rfl)) (pe_tup (pa_cons pe_int (pa_cons pe_int pa_nil))) (by rfl)))
      (pss_cons (ps_set (i := 4) sc.nd rfl (Or.inl rfl) (pe_ifExp (pt_val (pv 3)) (C8.pe_c c_bytes_for_bits hr (by decide) (by rfl) (pa_cons (pv 2) pa_nil)) (pe_op op_mul (pv 2) pe_int)))
      (pss_cons (ps_set (i := 5) sc.nd rfl (Or.inl rfl) (pe_slice sl_list (pv 1) (po_some pe_int) po_none))
      (pss_cons (ps_if (PW.pt (pw_or (pt_cmpR (op_neD hr.units) (pe_slice sl_list (pv 1) po_none (po_some pe_int)) (pe_lst (pa_cons (pe_ix ix_list (pv 0) pe_int (fun _ _ => rfl)) (pa_cons (pv 4) pa_nil))) (nomark _)) (pw_or1 (pt_cmpR op_ne (pe_callB call_len_seq (by rfl) T.b_len PySem.boot_len (pa_cons (pv 5) pa_nil)) (pv 4) (nomark _))))) (pss_one (ps_ret (pe_lst (pa_cons (pe_gi (by rfl) T.g_UNFIT) pa_nil)))) pss_nil)
      (pss_one (ps_ret (C8.pe_c c_counted hr (by decide) (by rfl) (pa_cons (pe_ifExp (pt_val (pv 3)) (C8.pe_c c_bits_of_bytes hr (by decide) (by rfl) (pa_cons (pv 5) (pa_cons (pv 2) pa_nil))) (C8.pe_c c_numbers_of_bytes hr (by decide) (by rfl) (pa_cons (pv 5) pa_nil))) pa_nil)))))))))), ?_⟩
    obtain ⟨x, y, q, b, rfl, hq, hb, h0, hf1, hf4, hbl, g⟩ := h
    have hk : fns.contains (q.getD 0 0) = true := by
      have : q.getD 0 0 = 1 ∨ q.getD 0 0 = 2 ∨ q.getD 0 0 = 3 ∨ q.getD 0 0 = 4 := by omega
      rcases this with z | z | z | z <;> rw [z] <;> rfl
    have unfit : ∀ H', Same H H' → valsA q b = Sg46.says (-5) → ([V.int (-5)] : List V).length ≤ sizeLine ∧ ∀ p, H' p = none → Q (.ref p) (upd H' p (.lst [V.int (-5)])) := fun H' e hv => by
      rw [hv, outL_says] at g
      exact ⟨by show 1 ≤ sizeLine; decide, fun p np => g _ p (same_new e (e.free np)) (e.free np) upd_same⟩
    refine ⟨_, rfl, x, q, rfl, hq, h0, hk, fun H1 e1 => ⟨_, rfl, ifb (fun b1 => ?_) (fun b1 => ?_)⟩⟩
    · rw [Bool.not_eq_true'] at b1
      refine unfit H1 e1 ?_
      unfold valsA
      by_cases z : q.getD 0 0 = 1 ∨ q.getD 0 0 = 2
      · have hfo : formOf q = fBits q := by
          rcases z with z | z <;> exact form_at z rfl
        rw [hfo] at b1
        simp [fBits] at b1
        rw [if_pos z, if_neg (by omega)]
      · have hfo : formOf q = fNums q := by
          have z2 : q.getD 0 0 = 3 ∨ q.getD 0 0 = 4 := by omega
          rcases z2 with z2 | z2 <;> exact form_at z2 rfl
        rw [hfo] at b1
        simp [fNums] at b1
        rw [if_neg z, if_neg (by omega)]
    · rw [Bool.not_eq_false'] at b1
      have hl5 : q.length = 5 := by
        have z : q.getD 0 0 = 1 ∨ q.getD 0 0 = 2 ∨ q.getD 0 0 = 3 ∨ q.getD 0 0 = 4 := by omega
        rcases z with z | z | z | z <;> rw [form_at z rfl] at b1 <;> simp [fBits, fNums, formF] at b1 <;> omega
      refine ⟨_, rfl, x, q, 3, rfl, e1.seq hq, by omega, ?_⟩
      refine ⟨_, rfl, x, _, _, _, rfl, rfl, e1.seq hq, (nv_at (i := 0) h0), by show 2 ≤ sizeLine; decide, fun z nz => ?_⟩
      have e2 : Same H1 (upd H1 z (.tup [.int 1, .int 2])) := same_upd nz
      have e12 := e1.trans e2
      refine ⟨z, _, rfl, .inr (SqT.of upd_same), rfl, rfl, ?_⟩
      generalize upd H1 z (.tup [.int 1, .int 2]) = H2 at *
      refine ⟨_, rfl, _, rfl, ifb (fun b2 => ?_) (fun b2 => ?_)⟩
      · have hof : q.getD 0 0 = 1 ∨ q.getD 0 0 = 2 := by
          simp [inV, eqV, -List.getD_eq_getElem?_getD] at b2
          omega
        have hfo : formOf q = fBits q := by
          rcases hof with z | z <;> exact form_at z rfl
        rw [hfo] at b1
        simp [fBits] at b1
        generalize hm : Sg46.at2 q 3 = m at *
        refine ⟨_, rfl, m, rfl, ?_⟩
        have hv : valsA q b = if b.length = 2 + (m + 7) / 8 ∧ b.headD 0 = q.getD 0 0 ∧ b.getD 1 0 = (m + 7) / 8 then ⟨(m : Int), Sg46.unpacked (b.drop 2) m⟩ else Sg46.says (-5) := by
          unfold valsA
          rw [if_pos hof, hm]
          by_cases c : b.length = 2 + (m + 7) / 8 ∧ b.headD 0 = q.getD 0 0 ∧ b.getD 1 0 = (m + 7) / 8
          · rw [if_pos c, if_pos ⟨hl5, by omega, by omega, c⟩]
          · rw [if_neg c, if_neg (fun k => c k.2.2.2)]
        generalize hn : (m + 7) / 8 = n at *
        refine ⟨_, rfl, _, rfl, y, _, rfl, e12.seq hb, fun p3 n3 => ?_⟩
        have c1 : cutV (nv b) (some 2) none = nv (b.drop 2) := cut_f' b 2
        rw [c1]
        have e3 := same_upd (o := .lst (nv (b.drop 2))) n3
        have e13 := e12.trans e3
        refine ⟨_, rfl, _, rfl, y, _, rfl, e13.seq hb, fun p4 n4 => ?_⟩
        have c2 : cutV (nv b) none (some 2) = nv (b.take 2) := cut_t b (j := 2)
        rw [c2]
        have e4 := same_upd (o := .lst (nv (b.take 2))) n4
        have e14 := e13.trans e4
        refine ⟨_, rfl, x, _, _, _, rfl, rfl, e14.seq hq, (nv_at (i := 0) h0), _, rfl, by show 2 ≤ sizeLine; decide, fun p5 n5 => ?_⟩
        have e5 := same_upd (o := .lst (nv [q.getD 0 0, n])) n5
        have e15 := e14.trans e5
        refine ⟨_, _, dp_nv (SqL.of (e5 _ _ upd_same)), dp_nv (l := [q.getD 0 0, n]) (SqL.of upd_same), dn_shaped _, dn_shaped _, _, rfl, ?_⟩
        rw [dn_eqv]
        have hp3 := (e4.trans e5) p3 _ upd_same
        refine ifb (fun b3 => ?_) (fun b3 => ?_)
        · rw [Bool.not_eq_true', decide_eq_false_iff_not] at b3
          refine iteT (unfit _ e15 ?_)
          rw [hv, if_neg (fun k => b3 (fit_iff.mpr k).1)]
        · rw [Bool.not_eq_false', decide_eq_true_eq] at b3
          refine ⟨_, rfl, p3, _, rfl, .inl (SqL.of hp3), _, rfl, rfl, _, rfl, ifb (fun b4 => ?_) (fun b4 => ?_)⟩
          · simp [nv_len] at b4
            refine unfit _ e15 ?_
            rw [hv, if_neg (fun k => by have := (fit_iff.mpr k).2; rw [List.length_drop] at this; omega)]
          · have hfit : (b.drop 2).length = n := by
              simp [nv_len] at b4
              rw [List.length_drop]
              omega
            rw [hv, if_pos (fit_iff.mp ⟨b3, hfit⟩), outL_vals (unpacked_len _ _)] at g
            refine ⟨_, rfl, _, rfl, ifb (fun b5 => ?_) (fun b5 => ?_)⟩
            · refine ⟨_, rfl, _, rfl, p3, b.drop 2, m, rfl, SqL.of hp3, by omega, by omega, fun H6 p6 e6 n6 hp6 => ?_⟩
              refine ⟨p6, _, rfl, hp6, by rw [nv_len, unpacked_len]; omega, fun H7 p7 e7 n7 hp7 => ?_⟩
              rw [nv_len, nv_iv] at hp7
              exact g H7 p7 ((e15.trans e6).trans e7) ((e15.trans e6).free n7) hp7
            · rw [b2] at b5
              cases b5
      · have hof : ¬ (q.getD 0 0 = 1 ∨ q.getD 0 0 = 2) := by
          simp [inV, eqV, -List.getD_eq_getElem?_getD] at b2
          omega
        have hfo : formOf q = fNums q := by
          have z2 : q.getD 0 0 = 3 ∨ q.getD 0 0 = 4 := by omega
          rcases z2 with z | z <;> exact form_at z rfl
        rw [hfo] at b1
        simp [fNums] at b1
        generalize hm : Sg46.at2 q 3 = m at *
        refine ⟨_, rfl, _, _, rfl, rfl, .inr ⟨by decide, by decide⟩, ?_⟩
        have hv : valsA q b = if b.length = 2 + m * 2 ∧ b.headD 0 = q.getD 0 0 ∧ b.getD 1 0 = m * 2 then ⟨(m : Int), Sg46.unworded (b.drop 2) m⟩ else Sg46.says (-5) := by
          unfold valsA
          rw [if_neg hof, hm, show 2 * m = m * 2 by omega]
          by_cases c : b.length = 2 + m * 2 ∧ b.headD 0 = q.getD 0 0 ∧ b.getD 1 0 = m * 2
          · rw [if_pos c, if_pos ⟨hl5, by omega, by omega, c⟩]
          · rw [if_neg c, if_neg (fun k => c k.2.2.2)]
        refine ⟨_, rfl, _, rfl, y, _, rfl, e12.seq hb, fun p3 n3 => ?_⟩
        have c1 : cutV (nv b) (some 2) none = nv (b.drop 2) := cut_f' b 2
        rw [c1]
        have e3 := same_upd (o := .lst (nv (b.drop 2))) n3
        have e13 := e12.trans e3
        refine ⟨_, rfl, _, rfl, y, _, rfl, e13.seq hb, fun p4 n4 => ?_⟩
        have c2 : cutV (nv b) none (some 2) = nv (b.take 2) := cut_t b (j := 2)
        rw [c2]
        have e4 := same_upd (o := .lst (nv (b.take 2))) n4
        have e14 := e13.trans e4
        refine ⟨_, rfl, x, _, _, _, rfl, rfl, e14.seq hq, (nv_at (i := 0) h0), _, rfl, by show 2 ≤ sizeLine; decide, fun p5 n5 => ?_⟩
        have e5 := same_upd (o := .lst (nv [q.getD 0 0, m * 2])) n5
        have e15 := e14.trans e5
        refine ⟨_, _, dp_nv (SqL.of (e5 _ _ upd_same)), dp_nv (l := [q.getD 0 0, m * 2]) (SqL.of upd_same), dn_shaped _, dn_shaped _, _, rfl, ?_⟩
        rw [dn_eqv]
        have hp3 := (e4.trans e5) p3 _ upd_same
        refine ifb (fun b3 => ?_) (fun b3 => ?_)
        · rw [Bool.not_eq_true', decide_eq_false_iff_not] at b3
          refine iteT (unfit _ e15 ?_)
          rw [hv, if_neg (fun k => b3 (fit_iff.mpr k).1)]
        · rw [Bool.not_eq_false', decide_eq_true_eq] at b3
          refine ⟨_, rfl, p3, _, rfl, .inl (SqL.of hp3), _, rfl, rfl, _, rfl, ifb (fun b4 => ?_) (fun b4 => ?_)⟩
          · simp [nv_len] at b4
            refine unfit _ e15 ?_
            rw [hv, if_neg (fun k => by have := (fit_iff.mpr k).2; rw [List.length_drop] at this; omega)]
          · have hfit : (b.drop 2).length = m * 2 := by
              simp [nv_len] at b4
              rw [List.length_drop]
              omega
            rw [hv, if_pos (fit_iff.mp ⟨b3, hfit⟩), outL_vals (unworded_len _ _)] at g
            refine ⟨_, rfl, _, rfl, ifb (fun b5 => ?_) (fun b5 => ?_)⟩
            · rw [b2] at b5
              cases b5
            · refine ⟨_, rfl, p3, b.drop 2, m, rfl, SqL.of hp3, by omega, by omega, fun H6 p6 e6 n6 hp6 => ?_⟩
              refine ⟨p6, _, rfl, hp6, by rw [nv_len, unworded_len]; omega, fun H7 p7 e7 n7 hp7 => ?_⟩
              rw [nv_len, nv_iv] at hp7
              exact g H7 p7 ((e15.trans e6).trans e7) ((e15.trans e6).free n7) hp7
/-! ### read -/
def readA (q b : List Nat) : Sg46.Ans := if (Sg46.within (q.length : Int) 1 253 && Sg46.within (b.length : Int) 1 253) = false then Sg46.says (-2) else Sg46.read q b
theorem isRef_iff (q b : List Nat) : (b = [q.getD 0 0 + 128, b.getD 1 0] ∧ q.getD 0 0 < 128) ↔ isRef q b = true := by
  unfold isRef
  rw [Bool.and_eq_true, Bool.and_eq_true, decide_eq_true_eq, decide_eq_true_eq, decide_eq_true_eq]
  match b with
  | [] => simp
  | [x] => simp
  | [x, y] =>
    show ([x, y] = [q.getD 0 0 + 128, y] ∧ _) ↔ (_ ∧ 2 = 2 ∧ x = _)
    constructor
    · rintro ⟨h1, h2⟩
      exact ⟨h2, rfl, (List.cons.inj h1).1⟩
    · rintro ⟨h1, _, h2⟩
      exact ⟨by rw [h2], h1⟩
  | x :: y :: z :: r => simp
theorem read_ref {q b : List Nat} (h : isRef q b = true) : Sg46.read q b = Sg46.says (-256 - ((b.getD 1 0 : Nat) : Int)) := by
  have h' := (isRef_iff q b).mpr h
  unfold Sg46.read
  rw [headD_getD]
  exact if_pos h'
theorem read_vals {q b : List Nat} (h : isRef q b = false) (h1 : 1 ≤ q.getD 0 0) (h4 : q.getD 0 0 ≤ 4) : Sg46.read q b = valsA q b := by
  have h' : ¬ (b = [q.getD 0 0 + 128, b.getD 1 0] ∧ q.getD 0 0 < 128) := fun z => by
    rw [(isRef_iff q b).mp z] at h
    cases h
  unfold Sg46.read valsA
  rw [headD_getD]
  dsimp only
  rw [if_neg h']
  by_cases c : q.getD 0 0 = 1 ∨ q.getD 0 0 = 2
  · rw [if_pos c, if_pos c]
  · rw [if_neg c, if_neg c, if_pos (by omega)]
theorem read_conf {q b : List Nat} (h : isRef q b = false) (h1 : ¬ (1 ≤ q.getD 0 0 ∧ q.getD 0 0 ≤ 4)) : Sg46.read q b = Sg46.says (if conf q b = true then 0 else -5) := by
  have h' : ¬ (b = [q.getD 0 0 + 128, b.getD 1 0] ∧ q.getD 0 0 < 128) := fun z => by
    rw [(isRef_iff q b).mp z] at h
    cases h
  unfold Sg46.read conf
  rw [headD_getD]
  dsimp only
  rw [if_neg h', if_neg (by omega), if_neg (by omega)]
  by_cases c : q.getD 0 0 = 5 ∨ q.getD 0 0 = 6 ∨ q.getD 0 0 = 22
  · rw [if_pos c, if_pos c]
    by_cases d : b = q
    · rw [if_pos d, decide_eq_true d]
      rfl
    · rw [if_neg d, decide_eq_false d]
      rfl
  · rw [if_neg c, if_neg c]
    by_cases c2 : q.getD 0 0 = 15 ∨ q.getD 0 0 = 16
    · rw [if_pos c2, if_pos c2]
      by_cases d : b = q.take 5 ∧ 5 < q.length
      · rw [if_pos d, decide_eq_true d.1, decide_eq_true (show 6 ≤ q.length from d.2)]
        rfl
      · rw [if_neg d]
        have : (decide (6 ≤ q.length) && decide (b = q.take 5)) = false := by
          rw [Bool.and_eq_false_iff, decide_eq_false_iff_not, decide_eq_false_iff_not]
          by_cases e : b = q.take 5
          · exact .inl (fun k => d ⟨e, k⟩)
          · exact .inr e
        rw [this]
        rfl
    · rw [if_neg c2, if_neg c2]
      rfl
def sp_read (K : PySem.W.Frag) : Sp := fun vs H Q _ => ∃ (x y : Addr) (q b : List Nat), vs = [.ref x, .ref y] ∧ SqL K H x (nv q) ∧ SqL K H y (nv b) ∧ q.length ≤ 253 ∧ b.length ≤ 253 ∧ NewL H Q (iv (outL (readA q b)))
theorem ok_read {f : Addr} {fd : FuncData} (Fn : Fun K "read" "read" s_read f fd) (T : Txt K mg A) (c_tells_refusal : C8.Cal P w K mg base 1 "tells_refusal" (sp_tells_refusal K) []) (c_read_values : C8.Cal P w K mg base 4 "read_values" (sp_read_values K) []) (c_is_confirmed : C8.Cal P w K mg base 1 "is_confirmed" (sp_is_confirmed K) []) : FnOk P w K mg base CX0 5 f fd ["request", "answer"] (sp_read K) := by
  refine Fn.ok sc_read (fun vs H Q E h => ?_) (fun cdv Ar outer sh H vs Q E hr h => ?_)
  · obtain ⟨_, _, _, _, rfl, _⟩ := h
    rfl
  · have sc := sc_read
    refine ⟨_, (pss_cons (ps_if (pt_not (PW.pt (pw_and (pt_chain op_le op_le pe_int (pe_callB call_len_seq (by rfl) T.b_len PySem.boot_len (pa_cons (pv 0) pa_nil)) pe_int) (pw_and1 (pt_chain op_le op_le pe_int (pe_callB call_len_seq (by rfl) T.b_len PySem.boot_len (pa_cons (pv 1) pa_nil)) pe_int))))) (pss_one (ps_ret (pe_lst (pa_cons (pe_gi (by rfl) T.g_OUT_OF_RANGE) pa_nil)))) pss_nil)
      (pss_cons (ps_if (pt_val (C8.pe_c c_tells_refusal hr (by decide) (by rfl) (pa_cons (pv 0) (pa_cons (pv 1) pa_nil)))) (pss_one (ps_ret (pe_lst (pa_cons (pe_op op_sub (pe_gi (by rfl) T.g_REFUSAL_TOLD) (pe_ix ix_list (pv 1) pe_int (fun _ _ => rfl))) pa_nil)))) pss_nil)
      (pss_cons (ps_if (pt_chain op_le op_le pe_int (pe_ix ix_list (pv 0) pe_int (fun _ _ => rfl)) pe_int) (pss_one (ps_ret (C8.pe_c c_read_values hr (by decide) (by rfl) (pa_cons (pv 0) (pa_cons (pv 1) pa_nil))))) pss_nil)
      (pss_one (ps_ret (pe_ifExp (pt_val (C8.pe_c c_is_confirmed hr (by decide) (by rfl) (pa_cons (pv 0) (pa_cons (pv 1) pa_nil)))) (pe_lst (pa_cons pe_int pa_nil)) (pe_lst (pa_cons (pe_gi (by rfl) T.g_UNFIT) pa_nil)))))))), ?_⟩
    obtain ⟨x, y, q, b, rfl, hq, hb, hql, hbl, g⟩ := h
    have no : q.length = 0 ∨ b.length = 0 → ([V.int (-2)] : List V).length ≤ sizeLine ∧ ∀ p, H p = none → Q (.ref p) (upd H p (.lst [V.int (-2)])) := fun z => by
      have hr : readA q b = Sg46.says (-2) := by
        unfold readA Sg46.within
        rw [if_pos]
        rw [Bool.and_eq_false_iff]
        rcases z with z | z
        · rw [z]
          exact .inl (by decide)
        · rw [z]
          exact .inr (by decide)
      rw [hr, outL_says] at g
      exact ⟨by show 1 ≤ sizeLine; decide, fun p np => g _ p (same_upd np) np upd_same⟩
    refine ⟨_, rfl, x, _, rfl, .inl hq, _, _, rfl, rfl, chain_le ?_⟩
    rw [nv_len]
    refine ifb (fun b1 => ?_) (fun b1 => ?_)
    · simp at b1
      refine ⟨_, rfl, y, _, rfl, .inl hb, _, _, rfl, rfl, chain_le ?_⟩
      rw [nv_len]
      refine ifb (fun b2 => ?_) (fun b2 => ?_)
      · rw [Bool.not_eq_true'] at b2
        simp at b2
        exact no (by omega)
      · rw [Bool.not_eq_false'] at b2
        simp at b2
        have hr : readA q b = Sg46.read q b := by
          unfold readA Sg46.within
          rw [if_neg]
          simp
          omega
        rw [hr] at g
        refine ⟨_, rfl, _, rfl, x, y, q, b, rfl, hq, hb, by omega, fun H1 e1 => ⟨_, rfl, ifb (fun b3 => ?_) (fun b3 => ?_)⟩⟩
        · have h2 : b.length = 2 := by
            have b3' := b3
            unfold isRef at b3'
            simp [-List.getD_eq_getElem?_getD] at b3'
            omega
          rw [read_ref b3, outL_says] at g
          refine ⟨_, rfl, y, _, _, _, rfl, rfl, e1.seq hb, (nv_at (i := 1) (by omega)), _, _, rfl, rfl, by show 1 ≤ sizeLine; decide, fun p np => ?_⟩
          exact g _ p (same_new e1 (e1.free np)) (e1.free np) upd_same
        · refine ⟨_, rfl, x, _, _, _, rfl, rfl, e1.seq hq, (nv_at (i := 0) (by omega)), _, _, rfl, rfl, chain_le (ifb (fun b4 => ?_) (fun b4 => ?_))⟩
          · simp [-List.getD_eq_getElem?_getD] at b4
            rw [read_vals b3 (by omega) (by omega)] at g
            exact ⟨_, rfl, _, rfl, x, y, q, b, rfl, e1.seq hq, e1.seq hb, by omega, by omega, by omega, hbl, fun H2 p e2 np hp => g H2 p (e1.trans e2) (e1.free np) hp⟩
          · simp [-List.getD_eq_getElem?_getD] at b4
            rw [read_conf b3 (by omega), outL_says] at g
            refine ⟨_, rfl, _, rfl, x, y, q, b, rfl, e1.seq hq, e1.seq hb, by omega, fun H2 e2 => ⟨_, rfl, ifb (fun b5 => ?_) (fun b5 => ?_)⟩⟩
            · rw [b5, if_pos rfl] at g
              exact ⟨by show 1 ≤ sizeLine; decide, fun p np => g _ p (same_new (e1.trans e2) ((e1.trans e2).free np)) ((e1.trans e2).free np) upd_same⟩
            · rw [b5, if_neg (by decide)] at g
              exact ⟨by show 1 ≤ sizeLine; decide, fun p np => g _ p (same_new (e1.trans e2) ((e1.trans e2).free np)) ((e1.trans e2).free np) upd_same⟩
    · simp at b1
      exact iteT (no (by omega))
end
end Bd

set_option Elab.async false
set_option linter.all false
set_option maxRecDepth 100000
set_option maxHeartbeats 2000000
namespace Bd
open PySem PySem.Spec PyProof.Rows L2
section
variable {P : Program} {w : World} {K : PySem.W.Frag} {mg : Str → Option Value} {base : Heap} {A : Ad}
theorem tcp_len {s : Sg46.Dev} {l : List Nat} (ok : DevOk s) (hb : Byt l) (hl : l.length ≤ 300) : (Sg46.netIn s l).1.length ≤ 1000 := by
  unfold Sg46.netIn
  split
  · dsimp only
    split
    · obtain ⟨h1, h2, h3⟩ := answer_keeps (q := l.drop 7) ((ok.more 0).more 3) (byt_drop hb 7) (by rw [List.length_drop]; omega)
      rw [List.length_append, List.length_append, List.length_take, List.length_cons]
      show min 4 l.length + 2 + _ ≤ 1000
      omega
    · exact Nat.zero_le _
  · exact Nat.zero_le _
theorem ok_call_tcp {f : Addr} {fd : FuncData} (Fn : Fun K "call_tcp" "call_tcp" s_call_tcp f fd) (T : Txt K mg A) (c_counted : C8.Cal P w K mg base 1 "counted" sp_counted []) (c_answer_tcp : C8.Cal P w K mg base 6 "answer_tcp" (sp_answer_tcp A) []) : FnOk P w K mg base CX0 7 f fd ["device", "numbers", "rows"] (sp_call A 6 (fun ns rows => ns = [] ∧ ∃ l, rows = [l] ∧ Byt l ∧ l.length ≤ 260)) := by
  refine Fn.ok sc_call_tcp (fun vs H Q E h => ?_) (fun cdv Ar outer sh H vs Q E hr h => ?_)
  · obtain ⟨_, _, _, _, _, _, _, _, rfl, _⟩ := h
    rfl
  · have sc := sc_call_tcp
    refine ⟨_, (pss_cons (ps_if (pt_cmpR op_gt (pe_callB call_len_seq (by rfl) T.b_len PySem.boot_len (pa_cons (pe_ix ix_list (pv 2) pe_int (fun _ _ => rfl)) pa_nil)) pe_int (nomark _)) (pss_one (ps_ret (pe_lst (pa_cons (pe_gi (by rfl) T.g_OUT_OF_RANGE) pa_nil)))) pss_nil)
      (pss_one (ps_ret (C8.pe_c c_counted hr (by decide) (by rfl) (pa_cons (C8.pe_c c_answer_tcp hr (by decide) (by rfl) (pa_cons (pv 0) (pa_cons (pe_ix ix_list (pv 2) pe_int (fun _ _ => rfl)) pa_nil))) pa_nil))))), ?_⟩
    obtain ⟨d, nu, ro, ns, rs, rows, s, F, rfl, D, ok, On, Or, hlr, hrow, ⟨h5, l, rfl, hb, hl⟩, g⟩ := h
    subst h5
    obtain ⟨a, Or1, Oa⟩ := one_row Or hlr hrow
    rw [whole_row (by omega)] at g
    have hw : Sg46.within (l.length : Int) 0 260 = true := by
      unfold Sg46.within
      simp
      omega
    have hd : Sg46.does s (.tcp l (l.length : Int)) = (Sg46.told (Sg46.netIn s l).1, (Sg46.netIn s l).2) := by
      show (if Sg46.within (l.length : Int) 0 260 = false then _ else _) = _
      rw [hw]
      rfl
    have hc : Sg46Neutral.callOf [[6, (l.length : Int)], ofN l] = some (.inr (.tcp l (l.length : Int))) := by
      show some (Sum.inr (Sg46.Call.tcp (Sg46Neutral.nats (ofN l)) _)) = _
      rw [nats_ofN]
    rw [step_told hc hd] at g
    refine ⟨_, rfl, ro, _, _, _, rfl, rfl, Or1.sq, atI_nat (j := 0) rfl, a, _, rfl, .inl Oa.sq, _, _, rfl, rfl, _, rfl, ?_⟩
    rw [nv_len]
    refine ifb (fun b1 => ?_) (fun b1 => ?_)
    · simp at b1
      omega
    · refine ⟨_, rfl, _, rfl, ro, _, _, _, rfl, rfl, Or1.sq, atI_nat (j := 0) rfl, d, a, l, s, F, rfl, D, Oa, ok, hb, by omega, fun H2 F2 p2 st2 D2 n2 a2 hp2 => ?_⟩
      have kl := tcp_len ok hb (show l.length ≤ 300 by omega)
      refine ⟨p2, _, rfl, hp2, by rw [nv_len]; omega, fun H3 p3 e3 n3 hp3 => ?_⟩
      rw [nv_len, nv_iv] at hp3
      exact g H3 F2 p3 (st2.trans (.of_same e3)) (D2.same e3) (st2.free n3) (D2.fresh n3) hp3
theorem ok_call_counts {f : Addr} {fd : FuncData} (Fn : Fun K "call_counts" "call_counts" s_call_counts f fd) (T : Txt K mg A) : FnOk P w K mg base CX0 1 f fd ["device", "numbers", "rows"] (sp_call A 7 (fun ns rows => ns = [] ∧ rows = [])) := by
  refine Fn.ok sc_call_counts (fun vs H Q E h => ?_) (fun cdv Ar outer sh H vs Q E hr h => ?_)
  · obtain ⟨_, _, _, _, _, _, _, _, rfl, _⟩ := h
    rfl
  · have sc := sc_call_counts
    refine ⟨_, (pss_one (ps_ret (pe_op op_cat (pe_lst (pa_cons pe_int pa_nil)) (pe_fld (pv 0) rfl)))), ?_⟩
    obtain ⟨d, nu, ro, ns, rs, rows, s, F, rfl, D, ok, On, Or, hlr, hrow, ⟨h5, h0⟩, g⟩ := h
    subst h5 h0
    have hc : Sg46Neutral.callOf (callAt 7 [] []) = some (.inr .counts) := rfl
    have hd : Sg46.does s .counts = (⟨0, s.counts⟩, s) := rfl
    rw [step_of hc hd, if_neg (by decide)] at g
    refine ⟨by show 1 ≤ sizeLine; decide, fun o no => ?_⟩
    have e1 := same_upd (o := .lst [V.int 0]) no
    obtain ⟨dx, t, c, ts, h1, h2, h3, h4, h5, h6, h7⟩ := (D.same e1).ex
    refine ⟨_, rfl, d, _, dx, _, _, rfl, h4, T.cl, T.n_tallies, dF_tallies _ _ _, o, c, _, _, rfl, rfl, upd_same, h6, sz (by rw [nv_len, ok.cl]; show 1 + 6 ≤ _; decide), fun p np => ?_⟩
    have hx : [V.int 0] ++ nv s.counts = iv (0 :: ofN s.counts) := by
      rw [nv_iv]
      rfl
    rw [hx]
    have e2 := same_upd (o := .lst (iv (0 :: ofN s.counts))) np
    exact g _ F p (.of_same (e1.trans e2)) ((D.same e1).same e2) (e1.free np) ((D.same e1).fresh np) upd_same
theorem ok_call_crc {f : Addr} {fd : FuncData} (Fn : Fun K "call_crc" "call_crc" s_call_crc f fd) (T : Txt K mg A) (c_crc : C8.Cal P w K mg base 1 "crc" (sp_crc K) []) : FnOk P w K mg base CX0 2 f fd ["device", "numbers", "rows"] (sp_call A 8 (fun ns rows => ns = [] ∧ ∃ l, rows = [l] ∧ Byt l ∧ l.length ≤ 29000)) := by
  refine Fn.ok sc_call_crc (fun vs H Q E h => ?_) (fun cdv Ar outer sh H vs Q E hr h => ?_)
  · obtain ⟨_, _, _, _, _, _, _, _, rfl, _⟩ := h
    rfl
  · have sc := sc_call_crc
    refine ⟨_, (pss_cons (ps_if (pt_cmpR op_gt (pe_callB call_len_seq (by rfl) T.b_len PySem.boot_len (pa_cons (pe_ix ix_list (pv 2) pe_int (fun _ _ => rfl)) pa_nil)) (pe_gi (by rfl) T.g_MOST_SUMMED) (nomark _)) (pss_one (ps_ret (pe_lst (pa_cons (pe_gi (by rfl) T.g_OUT_OF_RANGE) pa_nil)))) pss_nil)
      (pss_one (ps_ret (pe_lst (pa_cons (C8.pe_c c_crc hr (by decide) (by rfl) (pa_cons (pe_ix ix_list (pv 2) pe_int (fun _ _ => rfl)) pa_nil)) pa_nil))))), ?_⟩
    obtain ⟨d, nu, ro, ns, rs, rows, s, F, rfl, D, ok, On, Or, hlr, hrow, ⟨h5, l, rfl, hb, hl⟩, g⟩ := h
    subst h5
    obtain ⟨a, Or1, Oa⟩ := one_row Or hlr hrow
    rw [whole_row (by omega)] at g
    have hw : Sg46.within (l.length : Int) 0 65536 = true := by
      unfold Sg46.within
      simp
      omega
    have hd : Sg46.does s (.crc l (l.length : Int)) = (Sg46.says (Sg46.crc l : Nat), s) := by
      show (if Sg46.within (l.length : Int) 0 65536 = false then _ else _, s) = _
      rw [hw]
      rfl
    have hc : Sg46Neutral.callOf [[8, (l.length : Int)], ofN l] = some (.inr (.crc l (l.length : Int))) := by
      show some (Sum.inr (Sg46.Call.crc (Sg46Neutral.nats (ofN l)) _)) = _
      rw [nats_ofN]
    rw [step_one hc hd] at g
    refine ⟨_, rfl, ro, _, _, _, rfl, rfl, Or1.sq, atI_nat (j := 0) rfl, a, _, rfl, .inl Oa.sq, _, _, rfl, rfl, _, rfl, ?_⟩
    rw [nv_len]
    refine ifb (fun b1 => ?_) (fun b1 => ?_)
    · simp at b1
      omega
    · refine ⟨_, rfl, ro, _, _, _, rfl, rfl, Or1.sq, atI_nat (j := 0) rfl, a, l, rfl, Oa.sq, by show 1 ≤ sizeLine; decide, fun p np => ?_⟩
      have e2 := same_upd (o := .lst (iv [((Sg46.crc l : Nat) : Int)])) np
      exact g _ F p (.of_same e2) (D.same e2) np (D.fresh np) upd_same
theorem ok_call_lrc {f : Addr} {fd : FuncData} (Fn : Fun K "call_lrc" "call_lrc" s_call_lrc f fd) (T : Txt K mg A) (c_lrc : C8.Cal P w K mg base 1 "lrc" (sp_lrc K) []) : FnOk P w K mg base CX0 2 f fd ["device", "numbers", "rows"] (sp_call A 9 (fun ns rows => ns = [] ∧ ∃ l, rows = [l] ∧ Byt l ∧ l.length ≤ 29000)) := by
  refine Fn.ok sc_call_lrc (fun vs H Q E h => ?_) (fun cdv Ar outer sh H vs Q E hr h => ?_)
  · obtain ⟨_, _, _, _, _, _, _, _, rfl, _⟩ := h
    rfl
  · have sc := sc_call_lrc
    refine ⟨_, (pss_cons (ps_if (pt_cmpR op_gt (pe_callB call_len_seq (by rfl) T.b_len PySem.boot_len (pa_cons (pe_ix ix_list (pv 2) pe_int (fun _ _ => rfl)) pa_nil)) (pe_gi (by rfl) T.g_MOST_SUMMED) (nomark _)) (pss_one (ps_ret (pe_lst (pa_cons (pe_gi (by rfl) T.g_OUT_OF_RANGE) pa_nil)))) pss_nil)
      (pss_one (ps_ret (pe_lst (pa_cons (C8.pe_c c_lrc hr (by decide) (by rfl) (pa_cons (pe_ix ix_list (pv 2) pe_int (fun _ _ => rfl)) pa_nil)) pa_nil))))), ?_⟩
    obtain ⟨d, nu, ro, ns, rs, rows, s, F, rfl, D, ok, On, Or, hlr, hrow, ⟨h5, l, rfl, hb, hl⟩, g⟩ := h
    subst h5
    obtain ⟨a, Or1, Oa⟩ := one_row Or hlr hrow
    rw [whole_row (by omega)] at g
    have hw : Sg46.within (l.length : Int) 0 65536 = true := by
      unfold Sg46.within
      simp
      omega
    have hd : Sg46.does s (.lrc l (l.length : Int)) = (Sg46.says (Sg46.lrc l : Nat), s) := by
      show (if Sg46.within (l.length : Int) 0 65536 = false then _ else _, s) = _
      rw [hw]
      rfl
    have hc : Sg46Neutral.callOf [[9, (l.length : Int)], ofN l] = some (.inr (.lrc l (l.length : Int))) := by
      show some (Sum.inr (Sg46.Call.lrc (Sg46Neutral.nats (ofN l)) _)) = _
      rw [nats_ofN]
    rw [step_one hc hd] at g
    refine ⟨_, rfl, ro, _, _, _, rfl, rfl, Or1.sq, atI_nat (j := 0) rfl, a, _, rfl, .inl Oa.sq, _, _, rfl, rfl, _, rfl, ?_⟩
    rw [nv_len]
    refine ifb (fun b1 => ?_) (fun b1 => ?_)
    · simp at b1
      omega
    · refine ⟨_, rfl, ro, _, _, _, rfl, rfl, Or1.sq, atI_nat (j := 0) rfl, a, l, rfl, Oa.sq, by show 1 ≤ sizeLine; decide, fun p np => ?_⟩
      have e2 := same_upd (o := .lst (iv [((Sg46.lrc l : Nat) : Int)])) np
      exact g _ F p (.of_same e2) (D.same e2) np (D.fresh np) upd_same
theorem ok_call_ask {f : Addr} {fd : FuncData} (Fn : Fun K "call_ask" "call_ask" s_call_ask f fd) (T : Txt K mg A) (c_ask : C8.Cal P w K mg base 4 "ask" (sp_ask K) []) : FnOk P w K mg base CX0 5 f fd ["device", "numbers", "rows"] (sp_call A 10 (fun ns rows => ∃ f a c, ns = [f, a, c] ∧ ∃ l, rows = [l] ∧ Words l ∧ l.length ≤ 2000 ∧ (l.length : Int) = if ([5, 6, 15, 16, 22] : List Int).contains f = true ∧ ((0 ≤ a ∧ a ≤ 65535) ∧ (1 ≤ c ∧ c ≤ 2000)) then c else 0)) := by
  refine Fn.ok sc_call_ask (fun vs H Q E h => ?_) (fun cdv Ar outer sh H vs Q E hr h => ?_)
  · obtain ⟨_, _, _, _, _, _, _, _, rfl, _⟩ := h
    rfl
  · have sc := sc_call_ask
    refine ⟨_, (pss_one (ps_ret (C8.pe_c c_ask hr (by decide) (by rfl) (pa_cons (pe_ix ix_list (pv 1) pe_int (fun _ _ => rfl)) (pa_cons (pe_ix ix_list (pv 1) pe_int (fun _ _ => rfl)) (pa_cons (pe_ix ix_list (pv 1) pe_int (fun _ _ => rfl)) (pa_cons (pe_ix ix_list (pv 2) pe_int (fun _ _ => rfl)) pa_nil))))))), ?_⟩
    obtain ⟨d, nu, ro, ns, rs, rows, s, F, rfl, D, ok, On, Or, hlr, hrow, ⟨f, a, c, rfl, l, rfl, hw, hl, hlen⟩, g⟩ := h
    obtain ⟨v, Or1, Oa⟩ := one_row Or hlr hrow
    have hc : Sg46Neutral.callOf (callAt 10 [f, a, c] [l]) = some (.inr (.ask f a c l)) := by
      show some (Sum.inr (Sg46.Call.ask f a c (Sg46Neutral.nats (ofN l)))) = _
      rw [nats_ofN]
    rw [step_out hc (does_ask s f a c l)] at g
    refine ⟨_, rfl, nu, _, _, _, rfl, rfl, On.sq, (iv_at (i := 0) (by show 0 < 3; decide)), _, rfl, nu, _, _, _, rfl, rfl, On.sq, (iv_at (i := 1) (by show 1 < 3; decide)), _, rfl, nu, _, _, _, rfl, rfl, On.sq, (iv_at (i := 2) (by show 2 < 3; decide)), _, rfl, ro, _, _, _, rfl, rfl, Or1.sq, atI_nat (j := 0) rfl, f, a, c, v, l, rfl, Oa.sq, hw, hl, hlen, fun H2 p e np hp => ?_⟩
    exact g H2 F p (.of_same e) (D.same e) np (D.fresh np) hp
/-- the two rows of a call -/
theorem two_rows {H : Hp} {F : List Addr} {ro : Addr} {rs : List Addr} {l m : List Nat} (Or : Own H F ro (rs.map V.ref)) (hlr : rs.length = [l, m].length) (hrow : ∀ (i : Nat) (a : Addr) (l' : List Nat), rs[i]? = some a → [l, m][i]? = some l' → Own H F a (nv l')) :
    ∃ a b, Own H F ro [V.ref a, V.ref b] ∧ Own H F a (nv l) ∧ Own H F b (nv m) := by
  match rs, hlr with
  | [a, b], _ => exact ⟨a, b, Or, hrow 0 a l rfl rfl, hrow 1 b m rfl rfl⟩
theorem ok_call_read {f : Addr} {fd : FuncData} (Fn : Fun K "call_read" "call_read" s_call_read f fd) (T : Txt K mg A) (c_read : C8.Cal P w K mg base 5 "read" (sp_read K) []) : FnOk P w K mg base CX0 6 f fd ["device", "numbers", "rows"] (sp_call A 11 (fun ns rows => ns = [] ∧ ∃ q b, rows = [q, b] ∧ Byt q ∧ Byt b ∧ q.length ≤ 253 ∧ b.length ≤ 253)) := by
  refine Fn.ok sc_call_read (fun vs H Q E h => ?_) (fun cdv Ar outer sh H vs Q E hr h => ?_)
  · obtain ⟨_, _, _, _, _, _, _, _, rfl, _⟩ := h
    rfl
  · have sc := sc_call_read
    refine ⟨_, (pss_one (ps_ret (C8.pe_c c_read hr (by decide) (by rfl) (pa_cons (pe_ix ix_list (pv 2) pe_int (fun _ _ => rfl)) (pa_cons (pe_ix ix_list (pv 2) pe_int (fun _ _ => rfl)) pa_nil))))), ?_⟩
    obtain ⟨d, nu, ro, ns, rs, rows, s, F, rfl, D, ok, On, Or, hlr, hrow, ⟨h5, q, b, rfl, hqb, hbb, hql, hbl⟩, g⟩ := h
    subst h5
    obtain ⟨x, y, Or1, Ox, Oy⟩ := two_rows Or hlr hrow
    have hc : Sg46Neutral.callOf (callAt 11 [] [q, b]) = some (.inr (.read q b (q.length : Int) (b.length : Int))) := by
      show some (Sum.inr (Sg46.Call.read (Sg46Neutral.nats (ofN q)) (Sg46Neutral.nats (ofN b)) ((ofN q).length : Int) ((ofN b).length : Int))) = _
      rw [nats_ofN, nats_ofN, ofN_len, ofN_len]
    have hd : Sg46.does s (.read q b (q.length : Int) (b.length : Int)) = (readA q b, s) := rfl
    rw [step_out hc hd] at g
    refine ⟨_, rfl, ro, _, _, _, rfl, rfl, Or1.sq, atI_nat (j := 0) rfl, _, rfl, ro, _, _, _, rfl, rfl, Or1.sq, atI_nat (j := 1) rfl, x, y, q, b, rfl, Ox.sq, Oy.sq, hql, hbl, fun H2 p e np hp => ?_⟩
    exact g H2 F p (.of_same e) (D.same e) np (D.fresh np) hp
end
end Bd

set_option Elab.async false
set_option linter.all false
set_option maxRecDepth 100000
set_option maxHeartbeats 2000000
namespace Bd
open PySem PySem.Spec PyProof.Rows L2
/-! ### the flat list -/
theorem row_some {r x s : List Int} (h : PyFlat.row r = some (x, s)) : ∃ (n : Nat) (r' : List Int), r = (n : Int) :: r' ∧ n ≤ r'.length ∧ x = r'.take n ∧ s = r'.drop n := by
  cases r with
  | nil => cases h
  | cons n r' =>
    have h : (if 0 ≤ n ∧ n.toNat ≤ r'.length then some (r'.take n.toNat, r'.drop n.toNat) else none) = some (x, s) := h
    split at h
    · rename_i hc
      obtain ⟨h1, h2⟩ := Prod.mk.inj (Option.some.inj h)
      obtain ⟨m, rfl⟩ := Int.eq_ofNat_of_zero_le hc.1
      rw [Int.toNat_natCast] at h1 h2 hc
      exact ⟨m, r', rfl, hc.2, h1.symm, h2.symm⟩
    · cases h
theorem rows_some {k : Nat} {r : List Int} {xs : List (List Int)} {t : List Int} (h : PyFlat.rows (k + 1) r = some (xs, t)) : ∃ x s ys, PyFlat.row r = some (x, s) ∧ PyFlat.rows k s = some (ys, t) ∧ xs = x :: ys := by
  unfold PyFlat.rows at h
  split at h
  · cases h
  · rename_i x s h1
    split at h
    · cases h
    · rename_i ys t' h2
      obtain ⟨a, b⟩ := Prod.mk.inj (Option.some.inj h)
      subst a b
      exact ⟨x, s, ys, h1, h2, rfl⟩
theorem rows_len : ∀ {k : Nat} {r : List Int} {xs : List (List Int)} {t : List Int}, PyFlat.rows k r = some (xs, t) → xs.length = k ∧ t = r.drop (xs.map fun x => x.length + 1).sum
  | 0, r, xs, t, h => by
    obtain ⟨a, b⟩ := Prod.mk.inj (Option.some.inj h)
    subst a b
    exact ⟨rfl, rfl⟩
  | k + 1, r, xs, t, h => by
    obtain ⟨x, s, ys, h1, h2, rfl⟩ := rows_some h
    obtain ⟨n, r', rfl, hn, rfl, rfl⟩ := row_some h1
    obtain ⟨h3, h4⟩ := rows_len h2
    refine ⟨by rw [List.length_cons, h3], ?_⟩
    rw [h4, List.drop_drop, List.map_cons, List.sum_cons, List.length_take, Nat.min_eq_left hn]
    rw [show n + 1 + (ys.map fun x => x.length + 1).sum = (n + (ys.map fun x => x.length + 1).sum) + 1 by omega, List.drop_succ_cons]
theorem drop_cons_at {l : List Int} {i : Nat} {x : Int} {r : List Int} (h : l.drop i = x :: r) : i < l.length ∧ l.getD i 0 = x ∧ l.drop (i + 1) = r := by
  have hi : i < l.length := by
    by_cases z : i < l.length
    · exact z
    · rw [List.drop_of_length_le (by omega)] at h
      cases h
  rw [List.drop_eq_getElem_cons hi] at h
  obtain ⟨h1, h2⟩ := List.cons.inj h
  refine ⟨hi, ?_, h2⟩
  rw [List.getD_eq_getElem?_getD, List.getElem?_eq_getElem hi]
  exact h1
theorem cutI_ft (l : List Int) {i j : Nat} (hi : i ≤ l.length) (hj : j ≤ l.length) : cutV (iv l) (some (i : Int)) (some (j : Int)) = iv ((l.drop i).take (j - i)) := by
  unfold cutV
  rw [HT.sIx_nat, HT.sIx_nat, iv_len, Nat.min_eq_left hi, Nat.min_eq_left hj]
  unfold iv
  rw [← List.map_drop, ← List.map_take]
section
variable {P : Program} {w : World} {K : PySem.W.Frag} {mg : Str → Option Value} {base : Heap} {A : Ad}
def sp_rows_from (K : PySem.W.Frag) : Sp := fun vs H Q _ => ∃ (a : Addr) (l : List Int) (i k : Nat) (xs : List (List Int)) (t : List Int), vs = [.ref a, .int i, .int k] ∧ SqL K H a (iv l) ∧ l.length ≤ 100000 ∧ i ≤ l.length ∧ k ≤ 1000 ∧ PyFlat.rows k (l.drop i) = some (xs, t) ∧
  ∀ H' p (ps : List Addr), Same H H' → H p = none → H' p = some (.lst (ps.map V.ref)) → ps.length = xs.length → (∀ (j : Nat) (b : Addr) (x : List Int), ps[j]? = some b → xs[j]? = some x → H b = none ∧ H' b = some (.lst (iv x))) → Q (.ref p) H'
def slotN (σ : L2.St) (j n : Nat) : Nat := match σ[j]? with
  | some (some (.int i)) => n - i.toNat
  | _ => 0
theorem ok_rows_from {f : Addr} {fd : FuncData} (Fn : Fun K "rows_from" "rows_from" s_rows_from f fd) (T : Txt K mg A) : FnOk P w K mg base CX0 1 f fd ["calls", "at", "many"] (sp_rows_from K) := by
  refine Fn.ok sc_rows_from (fun vs H Q E h => ?_) (fun cdv Ar outer sh H vs Q E hr h => ?_)
  · obtain ⟨_, _, _, _, _, _, rfl, _⟩ := h
    rfl
  · have sc := sc_rows_from
    refine ⟨_, (pss_cons (ps_set (i := 3) sc.nd rfl (Or.inl rfl) (pe_lst pa_nil))
      (pss_cons (ps_set (i := 4) sc.nd rfl (Or.inl rfl) (pv 1))
      (pss_cons (ps_while PassesOwn.never (pt_cmpR op_lt (pe_callB call_len_seq (by rfl) T.b_len PySem.boot_len (pa_cons (pv 3) pa_nil)) (pv 2) (nomark _)) (pss_cons (ps_set (i := 5) sc.nd rfl (Or.inl rfl) (pe_op op_add (pe_op op_add (pv 4) pe_int) (pe_ix ix_list (pv 0) (pv 4) (fun _ _ => rfl))))
      (pss_cons (ps_expr (pe_bm PySem.F.plainAttrs_list PySem.F.slot_list_append PySem.F.type_list_append mt_append (pv 3) (pa_cons (pe_slice sl_list (pv 0) (po_some (pe_op op_add (pv 4) pe_int)) (po_some (pv 5))) pa_nil)))
      (pss_one (ps_set (i := 4) sc.nd rfl (Or.inl rfl) (pv 5))))))
      (pss_one (ps_ret (pv 3)))))), ?_⟩
    obtain ⟨a, l, i, k, xs, t, rfl, hs, hl, hi, hk1000, hrows, g⟩ := h
    refine ⟨by show 0 ≤ sizeLine; decide, fun p np => ?_⟩
    refine ⟨_, rfl, ?_⟩
    refine while_by (fun σ H' => ∃ (ps : List Addr) (done rest : List (List Int)) (st : Nat) (v : Option V), σ = [some (.ref a), some (.int i), some (.int k), some (.ref p), some (.int st), v] ∧ Same H H' ∧ H' p = some (.lst (ps.map V.ref)) ∧ ps.length = done.length ∧ xs = done ++ rest ∧
        rest.length + done.length = k ∧ st ≤ l.length ∧ PyFlat.rows rest.length (l.drop st) = some (rest, t) ∧ ∀ (j : Nat) (b : Addr) (x : List Int), ps[j]? = some b → done[j]? = some x → H b = none ∧ b ≠ p ∧ H' b = some (.lst (iv x)))
      (fun σ _ => slotN σ 4 (l.length + 1)) ?_ ?_ ?_
    · have hk := (rows_len hrows).1
      exact ⟨[], [], xs, i, none, rfl, same_upd np, upd_same, rfl, rfl, by show xs.length + 0 = k; omega, hi, by rw [hk]; exact hrows, fun j b x hb _ => by simp at hb⟩
    · rintro σ H1 ⟨ps, done, rest, st, v, rfl, e, hp, hpl, hx, hk, hst, hr2, hall⟩
      refine ⟨_, rfl, p, _, rfl, .inl (SqL.of hp), _, rfl, _, _, rfl, rfl, _, rfl, ?_⟩
      rw [List.length_map, hpl]
      refine ifb (fun b1 => ?_) (fun b1 => ?_)
      · simp at b1
        obtain ⟨x, rest', rfl⟩ : ∃ x rest', rest = x :: rest' := by
          cases rest with
          | nil => simp at hk; omega
          | cons x r => exact ⟨x, r, rfl⟩
        obtain ⟨x', s', ys, h1, h2, hy⟩ := rows_some hr2
        obtain ⟨rfl, rfl⟩ := List.cons.inj hy
        obtain ⟨n, r', hd, hn, rfl, rfl⟩ := row_some h1
        obtain ⟨hlt, hget, hdrop⟩ := drop_cons_at hd
        have hr'l : r'.length = l.length - (st + 1) := by rw [← hdrop, List.length_drop]
        have hs1 := e.seq hs
        refine ⟨_, rfl, _, _, rfl, rfl, _, rfl, _, rfl, a, _, _, _, rfl, rfl, hs1, (iv_at hlt), _, _, rfl, rfl, ?_⟩
        rw [hget]
        refine ⟨_, rfl, .inl ⟨rfl, _, SqL.of hp⟩, _, rfl, _, rfl, _, _, rfl, rfl, _, rfl, _, rfl, _, rfl, a, _, rfl, hs1, fun b nb => ?_⟩
        have hcut : cutV (iv l) (some ((st : Int) + 1)) (some ((st : Int) + 1 + (n : Int))) = iv (r'.take n) := by
          have e1 : (st : Int) + 1 = ((st + 1 : Nat) : Int) := by omega
          have e2 : (st : Int) + 1 + (n : Int) = ((st + 1 + n : Nat) : Int) := by omega
          rw [e2, e1, cutI_ft l (by omega) (by omega), hdrop, show st + 1 + n - (st + 1) = n by omega]
        have pb : p ≠ b := ne_of_none hp nb
        have hpb : upd H1 b (.lst (cutV (iv l) (some ((st : Int) + 1)) (some ((st : Int) + 1 + (n : Int))))) p = some (.lst (ps.map V.ref)) := by
          rw [upd_ne pb]
          exact hp
        refine ⟨p, _, _, rfl, rfl, hpb, szlt (by rw [List.length_map, hpl]; omega), ?_⟩
        rw [hcut]
        have eb := same_upd (o := .lst (iv (r'.take n))) nb
        refine ⟨_, rfl, ⟨ps ++ [b], done ++ [r'.take n], rest', st + 1 + n, some (.int ((st : Int) + 1 + (n : Int))), ?_, fun c o hc => ?_, ?_, ?_, ?_, ?_, ?_, ?_, ?_⟩, ?_⟩
        · show [_, _, _, _, some (V.int ((st : Int) + 1 + (n : Int))), _] = _
          rw [show (st : Int) + 1 + (n : Int) = ((st + 1 + n : Nat) : Int) by omega]
          rfl
        · rw [upd_ne (ne_of_none hc np)]
          exact eb _ _ (e c o hc)
        · rw [upd_same, List.map_append]
          rfl
        · rw [List.length_append, List.length_append, hpl]
          rfl
        · rw [hx, List.append_assoc]
          rfl
        · rw [List.length_append]
          show rest'.length + (done.length + 1) = k
          simp at hk
          omega
        · omega
        · have hdd : l.drop (st + 1 + n) = r'.drop n := by rw [← hdrop, List.drop_drop]
          rw [hdd]
          exact h2
        · intro j c x h1 h2
          by_cases z : j < ps.length
          · rw [List.getElem?_append_left z] at h1
            rw [List.getElem?_append_left (by omega)] at h2
            obtain ⟨q1, q2, q3⟩ := hall j c x h1 h2
            refine ⟨q1, q2, ?_⟩
            rw [upd_ne q2]
            exact eb _ _ q3
          · have z2 : j = ps.length := by
              have := (List.getElem?_eq_some_iff.mp h1).1
              rw [List.length_append] at this
              simp at this
              omega
            subst z2
            rw [List.getElem?_append_right (by omega), Nat.sub_self] at h1
            rw [List.getElem?_append_right (by omega), hpl, Nat.sub_self] at h2
            obtain rfl := Option.some.inj h1
            obtain rfl := Option.some.inj h2
            exact ⟨e.free nb, pb.symm, by rw [upd_ne pb.symm, upd_same]⟩
        · show slotN _ 4 (l.length + 1) < slotN _ 4 (l.length + 1)
          show l.length + 1 - ((st : Int) + 1 + (n : Int)).toNat < l.length + 1 - ((st : Nat) : Int).toNat
          omega
      · simp at b1
        have hrn : rest = [] := by
          cases rest with
          | nil => rfl
          | cons x r => simp at hk; omega
        subst hrn
        rw [List.append_nil] at hx
        subst hx
        exact ⟨_, rfl, g H1 p ps e np hp hpl (fun j b x h1 h2 => ⟨(hall j b x h1 h2).1, (hall j b x h1 h2).2.2⟩)⟩
    · intro σ H Q Q' hq h
      obtain ⟨v, hv, p', ys, e1, e2, w', hw, i', j', e3, e4, k', e5, q⟩ := h
      exact ⟨v, hv, p', ys, e1, e2, w', hw, i', j', e3, e4, k', e5, hq _ _ q⟩
end
end Bd

set_option Elab.async false
set_option linter.all false
set_option maxRecDepth 100000
set_option maxHeartbeats 2000000
namespace Bd
open PySem PySem.Spec PyProof.Rows L2
/-! ### the calls that may be handed in -/
def Good (p : Int) (ns : List Int) (rows : List (List Nat)) : Prop :=
  (p = 0 ∧ ns.length = 5 ∧ rows = []) ∨ (p = 1 ∧ ns.length = 3 ∧ rows = []) ∨ (p = 2 ∧ ns.length = 2 ∧ rows = []) ∨
  (p = 3 ∧ ns = [] ∧ ∃ l, rows = [l] ∧ Byt l ∧ l.length ≤ 253) ∨ (p = 4 ∧ ns = [] ∧ ∃ l, rows = [l] ∧ Byt l ∧ l.length ≤ 256) ∨ (p = 5 ∧ ns = [] ∧ ∃ l, rows = [l] ∧ Byt l ∧ l.length ≤ 513) ∨
  (p = 6 ∧ ns = [] ∧ ∃ l, rows = [l] ∧ Byt l ∧ l.length ≤ 260) ∨ (p = 7 ∧ ns = [] ∧ rows = []) ∨
  (p = 8 ∧ ns = [] ∧ ∃ l, rows = [l] ∧ Byt l ∧ l.length ≤ 29000) ∨ (p = 9 ∧ ns = [] ∧ ∃ l, rows = [l] ∧ Byt l ∧ l.length ≤ 29000) ∨
  (p = 10 ∧ (∃ f a c, ns = [f, a, c] ∧ ∃ l, rows = [l] ∧ Words l ∧ l.length ≤ 2000 ∧ (l.length : Int) = if ([5, 6, 15, 16, 22] : List Int).contains f = true ∧ ((0 ≤ a ∧ a ≤ 65535) ∧ (1 ≤ c ∧ c ≤ 2000)) then c else 0)) ∨
  (p = 11 ∧ ns = [] ∧ ∃ q b, rows = [q, b] ∧ Byt q ∧ Byt b ∧ q.length ≤ 253 ∧ b.length ≤ 253)
def GoodRaw (c : List (List Int)) : Prop := ∃ p ns rows, c = (p :: ns) :: rows.map ofN ∧ Good p ns rows
theorem call_some {shape : Int → Option (Nat × Nat)} {p : Int} {r t : List Int} {c : List (List Int)} (h : PyFlat.call shape (p :: r) = some (c, t)) :
    ∃ n k xs, shape p = some (n, k) ∧ n ≤ r.length ∧ PyFlat.rows k (r.drop n) = some (xs, t) ∧ c = (p :: r.take n) :: xs := by
  have h : (match shape p with
    | none => none
    | some (n, k) => if r.length < n then none else match PyFlat.rows k (r.drop n) with
      | none => none
      | some (xs, t) => some ((p :: r.take n) :: xs, t)) = some (c, t) := h
  cases hs : shape p with
  | none => rw [hs] at h; cases h
  | some nk =>
    obtain ⟨n, k⟩ := nk
    rw [hs] at h
    dsimp only at h
    split at h
    · cases h
    · rename_i hn
      cases hr : PyFlat.rows k (r.drop n) with
      | none => rw [hr] at h; cases h
      | some xt =>
        obtain ⟨xs, t'⟩ := xt
        rw [hr] at h
        obtain ⟨h1, h2⟩ := Prod.mk.inj (Option.some.inj h)
        exact ⟨n, k, xs, rfl, by omega, by rw [← h2]; exact hr, h1.symm⟩
theorem calls_some {shape : Int → Option (Nat × Nat)} {f : Nat} {p : Int} {r : List Int} {raw : List (List (List Int))} (h : PyFlat.calls shape f (p :: r) = some raw) :
    ∃ f' c t cs, f = f' + 1 ∧ PyFlat.call shape (p :: r) = some (c, t) ∧ PyFlat.calls shape f' t = some cs ∧ raw = c :: cs := by
  cases f with
  | zero => cases h
  | succ f =>
    unfold PyFlat.calls at h
    split at h
    · cases h
    · rename_i c t hc
      split at h
      · cases h
      · rename_i cs hcs
        exact ⟨f, c, t, cs, rfl, hc, hcs, (Option.some.inj h).symm⟩
theorem calls_nil {shape : Int → Option (Nat × Nat)} {f : Nat} {raw : List (List (List Int))} (h : PyFlat.calls shape f [] = some raw) : raw = [] := by
  cases f <;> exact (Option.some.inj h).symm
theorem rows_sum : ∀ {k : Nat} {r : List Int} {xs : List (List Int)} {t : List Int}, PyFlat.rows k r = some (xs, t) → (xs.map fun x => x.length + 1).sum + t.length = r.length
  | 0, r, xs, t, h => by
    obtain ⟨a, b⟩ := Prod.mk.inj (Option.some.inj h)
    subst a b
    show 0 + _ = _
    omega
  | k + 1, r, xs, t, h => by
    obtain ⟨x, s, ys, h1, h2, rfl⟩ := rows_some h
    obtain ⟨n, r', rfl, hn, rfl, rfl⟩ := row_some h1
    have ih := rows_sum h2
    rw [List.length_drop] at ih
    rw [List.map_cons, List.sum_cons, List.length_take, Nat.min_eq_left hn, List.length_cons]
    omega
theorem DevAt.off {C : Addr} {H : Hp} {d : Addr} {s : Sg46.Dev} {F : List Addr} (D : DevAt C H d s F) {a : Addr} {o : HO} (n : a ∉ F) : DevAt C (upd H a o) d s F := by
  obtain ⟨dx, t, c, ts, h1, h2, h3, h4, h5, h6, h7⟩ := D.ex
  have m : ∀ b ∈ F, upd H a o b = H b := fun b hb => upd_ne (fun z => n (by rw [← z]; exact hb))
  refine ⟨dx, t, c, ts, h1, h2, h3, ?_, ?_, ?_, fun i b hb => ?_⟩
  · rw [m d (by rw [h1]; simp)]
    exact h4
  · rw [m t (by rw [h1]; simp)]
    exact h5
  · rw [m c (by rw [h1]; simp)]
    exact h6
  · rw [m b (by rw [h1]; simp [List.mem_of_getElem? hb])]
    exact h7 i b hb
theorem ofN_inj {a b : List Nat} (h : ofN a = ofN b) : a = b := by
  have := congrArg Sg46Neutral.nats h
  rwa [nats_ofN, nats_ofN] at this
theorem sq_stay {K : PySem.W.Frag} {H H' : Hp} {a : Addr} {xs : List V} (h : SqL K H a xs) (k : ∀ o, H a = some o → H' a = some o) : SqL K H' a xs := by
  rcases h with (h | ⟨o, h⟩) | h
  · exact .inl (.inl (k _ h))
  · exact .inl (.inr ⟨o, k _ h⟩)
  · exact .inr h
/-! ### what holds of the device behind any call -/
theorem answer_ok_step {s : Sg46.Dev} (ok : DevOk s) {l : List Nat} (hb : Byt l) (hl : l.length ≤ 300) : DevOk (Sg46.answer s l).2 := (answer_keeps ok hb hl).1
section
variable {P : Program} {w : World} {K : PySem.W.Frag} {mg : Str → Option Value} {base : Heap} {A : Ad}
def sp_answers (K : PySem.W.Frag) : Sp := fun vs H Q _ => ∃ (a : Addr) (l : List Int), vs = [.ref a] ∧ SqL K H a (iv l) ∧ l.length ≤ 30000 ∧ (∃ raw, PyFlat.calls PySg46.shape l.length l = some raw ∧ (∀ c ∈ raw, GoodRaw c) ∧ (∃ u a b k r rest, raw = [[0, u, a, b, k, r]] :: rest ∧ Sg46.beginOk u a b k r = true) ∧
  (PyFlat.told (PyFlat.played Sg46Neutral.step Sg46Neutral.start (raw.map PySg46.whole))).length ≤ 10000000 ∧
  ∀ H' p, H' p = some (.lst (iv (PyFlat.told (PyFlat.played Sg46Neutral.step Sg46Neutral.start (raw.map PySg46.whole))))) → Q (.ref p) H')
structure HDesk (P : Program) (w : World) (K : PySem.W.Frag) (mg : Str → Option Value) (base : Heap) (A : Ad) : Prop where
  shapes : ∀ p ns rows, Good p ns rows → ∃ kvs sh, KTab K A.SHAPES kvs ∧ pickT kvs p = some (.ref sh) ∧ ∀ H, SqT K H sh [.int (ns.length : Nat), .int (rows.length : Nat)]
  calls : ∀ p ns rows, Good p ns rows → ∃ kvs fa, KTab K A.CALLS kvs ∧ pickT kvs p = some (.ref fa) ∧ Held P w K mg base 8 fa (sp_call A p (Good p))
  ok : ∀ p ns rows s, Good p ns rows → DevOk s → DevOk (Sg46Neutral.step s (callAt p ns rows)).1
theorem fresh_ok : DevOk (Sg46.fresh 0 []) where
  cl := rfl
  cw := fun x m => by rw [List.eq_of_mem_replicate m]; decide
  b0 := fun _ => by show 0 ≤ 1; decide
  b1 := fun _ => by show 0 ≤ 1; decide
  w2 := fun _ => by show 0 < 65536; decide
  w3 := fun _ => by show 0 < 65536; decide
  sz := fun t => by show ([] : List Nat).getD t 0 ≤ 65536; simp
  un := by decide
theorem shape_len {p : Int} {ns : List Int} {rows : List (List Nat)} (h : Good p ns rows) : ns.length ≤ 5 ∧ rows.length ≤ 2 := by
  unfold Good at h
  rcases h with ⟨_, h1, h2⟩ | ⟨_, h1, h2⟩ | ⟨_, h1, h2⟩ | ⟨_, h1, l, h2, _⟩ | ⟨_, h1, l, h2, _⟩ | ⟨_, h1, l, h2, _⟩ | ⟨_, h1, l, h2, _⟩ | ⟨_, h1, h2⟩ | ⟨_, h1, l, h2, _⟩ | ⟨_, h1, l, h2, _⟩ | ⟨_, f, a, c, h1, l, h2, _⟩ | ⟨_, h1, q, b, h2, _⟩ <;> subst h2 <;> simp_all
theorem told_cons (a : List Int) (r : List (List Int)) : PyFlat.told (a :: r) = ((a.length : Int) :: a) ++ PyFlat.told r := rfl
theorem sum_rows (xs : List (List Int)) : ((xs.map fun x => ((x.length : Int) + 1)).sum : Int) = ((xs.map fun x => x.length + 1).sum : Nat) := by
  induction xs with
  | nil => rfl
  | cons x r ih =>
    rw [List.map_cons, List.map_cons, List.sum_cons, List.sum_cons, ih]
    omega
theorem ok_answers {f : Addr} {fd : FuncData} (Fn : Fun K "answers" "answers" s_answers f fd) (T : Txt K mg A) (hD : HDesk P w K mg base A) (c_Device : C8.Mak P w K mg base 1 "Device" A.C (sp_init A) []) (c_rows_from : C8.Cal P w K mg base 1 "rows_from" (sp_rows_from K) []) (c_counted : C8.Cal P w K mg base 1 "counted" sp_counted []) : FnOk P w K mg base CX0 9 f fd ["calls"] (sp_answers K) := by
  refine Fn.ok sc_answers (fun vs H Q E h => ?_) (fun cdv Ar outer sh H vs Q E hr h => ?_)
  · obtain ⟨_, _, rfl, _⟩ := h
    rfl
  · have sc := sc_answers
    refine ⟨_, (pss_cons (ps_set (i := 1) sc.nd rfl (Or.inl rfl) (pe_new0 c_Device hr (by decide) (by rfl)))
      (pss_cons (ps_set (i := 2) sc.nd rfl (Or.inl rfl) (pe_lst pa_nil))
      (pss_cons (ps_set (i := 3) sc.nd rfl (Or.inl rfl) pe_int)
      (pss_cons (ps_while PassesOwn.never (pt_cmpR op_lt (pv 3) (pe_callB call_len_seq (by rfl) T.b_len PySem.boot_len (pa_cons (pv 0) pa_nil)) (nomark _)) (pss_cons (ps_set (i := 4) sc.nd rfl (Or.inl rfl) (pe_ix ix_ktab (pe_gr (by rfl) T.g_SHAPES) (pe_ix ix_list (pv 0) (pv 3) (fun _ _ => rfl)) (fun _ _ => rfl)))
      (pss_cons (ps_set (i := 5) sc.nd rfl (Or.inl rfl) (pe_op op_add (pe_op op_add (pv 3) pe_int) (pe_ix ix_tup (pv 4) pe_int (fun _ _ => rfl))))
      (pss_cons (ps_set (i := 6) sc.nd rfl (Or.inl rfl) (C8.pe_c c_rows_from hr (by decide) (by rfl) (pa_cons (pv 0) (pa_cons (pv 5) (pa_cons (pe_ix ix_tup (pv 4) pe_int (fun _ _ => rfl)) pa_nil)))))
      (pss_cons (ps_set (i := 7) sc.nd rfl (Or.inl rfl) (pe_callE hr (pe_ix ix_ktab (pe_gr (by rfl) T.g_CALLS) (pe_ix ix_list (pv 0) (pv 3) (fun _ _ => rfl)) (fun _ _ => rfl)) (pa_cons (pv 1) (pa_cons (pe_slice sl_list (pv 0) (po_some (pe_op op_add (pv 3) pe_int)) (po_some (pv 5))) (pa_cons (pv 6) pa_nil)))))
      (pss_cons (ps_expr (pe_bm PySem.F.plainAttrs_list PySem.F.slot_list_extend PySem.F.type_list_extend mt_extend (pv 2) (pa_cons (C8.pe_c c_counted hr (by decide) (by rfl) (pa_cons (pv 7) pa_nil)) pa_nil)))
      (pss_one (ps_set (i := 3) sc.nd rfl (Or.inl rfl) (pe_op op_add (pv 5) (pe_callB (cr_sum rfl) (by rfl) T.b_sum (by decide +kernel) (pa_cons (pe_lc (own := [("row", 8)]) (g := gName 8) rfl sc.nd (pi_list (pv 6)) (blkOk_by (own := [("row", 8)]) (N := n_answers) (sc := defScope s_answers) (by decide +kernel)) (fun _ _ _ _ _ => (pg_name (i := 8) sc.nd rfl (Or.inl rfl))) (fun _ _ _ _ _ => pts_nil) (fun _ _ _ _ _ => (pe_op op_add (pe_callB (r := Evl.rLenS K) call_len_seq (by rfl) T.b_len PySem.boot_len (pa_cons (pv 8) pa_nil)) pe_int))) pa_nil)))))))))))
      (pss_one (ps_ret (pv 2))))))), ?_⟩
    obtain ⟨a, l, rfl, hs, hl, raw, hraw, hgood, ⟨u0, n0, n1, n2, n3, rest0, hr0, hbo⟩, hlen, g⟩ := h
    intro d dx nd ndx ne
    refine ⟨d, dx, rfl, upd_same, fun H0 F0 D0 k0 f0 => ⟨rfl, ?_⟩⟩
    have kH : Same H H0 := fun b o hb => k0 b o (by rw [upd_ne (ne_of_none hb nd), upd_ne (ne_of_none hb ndx)]; exact hb) (ne_of_none hb nd)
    have fH : ∀ b ∈ F0, H b = none := fun b hb => by
      rcases f0 b hb with z | z
      · rw [z]; exact nd
      · cases y : H b with
        | none => rfl
        | some o =>
          rw [upd_ne (ne_of_none y nd), upd_ne (ne_of_none y ndx), y] at z
          cases z
    refine ⟨by show 0 ≤ sizeLine; decide, fun gA nG => ?_⟩
    have eG := same_upd (o := .lst (iv [])) nG
    have ngH : H gA = none := kH.free nG
    generalize hTot : PyFlat.told (PyFlat.played Sg46Neutral.step Sg46Neutral.start (raw.map PySg46.whole)) = Tot at *
    refine while_by (fun σ H1 => ∃ (F : List Addr) (s : Sg46.Dev) (gv : List Int) (at_ f : Nat) (rw_ : List (List (List Int))) (v4 v5 v6 v7 v8 : Option V), σ = [some (.ref a), some (.ref d), some (.ref gA), some (.int at_), v4, v5, v6, v7, v8] ∧
        DevAt A.C H1 d s F ∧ DevOk s ∧ H1 gA = some (.lst (iv gv)) ∧ gA ∉ F ∧ (∀ o, H a = some o → H1 a = some o ∧ a ∉ F) ∧ at_ ≤ l.length ∧ PyFlat.calls PySg46.shape f (l.drop at_) = some rw_ ∧ (∀ c ∈ rw_, GoodRaw c) ∧ Tot = gv ++ PyFlat.told (PyFlat.played Sg46Neutral.step s (rw_.map PySg46.whole)))
      (fun σ _ => slotN σ 3 (l.length + 1)) ?_ ?_ ?_
    · refine ⟨F0, Sg46.fresh 0 [], [], 0, l.length, raw, none, none, none, none, none, rfl, D0.same eG, fresh_ok, upd_same, D0.fresh nG, fun o ho => ⟨eG _ _ (kH _ _ ho), fun m => ?_⟩, Nat.zero_le _, by rw [List.drop_zero]; exact hraw, hgood, ?_⟩
      · rw [fH a m] at ho
        cases ho
      · rw [← hTot, List.nil_append, hr0]
        have st : ∀ s, Sg46Neutral.step s (PySg46.whole [[0, u0, n0, n1, n2, n3]]) = (Sg46.fresh u0.toNat ([n0, n1, n2, n3].map Int.toNat), [0]) := fun s => by
          show (if Sg46.beginOk u0 n0 n1 n2 n3 = true then _ else _) = _
          rw [if_pos hbo]
          rfl
        rw [List.map_cons]
        show PyFlat.told ((Sg46Neutral.step _ _).2 :: PyFlat.played _ (Sg46Neutral.step _ _).1 _) = PyFlat.told ((Sg46Neutral.step _ _).2 :: PyFlat.played _ (Sg46Neutral.step _ _).1 _)
        rw [st, st]
    · rintro σ H1 ⟨F, s, gv, at_, f, rw_, v4, v5, v6, v7, v8, rfl, D, ok, hg, ngF, J, hat, hcalls, hgd, hT⟩
      have hs1 : SqL K H1 a (iv l) := sq_stay hs fun o ho => (J o ho).1
      refine ⟨_, rfl, _, rfl, a, _, rfl, .inl hs1, _, _, rfl, rfl, _, rfl, ?_⟩
      rw [iv_len]
      refine ifb (fun b1 => ?_) (fun b1 => ?_)
      · simp at b1
        obtain ⟨p, r, hd⟩ : ∃ p r, l.drop at_ = p :: r := by
          cases z : l.drop at_ with
          | nil =>
            have := congrArg List.length z
            rw [List.length_drop] at this
            simp at this
            omega
          | cons p r => exact ⟨p, r, rfl⟩
        obtain ⟨_, hget, hdrop⟩ := drop_cons_at hd
        rw [hd] at hcalls
        obtain ⟨f', c, t, cs, rfl, hcall, hcs, rfl⟩ := calls_some hcalls
        obtain ⟨n, k, xs, hshape, hn, hrows, rfl⟩ := call_some hcall
        obtain ⟨p', ns, rows, hceq, hG⟩ := hgd _ (List.mem_cons_self ..)
        obtain ⟨hpn, hxr⟩ := List.cons.inj hceq
        obtain ⟨rfl, hns⟩ := List.cons.inj hpn
        obtain ⟨hl5, hl2⟩ := shape_len hG
        have hnl : ns.length = n := by rw [← hns, List.length_take]; omega
        obtain ⟨hxk, ht⟩ := rows_len hrows
        have hrl : rows.length = k := by rw [← hxk, hxr, List.length_map]
        obtain ⟨kvS, sh, kS, pS, tS⟩ := hD.shapes p ns rows hG
        obtain ⟨kvC, fa, kC, pC, hC⟩ := hD.calls p ns rows hG
        have hrlen : r.length = l.length - (at_ + 1) := by rw [← hdrop, List.length_drop]
        -- shape = SHAPES[calls[at]]
        refine ⟨_, rfl, _, rfl, a, _, _, _, rfl, rfl, hs1, iv_at b1, A.SHAPES, kvS, p, _, .ref sh, rfl, (by rw [hget]), kS, pS, rfl, ?_⟩
        -- behind
        refine ⟨_, rfl, _, _, rfl, rfl, _, rfl, sh, _, _, _, rfl, rfl, tS _, atI_nat (j := 0) rfl, _, _, rfl, rfl, ?_⟩
        -- rows
        have hbeh : (at_ : Int) + 1 + ((ns.length : Nat) : Int) = ((at_ + 1 + n : Nat) : Int) := by omega
        have hdn : l.drop (at_ + 1 + n) = r.drop n := by rw [← hdrop, List.drop_drop]
        have hrows2 : PyFlat.rows k (l.drop (at_ + 1 + n)) = some (xs, t) := by rw [hdn]; exact hrows
        have hsum := rows_sum hrows2
        rw [List.length_drop] at hsum
        refine ⟨_, rfl, _, rfl, _, rfl, sh, _, _, _, rfl, rfl, tS _, atI_nat (j := 1) rfl, a, l, at_ + 1 + n, k, xs, t, ?_, hs1, by omega, by omega, by omega, hrows2, fun H2 p2 ps e2 n2 hp2 hpl hall => ?_⟩
        · show [V.ref a, V.int ((at_ : Int) + 1 + ((ns.length : Nat) : Int)), V.int ((rows.length : Nat) : Int)] = _
          rw [hbeh, hrl]
        have hs2 := e2.seq hs1
        have D2 := D.same e2
        -- answer = CALLS[calls[at]](device, calls[at + 1:behind], rows)
        refine ⟨_, rfl, _, rfl, a, _, _, _, rfl, rfl, hs2, iv_at b1, A.CALLS, kvC, p, _, .ref fa, rfl, (by rw [hget]), kC, pC, rfl, fa, _, rfl, hC, _, rfl, _, rfl, _, rfl, _, _, rfl, rfl, _, rfl, _, rfl, _, rfl, a, _, rfl, hs2, fun p3 n3 => ?_⟩
        have hcut : cutV (iv l) (some ((at_ : Int) + 1)) (some ((at_ : Int) + 1 + ((ns.length : Nat) : Int))) = iv ns := by
          rw [hbeh, show (at_ : Int) + 1 = ((at_ + 1 : Nat) : Int) by omega, cutI_ft l (by omega) (by omega), hdrop, show at_ + 1 + n - (at_ + 1) = n by omega, hns]
        have e3 := same_upd (o := .lst (cutV (iv l) (some ((at_ : Int) + 1)) (some ((at_ : Int) + 1 + ((ns.length : Nat) : Int))))) n3
        have D3 := D2.same e3
        have e13 := e2.trans e3
        refine ⟨_, rfl, d, p3, p2, ns, ps, rows, s, F, rfl, D3, ok, ⟨.inl (by rw [← hcut]; exact upd_same), D2.fresh n3⟩, ⟨.inl (e3 _ _ hp2), D.fresh n2⟩, by rw [hpl, hxr, List.length_map], ?_, hG, fun H4 F4 q4 st4 D4 n4 a4 hq4 => ?_⟩
        · intro i b y hb hy
          have hx : xs[i]? = some (ofN y) := by rw [hxr, List.getElem?_map, hy]; rfl
          obtain ⟨m1, m2⟩ := hall i b _ hb hx
          exact ⟨.inl (by rw [nv_iv]; exact e3 _ _ m2), D.fresh m1⟩
        have st14 := (Step.of_same (F := F) e13).trans st4
        generalize hst : Sg46Neutral.step s (callAt p ns rows) = stp at *
        have ok4 : DevOk stp.1 := by rw [← hst]; exact hD.ok p ns rows s hG ok
        have hwhole : PySg46.whole ((p :: r.take n) :: xs) = callAt p ns rows := by
          rw [hns, hxr]
          rfl
        have hT2 : Tot = (gv ++ ((stp.2.length : Int) :: stp.2)) ++ PyFlat.told (PyFlat.played Sg46Neutral.step stp.1 (cs.map PySg46.whole)) := by
          rw [hT, List.map_cons, hwhole]
          show gv ++ PyFlat.told ((Sg46Neutral.step s (callAt p ns rows)).2 :: PyFlat.played _ (Sg46Neutral.step s (callAt p ns rows)).1 _) = _
          rw [hst, told_cons, List.append_assoc]
        have hlen2 : gv.length + (stp.2.length + 1) ≤ 10000000 := by
          have := congrArg List.length hT2
          rw [List.length_append, List.length_append, List.length_cons] at this
          omega
        have hg4 := st14.keep _ _ hg ngF
        have ng4 := st14.apart hg ngF
        -- given.extend(counted(answer))
        refine ⟨_, rfl, .inl ⟨rfl, _, SqL.of hg4⟩, _, rfl, q4, _, rfl, hq4, by rw [iv_len]; omega, fun H5 p5 e5 n5 hp5 => ?_⟩
        rw [iv_len] at hp5
        refine ⟨gA, p5, _, _, rfl, rfl, e5 _ _ hg4, hp5, sz7 (by rw [iv_len]; show _ + ((iv stp.2).length + 1) ≤ _; rw [iv_len]; omega), ?_⟩
        have hgv : iv gv ++ (V.int ((stp.2.length : Nat) : Int) :: iv stp.2) = iv (gv ++ ((stp.2.length : Int) :: stp.2)) := by rw [iv_app]; rfl
        rw [hgv]
        have D6 : DevAt A.C (upd H5 gA (.lst (iv (gv ++ ((stp.2.length : Int) :: stp.2))))) d stp.1 F4 := (D4.same e5).off ng4
        -- at = behind + sum([len(row) + 1 for row in rows])
        have stay : ∀ b o, H1 b = none → upd H2 p3 (.lst (cutV (iv l) (some ((at_ : Int) + 1)) (some ((at_ : Int) + 1 + ((ns.length : Nat) : Int))))) b = some o →
            upd H5 gA (.lst (iv (gv ++ ((stp.2.length : Int) :: stp.2)))) b = some o := fun b o m1 m2 => by
          rw [upd_ne (fun z => by rw [z, hg] at m1; cases m1)]
          exact e5 _ _ (st4.keep b o m2 (D.fresh m1))
        have hp26 := stay p2 _ n2 (e3 _ _ hp2)
        have hrow6 : ∀ (i : Nat) (b : Addr) (x : List Int), ps[i]? = some b → xs[i]? = some x → upd H5 gA (.lst (iv (gv ++ ((stp.2.length : Int) :: stp.2)))) b = some (.lst (iv x)) := fun i b x h1 h2 => by
          obtain ⟨m1, m2⟩ := hall i b x h1 h2
          exact stay b _ m1 (e3 _ _ m2)
        have J6 : ∀ o, H a = some o → upd H5 gA (.lst (iv (gv ++ ((stp.2.length : Int) :: stp.2)))) a = some o ∧ a ∉ F4 := fun o ho => by
          obtain ⟨j1, j2⟩ := J o ho
          refine ⟨?_, st14.apart j1 j2⟩
          rw [upd_ne (fun z => by rw [z, ngH] at ho; cases ho)]
          exact e5 _ _ (st14.keep _ _ j1 j2)
        have hg6 : upd H5 gA (.lst (iv (gv ++ ((stp.2.length : Int) :: stp.2)))) gA = some (.lst (iv (gv ++ ((stp.2.length : Int) :: stp.2)))) := upd_same
        generalize upd H5 gA (.lst (iv (gv ++ ((stp.2.length : Int) :: stp.2)))) = H6 at *
        refine ⟨_, rfl, _, rfl, p2, rfl, ⟨_, SqL.of hp26⟩, fun M nM => ?_⟩
        refine lc_list (K := K) (a := p2) (xs := ps.map V.ref) (fun i H' => Same H6 H' ∧ H' M = some (.lst (iv ((xs.take i).map fun x => (x.length : Int) + 1)))) ⟨same_upd nM, upd_same⟩ (fun i H' _ z => z.1.seq (SqL.of hp26)) ?_ ?_
        · rintro i y H7 hi ⟨e, hM⟩
          rw [List.getElem?_map] at hi
          cases hb : ps[i]? with
          | none => rw [hb] at hi; cases hi
          | some b =>
            rw [hb] at hi
            obtain rfl := (Option.some.inj hi).symm
            have hix : i < xs.length := by
              have := (List.getElem?_eq_some_iff.mp hb).1
              omega
            obtain ⟨x, hx⟩ : ∃ x, xs[i]? = some x := ⟨xs[i], by simp [hix]⟩
            refine ⟨rfl, ?_⟩
            refine ⟨_, rfl, b, _, rfl, .inl (SqL.of (e _ _ (hrow6 i b x hb hx))), _, _, rfl, rfl, ?_⟩
            refine ⟨_, hM, szlt (by rw [iv_len, List.length_map, List.length_take]; omega), same_new e nM, ?_⟩
            rw [upd_same, take_more hx, List.map_append, iv_app, iv_len]
            rfl
        · rintro H7 ⟨e, hM⟩
          rw [List.length_map, hpl, List.take_length] at hM
          refine ⟨M, _, rfl, SqL.of hM, _, _, rfl, rfl, ?_⟩
          rw [sum_rows]
          generalize hsm : (xs.map fun x => x.length + 1).sum = sm at *
          refine ⟨⟨F4, stp.1, gv ++ ((stp.2.length : Int) :: stp.2), at_ + 1 + n + sm, f', cs, some (.ref sh), some (.int ((at_ : Int) + 1 + ((ns.length : Nat) : Int))), some (.ref p2), some (.ref q4), v8, ?_, D6.same e, ok4, e _ _ hg6, ng4, fun o ho => ⟨e _ _ (J6 o ho).1, (J6 o ho).2⟩, by omega, ?_, fun c hc => hgd c (List.mem_cons_of_mem _ hc), hT2⟩, ?_⟩
          · show [_, _, _, some (V.int ((at_ : Int) + 1 + ((ns.length : Nat) : Int) + (sm : Int))), _, _, _, _, _] = _
            rw [show (at_ : Int) + 1 + ((ns.length : Nat) : Int) + (sm : Int) = ((at_ + 1 + n + sm : Nat) : Int) by omega]
          · rw [← List.drop_drop, hdn, ← ht]
            exact hcs
          · show l.length + 1 - ((at_ : Int) + 1 + ((ns.length : Nat) : Int) + (sm : Int)).toNat < l.length + 1 - ((at_ : Nat) : Int).toNat
            omega
      · simp at b1
        have hend : at_ = l.length := by omega
        rw [hend, List.drop_length] at hcalls
        obtain rfl := calls_nil hcalls
        have : Tot = gv := hT.trans (List.append_nil _)
        rw [this] at g
        exact ⟨_, rfl, g H1 gA hg⟩
    · intro σ H Q Q' hq h
      obtain ⟨v, hv, v', hv', p', ys, e1, e2, i', j', e3, e4, k', e5, q⟩ := h
      exact ⟨v, hv, v', hv', p', ys, e1, e2, i', j', e3, e4, k', e5, hq _ _ q⟩
end
end Bd

set_option Elab.async false
set_option linter.all false
set_option maxRecDepth 100000
set_option maxHeartbeats 2000000
namespace Bd
open PySem PySem.Spec PyProof.Rows L2
/-! ### what is asked of a list, call by call -/
theorem ofN_back {r : List Int} {m : Nat} (h : r.all (PyInside.within 0 (m : Int)) = true) : ∃ l : List Nat, r = ofN l ∧ ∀ n ∈ l, n ≤ m := by
  refine ⟨r.map Int.toNat, ?_, fun n hn => ?_⟩
  · unfold ofN
    rw [List.map_map]
    have : r.map id = r.map ((fun (n : Nat) => (n : Int)) ∘ Int.toNat) := by
      apply List.map_congr_left
      intro x hx
      have := List.all_eq_true.mp h x hx
      unfold PyInside.within at this
      simp at this
      show x = ((x.toNat : Nat) : Int)
      omega
    rw [← this, List.map_id]
  · obtain ⟨x, hx, rfl⟩ := List.mem_map.mp hn
    have := List.all_eq_true.mp h x hx
    unfold PyInside.within at this
    simp at this
    omega
theorem shape_is {p : Int} {n k : Nat} (h : PySg46.shape p = some (n, k)) :
    (p = 0 ∧ n = 5 ∧ k = 0) ∨ (p = 1 ∧ n = 3 ∧ k = 0) ∨ (p = 2 ∧ n = 2 ∧ k = 0) ∨ (p = 3 ∧ n = 0 ∧ k = 1) ∨ (p = 4 ∧ n = 0 ∧ k = 1) ∨ (p = 5 ∧ n = 0 ∧ k = 1) ∨ (p = 6 ∧ n = 0 ∧ k = 1) ∨ (p = 7 ∧ n = 0 ∧ k = 0) ∨ (p = 8 ∧ n = 0 ∧ k = 1) ∨ (p = 9 ∧ n = 0 ∧ k = 1) ∨ (p = 10 ∧ n = 3 ∧ k = 1) ∨ (p = 11 ∧ n = 0 ∧ k = 2) := by
  unfold PySg46.shape at h
  split at h
  · rename_i hp; cases h; exact .inl ⟨hp, rfl, rfl⟩
  split at h
  · rename_i hp; cases h; exact .inr (.inl ⟨hp, rfl, rfl⟩)
  split at h
  · rename_i hp; cases h; exact .inr (.inr (.inl ⟨hp, rfl, rfl⟩))
  split at h
  · rename_i hp; cases h; exact .inr (.inr (.inr (.inl ⟨hp, rfl, rfl⟩)))
  split at h
  · rename_i hp; cases h; exact .inr (.inr (.inr (.inr (.inl ⟨hp, rfl, rfl⟩))))
  split at h
  · rename_i hp; cases h; exact .inr (.inr (.inr (.inr (.inr (.inl ⟨hp, rfl, rfl⟩)))))
  split at h
  · rename_i hp; cases h; exact .inr (.inr (.inr (.inr (.inr (.inr (.inl ⟨hp, rfl, rfl⟩))))))
  split at h
  · rename_i hp; cases h; exact .inr (.inr (.inr (.inr (.inr (.inr (.inr (.inl ⟨hp, rfl, rfl⟩)))))))
  split at h
  · rename_i hp; cases h; exact .inr (.inr (.inr (.inr (.inr (.inr (.inr (.inr (.inl ⟨hp, rfl, rfl⟩))))))))
  split at h
  · rename_i hp; cases h; exact .inr (.inr (.inr (.inr (.inr (.inr (.inr (.inr (.inr (.inl ⟨hp, rfl, rfl⟩)))))))))
  split at h
  · rename_i hp; cases h; exact .inr (.inr (.inr (.inr (.inr (.inr (.inr (.inr (.inr (.inr (.inl ⟨hp, rfl, rfl⟩))))))))))
  split at h
  · rename_i hp; cases h; exact .inr (.inr (.inr (.inr (.inr (.inr (.inr (.inr (.inr (.inr (.inr ⟨hp, rfl, rfl⟩))))))))))
  · cases h
theorem one_of {xs : List (List Int)} (h : xs.length = 1) : ∃ r, xs = [r] := by
  match xs, h with
  | [r], _ => exact ⟨r, rfl⟩
theorem two_of {xs : List (List Int)} (h : xs.length = 2) : ∃ a b, xs = [a, b] := by
  match xs, h with
  | [a, b], _ => exact ⟨a, b, rfl⟩
/-- a row of bytes -/
theorem row_byt {r : List Int} {m : Nat} (h : (decide (0 ≤ r.length) && decide (r.length ≤ m) && r.all (PyInside.within 0 255) && true) = true) : ∃ l, r = ofN l ∧ Byt l ∧ l.length ≤ m := by
  simp only [Bool.and_true, Bool.and_eq_true, decide_eq_true_eq] at h
  obtain ⟨l, rfl, hl⟩ := ofN_back (m := 255) h.2
  refine ⟨l, rfl, fun n hn => ?_, ?_⟩
  · have := hl n hn
    omega
  · have := h.1.2
    rwa [ofN_len] at this
theorem good_raw {p : Int} {ns : List Int} {xs : List (List Int)} {n k : Nat} (hs : PySg46.shape p = some (n, k)) (hn : ns.length = n) (hk : xs.length = k) (hi : PyInside.call PySg46.bound ((p :: ns) :: xs) = true)
    (ha : Sg46Neutral.asked1 (PySg46.whole ((p :: ns) :: xs)) = true) : GoodRaw ((p :: ns) :: xs) := by
  have hi' : (PyInside.each (PySg46.bound p).1 ns && PyInside.lists (PySg46.bound p).2 xs) = true := hi
  rw [Bool.and_eq_true] at hi'
  have hL := hi'.2
  rcases shape_is hs with ⟨rfl, rfl, rfl⟩ | ⟨rfl, rfl, rfl⟩ | ⟨rfl, rfl, rfl⟩ | ⟨rfl, rfl, rfl⟩ | ⟨rfl, rfl, rfl⟩ | ⟨rfl, rfl, rfl⟩ | ⟨rfl, rfl, rfl⟩ | ⟨rfl, rfl, rfl⟩ | ⟨rfl, rfl, rfl⟩ | ⟨rfl, rfl, rfl⟩ | ⟨rfl, rfl, rfl⟩ | ⟨rfl, rfl, rfl⟩
  · obtain rfl := List.length_eq_zero_iff.mp hk
    exact ⟨0, ns, [], rfl, .inl ⟨rfl, hn, rfl⟩⟩
  · obtain rfl := List.length_eq_zero_iff.mp hk
    exact ⟨1, ns, [], rfl, .inr (.inl ⟨rfl, hn, rfl⟩)⟩
  · obtain rfl := List.length_eq_zero_iff.mp hk
    exact ⟨2, ns, [], rfl, .inr (.inr (.inl ⟨rfl, hn, rfl⟩))⟩
  · obtain ⟨r, rfl⟩ := one_of hk
    obtain ⟨l, rfl, h1, h2⟩ := row_byt (m := 253) hL
    exact ⟨3, ns, [l], rfl, .inr (.inr (.inr (.inl ⟨rfl, List.length_eq_zero_iff.mp hn, l, rfl, h1, h2⟩)))⟩
  · obtain ⟨r, rfl⟩ := one_of hk
    obtain ⟨l, rfl, h1, h2⟩ := row_byt (m := 256) hL
    exact ⟨4, ns, [l], rfl, .inr (.inr (.inr (.inr (.inl ⟨rfl, List.length_eq_zero_iff.mp hn, l, rfl, h1, h2⟩))))⟩
  · obtain ⟨r, rfl⟩ := one_of hk
    obtain ⟨l, rfl, h1, h2⟩ := row_byt (m := 513) hL
    exact ⟨5, ns, [l], rfl, .inr (.inr (.inr (.inr (.inr (.inl ⟨rfl, List.length_eq_zero_iff.mp hn, l, rfl, h1, h2⟩)))))⟩
  · obtain ⟨r, rfl⟩ := one_of hk
    obtain ⟨l, rfl, h1, h2⟩ := row_byt (m := 260) hL
    exact ⟨6, ns, [l], rfl, .inr (.inr (.inr (.inr (.inr (.inr (.inl ⟨rfl, List.length_eq_zero_iff.mp hn, l, rfl, h1, h2⟩))))))⟩
  · obtain rfl := List.length_eq_zero_iff.mp hk
    exact ⟨7, ns, [], rfl, .inr (.inr (.inr (.inr (.inr (.inr (.inr (.inl ⟨rfl, List.length_eq_zero_iff.mp hn, rfl⟩)))))))⟩
  · obtain ⟨r, rfl⟩ := one_of hk
    obtain ⟨l, rfl, h1, h2⟩ := row_byt (m := 29000) hL
    exact ⟨8, ns, [l], rfl, .inr (.inr (.inr (.inr (.inr (.inr (.inr (.inr (.inl ⟨rfl, List.length_eq_zero_iff.mp hn, l, rfl, h1, h2⟩))))))))⟩
  · obtain ⟨r, rfl⟩ := one_of hk
    obtain ⟨l, rfl, h1, h2⟩ := row_byt (m := 29000) hL
    exact ⟨9, ns, [l], rfl, .inr (.inr (.inr (.inr (.inr (.inr (.inr (.inr (.inr (.inl ⟨rfl, List.length_eq_zero_iff.mp hn, l, rfl, h1, h2⟩)))))))))⟩
  · obtain ⟨r, rfl⟩ := one_of hk
    have hL' : (decide (0 ≤ r.length) && decide (r.length ≤ 2000) && r.all (PyInside.within 0 65535) && true) = true := hL
    simp only [Bool.and_true, Bool.and_eq_true, decide_eq_true_eq] at hL'
    obtain ⟨l, rfl, hw⟩ := ofN_back (m := 65535) hL'.2
    obtain ⟨f, a, c, rfl⟩ : ∃ f a c, ns = [f, a, c] := by
      match ns, hn with
      | [f, a, c], _ => exact ⟨f, a, c, rfl⟩
    have ha' : (Sg46Neutral.whole32 f && (Sg46Neutral.whole32 a && (Sg46Neutral.whole32 c && ((ofN l).all (fun (z : Int) => Sg46Neutral.natural z 16) && decide (((ofN l).length : Int) = if ([5, 6, 15, 16, 22] : List Int).contains f = true ∧ ((0 ≤ a ∧ a ≤ 65535) ∧ (1 ≤ c ∧ c ≤ 2000)) then c else 0))))) = true := ha
    simp only [Bool.and_eq_true] at ha'
    have hlen := of_decide_eq_true ha'.2.2.2.2
    rw [ofN_len] at hlen
    refine ⟨10, [f, a, c], [l], rfl, .inr (.inr (.inr (.inr (.inr (.inr (.inr (.inr (.inr (.inr (.inl ⟨rfl, f, a, c, rfl, l, rfl, fun n hn => ?_, ?_, hlen⟩))))))))))⟩
    · have := hw n hn
      omega
    · have := hL'.1.2
      rwa [ofN_len] at this
  · obtain ⟨r1, r2, rfl⟩ : ∃ r1 r2, xs = [r1, r2] := by
      match xs, hk with
      | [a, b], _ => exact ⟨a, b, rfl⟩
    have hL' : (decide (0 ≤ r1.length) && decide (r1.length ≤ 253) && r1.all (PyInside.within 0 255) && (decide (0 ≤ r2.length) && decide (r2.length ≤ 253) && r2.all (PyInside.within 0 255) && true)) = true := hL
    rw [Bool.and_eq_true] at hL'
    obtain ⟨l1, rfl, h1, h2⟩ := row_byt (m := 253) (r := r1) (by rw [Bool.and_true]; exact hL'.1)
    obtain ⟨l2, rfl, h3, h4⟩ := row_byt (m := 253) (r := r2) hL'.2
    exact ⟨11, ns, [l1, l2], rfl, .inr (.inr (.inr (.inr (.inr (.inr (.inr (.inr (.inr (.inr (.inr ⟨rfl, List.length_eq_zero_iff.mp hn, l1, l2, rfl, h1, h3, h2, h4⟩))))))))))⟩
/-- every call of a parsed list has its shape -/
theorem calls_shape : ∀ {f : Nat} {l : List Int} {raw : List (List (List Int))}, PyFlat.calls PySg46.shape f l = some raw → ∀ c ∈ raw, ∃ p ns xs n k, c = (p :: ns) :: xs ∧ PySg46.shape p = some (n, k) ∧ ns.length = n ∧ xs.length = k := by
  intro f
  induction f with
  | zero =>
    intro l raw h c hc
    cases l with
    | nil => rw [calls_nil h] at hc; simp at hc
    | cons p r => cases h
  | succ f ih =>
    intro l raw h c hc
    cases l with
    | nil => rw [calls_nil h] at hc; simp at hc
    | cons p r =>
      obtain ⟨f', c', t, cs, hf, hcall, hcs, rfl⟩ := calls_some h
      obtain rfl : f = f' := by omega
      rcases List.mem_cons.mp hc with rfl | hc
      · obtain ⟨n, k, xs, h1, h2, h3, rfl⟩ := call_some hcall
        exact ⟨p, r.take n, xs, n, k, rfl, h1, by rw [List.length_take]; omega, (rows_len h3).1⟩
      · exact ih hcs c hc
theorem asked_good {l : List Int} (h : PySg46.answers_asked l = true) : ∃ raw, PyFlat.calls PySg46.shape l.length l = some raw ∧ (∀ c ∈ raw, GoodRaw c) ∧ (∃ u a b k r rest, raw = [[0, u, a, b, k, r]] :: rest ∧ Sg46.beginOk u a b k r = true) ∧
    (PyFlat.told (PyFlat.played Sg46Neutral.step Sg46Neutral.start (raw.map PySg46.whole))).length ≤ 10000000 ∧ PySg46.answers l = PyFlat.told (PyFlat.played Sg46Neutral.step Sg46Neutral.start (raw.map PySg46.whole)) := by
  unfold PySg46.answers_asked at h
  cases hc : PyFlat.calls PySg46.shape l.length l with
  | none => rw [hc] at h; cases h
  | some raw =>
    rw [hc] at h
    dsimp only at h
    simp only [Bool.and_eq_true] at h
    obtain ⟨⟨⟨⟨h1, h2⟩, h3⟩, h4⟩, h5⟩ := h
    have he : PySg46.answers l = PyFlat.told (PyFlat.played Sg46Neutral.step Sg46Neutral.start (raw.map PySg46.whole)) := by
      unfold PySg46.answers PySg46.calls
      rw [hc]
    unfold Sg46Neutral.asked at h4
    simp only [Bool.and_eq_true] at h4
    obtain ⟨⟨h4a, h4b⟩, h4c⟩ := h4
    refine ⟨raw, rfl, fun c hm => ?_, ?_, ?_, he⟩
    · obtain ⟨p, ns, xs, n, k, rfl, q1, q2, q3⟩ := calls_shape hc c hm
      exact good_raw q1 q2 q3 (List.all_eq_true.mp h3 _ hm) (List.all_eq_true.mp h4a _ (List.mem_map_of_mem hm))
    · cases raw with
      | nil => simp at h1
      | cons c rest =>
        obtain ⟨p, ns, xs, n, k, rfl, q1, q2, q3⟩ := calls_shape hc c (List.mem_cons_self ..)
        have h4d : (match PySg46.whole ((p :: ns) :: xs) with
          | [[0, u, a, b, k, r]] => Sg46.beginOk u a b k r
          | _ => false) = true := h4c
        rcases shape_is q1 with ⟨rfl, rfl, rfl⟩ | ⟨rfl, rfl, rfl⟩ | ⟨rfl, rfl, rfl⟩ | ⟨rfl, rfl, rfl⟩ | ⟨rfl, rfl, rfl⟩ | ⟨rfl, rfl, rfl⟩ | ⟨rfl, rfl, rfl⟩ | ⟨rfl, rfl, rfl⟩ | ⟨rfl, rfl, rfl⟩ | ⟨rfl, rfl, rfl⟩ | ⟨rfl, rfl, rfl⟩ | ⟨rfl, rfl, rfl⟩
        · obtain rfl := List.length_eq_zero_iff.mp q3
          match ns, q2 with
          | [u, a, b, k, r], _ => exact ⟨u, a, b, k, r, rest, rfl, h4d⟩
        · obtain rfl := List.length_eq_zero_iff.mp q3
          match ns, q2, h4d with
          | [x, y, z], _, h4d => cases h4d
        · obtain rfl := List.length_eq_zero_iff.mp q3
          match ns, q2, h4d with
          | [x, y], _, h4d => cases h4d
        · obtain ⟨r, rfl⟩ := one_of q3
          obtain rfl := List.length_eq_zero_iff.mp q2
          cases h4d
        · obtain ⟨r, rfl⟩ := one_of q3
          obtain rfl := List.length_eq_zero_iff.mp q2
          cases h4d
        · obtain ⟨r, rfl⟩ := one_of q3
          obtain rfl := List.length_eq_zero_iff.mp q2
          cases h4d
        · obtain ⟨r, rfl⟩ := one_of q3
          obtain rfl := List.length_eq_zero_iff.mp q2
          cases h4d
        · obtain rfl := List.length_eq_zero_iff.mp q3
          obtain rfl := List.length_eq_zero_iff.mp q2
          cases h4d
        · obtain ⟨r, rfl⟩ := one_of q3
          obtain rfl := List.length_eq_zero_iff.mp q2
          cases h4d
        · obtain ⟨r, rfl⟩ := one_of q3
          obtain rfl := List.length_eq_zero_iff.mp q2
          cases h4d
        · obtain ⟨r, rfl⟩ := one_of q3
          match ns, q2, h4d with
          | [x, y, z], _, h4d => cases h4d
        · obtain rfl := List.length_eq_zero_iff.mp q2
          obtain ⟨r1, r2, rfl⟩ := two_of q3
          cases h4d
    · have sh : ∀ (n : Nat) (x : List Int), PyFlat.short n x = true → x.length ≤ n := fun n x z => of_decide_eq_true z
      rw [← he]
      exact sh _ _ h5
end Bd

set_option Elab.async false
set_option linter.all false
set_option maxRecDepth 100000
set_option maxHeartbeats 2000000
namespace Bd
open PySem PySem.Spec PyProof.Rows L2
/-! ### what stays true of the device behind any call -/
theorem DevOk.put {s : Sg46.Dev} (ok : DevOk s) {t : Nat} (i : Nat) {x : Nat} (ht : t < 4) (hx : x ≤ if t < 2 then 1 else 65535) : DevOk (s.put t i x) where
  cl := ok.cl
  cw := ok.cw
  b0 := fun j => by
    show (if 0 = t ∧ j = i then x else s.held 0 j) ≤ 1
    split
    · rename_i z
      rw [← z.1] at hx
      exact hx
    · exact ok.b0 j
  b1 := fun j => by
    show (if 1 = t ∧ j = i then x else s.held 1 j) ≤ 1
    split
    · rename_i z
      rw [← z.1] at hx
      exact hx
    · exact ok.b1 j
  w2 := fun j => by
    show (if 2 = t ∧ j = i then x else s.held 2 j) < 65536
    split
    · split at hx <;> omega
    · exact ok.w2 j
  w3 := fun j => by
    show (if 3 = t ∧ j = i then x else s.held 3 j) < 65536
    split
    · split at hx <;> omega
    · exact ok.w3 j
  sz := ok.sz
  un := ok.un
theorem fresh_good {u a b c d : Int} (h : Sg46.beginOk u a b c d = true) : DevOk (Sg46.fresh u.toNat ([a, b, c, d].map Int.toNat)) := by
  unfold Sg46.beginOk Sg46.within at h
  simp at h
  refine ⟨rfl, fun x m => by rw [List.eq_of_mem_replicate m]; decide, fun _ => by show 0 ≤ 1; decide, fun _ => by show 0 ≤ 1; decide, fun _ => by show 0 < 65536; decide, fun _ => by show 0 < 65536; decide, fun t => ?_, by show u.toNat < 256; omega⟩
  show ([a.toNat, b.toNat, c.toNat, d.toNat] : List Nat).getD t 0 ≤ 65536
  match t with
  | 0 => show a.toNat ≤ 65536; omega
  | 1 => show b.toNat ≤ 65536; omega
  | 2 => show c.toNat ≤ 65536; omega
  | 3 => show d.toNat ≤ 65536; omega
  | n + 4 => show 0 ≤ 65536; decide
theorem net_keeps {s : Sg46.Dev} {l : List Nat} (ok : DevOk s) (hb : Byt l) (hl : l.length ≤ 300) : DevOk (Sg46.netIn s l).2 ∧ (Sg46.netIn s l).1.length ≤ 1000 := by
  unfold Sg46.netIn
  split
  · dsimp only
    split
    · obtain ⟨h1, h2, h3⟩ := answer_keeps (q := l.drop 7) ((ok.more 0).more 3) (byt_drop hb 7) (by rw [List.length_drop]; omega)
      refine ⟨h1, ?_⟩
      rw [List.length_append, List.length_append, List.length_take, List.length_cons]
      show min 4 l.length + 2 + _ ≤ 1000
      omega
    · exact ⟨ok.more 0, by show 0 ≤ 1000; decide⟩
  · exact ⟨ok.more 1, by show 0 ≤ 1000; decide⟩
/-- a call that leaves the device -/
theorem step_dev {s : Sg46.Dev} {c : List (List Int)} {q : Sg46.Call} (hc : Sg46Neutral.callOf c = some (.inr q)) : (Sg46Neutral.step s c).1 = (Sg46.does s q).2 := by
  unfold Sg46Neutral.step
  rw [hc]
theorem good_ok (p : Int) (ns : List Int) (rows : List (List Nat)) (s : Sg46.Dev) (h : Good p ns rows) (ok : DevOk s) : DevOk (Sg46Neutral.step s (callAt p ns rows)).1 := by
  unfold Good at h
  rcases h with ⟨rfl, h1, rfl⟩ | ⟨rfl, h1, rfl⟩ | ⟨rfl, h1, rfl⟩ | ⟨rfl, rfl, l, rfl, hb, hl⟩ | ⟨rfl, rfl, l, rfl, hb, hl⟩ | ⟨rfl, rfl, l, rfl, hb, hl⟩ | ⟨rfl, rfl, l, rfl, hb, hl⟩ | ⟨rfl, rfl, rfl⟩ | ⟨rfl, rfl, l, rfl, hb, hl⟩ | ⟨rfl, rfl, l, rfl, hb, hl⟩ | ⟨rfl, f, a, c, rfl, l, rfl, hw, hl, hlen⟩ | ⟨rfl, rfl, q, b, rfl, _⟩
  · match ns, h1 with
    | [u, a, b, c, d], _ =>
      show DevOk (if Sg46.beginOk u a b c d = true then (Sg46.fresh u.toNat ([a, b, c, d].map Int.toNat), [0]) else (s, [-2])).1
      split
      · rename_i z
        exact fresh_good z
      · exact ok
  · match ns, h1 with
    | [t, i, x], _ =>
      rw [step_dev (q := .set t i x) rfl]
      show DevOk (if (Sg46.within t 0 3 && (Sg46.within i 0 ((s.size t.toNat : Int) - 1) && Sg46.within x 0 (if t < 2 then 1 else 65535))) = false then (Sg46.says (-2), s) else (Sg46.says 0, s.put t.toNat i.toNat x.toNat)).2
      generalize hm : (if t < 2 then (1 : Int) else 65535) = m
      split
      · exact ok
      · rename_i z
        simp only [Bool.not_eq_false, Bool.and_eq_true] at z
        obtain ⟨z1, z2, z3⟩ := z
        unfold Sg46.within at z1 z3
        simp at z1 z3
        refine ok.put _ (by omega) ?_
        split at hm <;> split <;> omega
  · match ns, h1 with
    | [t, i], _ =>
      rw [step_dev (q := .get t i) rfl]
      exact ok
  · rw [whole_row (by omega), step_dev (q := .pdu (Sg46Neutral.nats (ofN l)) (l.length : Int)) rfl, nats_ofN]
    show DevOk (if Sg46.within (l.length : Int) 1 253 = false then (Sg46.says (-2), s) else (Sg46.told (Sg46.answer s l).1, (Sg46.answer s l).2)).2
    split
    · exact ok
    · exact (answer_keeps ok hb (by omega)).1
  · rw [whole_row (by omega), step_dev (q := .rtu (Sg46Neutral.nats (ofN l)) (l.length : Int)) rfl, nats_ofN]
    show DevOk (if Sg46.within (l.length : Int) 0 256 = false then (Sg46.says (-2), s) else (Sg46.told (Sg46.bytesIn s l).1, (Sg46.bytesIn s l).2)).2
    split
    · exact ok
    · exact (rtu_len ok hb (by omega)).2
  · rw [whole_row (by omega), step_dev (q := .ascii (Sg46Neutral.nats (ofN l)) (l.length : Int)) rfl, nats_ofN]
    show DevOk (if Sg46.within (l.length : Int) 0 513 = false then (Sg46.says (-2), s) else (Sg46.told (Sg46.lineIn s l).1, (Sg46.lineIn s l).2)).2
    split
    · exact ok
    · exact (line_len ok (by omega)).2
  · rw [whole_row (by omega), step_dev (q := .tcp (Sg46Neutral.nats (ofN l)) (l.length : Int)) rfl, nats_ofN]
    show DevOk (if Sg46.within (l.length : Int) 0 260 = false then (Sg46.says (-2), s) else (Sg46.told (Sg46.netIn s l).1, (Sg46.netIn s l).2)).2
    split
    · exact ok
    · exact (net_keeps ok hb (by omega)).1
  · rw [step_dev (q := .counts) rfl]
    exact ok
  · rw [whole_row (by omega), step_dev (q := .crc (Sg46Neutral.nats (ofN l)) (l.length : Int)) rfl]
    exact ok
  · rw [whole_row (by omega), step_dev (q := .lrc (Sg46Neutral.nats (ofN l)) (l.length : Int)) rfl]
    exact ok
  · rw [step_dev (c := callAt 10 [f, a, c] [l]) (q := .ask f a c (Sg46Neutral.nats (ofN l))) rfl]
    exact ok
  · rw [step_dev (c := callAt 11 [] [q, b]) (q := .read (Sg46Neutral.nats (ofN q)) (Sg46Neutral.nats (ofN b)) ((ofN q).length : Int) ((ofN b).length : Int)) rfl]
    exact ok
end Bd

set_option Elab.async false
set_option linter.all false
set_option maxRecDepth 100000
set_option maxHeartbeats 2000000
namespace Bd
open PySem PySem.Spec PyProof.Rows L2
section
variable {P : Program} {w : World} {K : PySem.W.Frag} {mg : Str → Option Value} {base : Heap} {A : Ad}
theorem held_as {k : Nat} {f : Addr} {p : Int} {C : List Int → List (List Nat) → Prop} (h : Held P w K mg base k f (sp_call A p C)) (hc : ∀ ns rows, Good p ns rows → C ns rows) : Held P w K mg base k f (sp_call A p (Good p)) := by
  obtain ⟨fd, ps, F, hk, hb⟩ := h.ex
  refine ⟨fd, ps, F.imp (fun vs H Q E z => ?_), hk, hb⟩
  obtain ⟨d, nu, ro, ns, rs, rows, s, F, h1, h2, h3, h4, h5, h6, h7, h8, h9⟩ := z
  exact ⟨d, nu, ro, ns, rs, rows, s, F, h1, h2, h3, h4, h5, h6, h7, hc _ _ h8, h9⟩
theorem hdesk_mk (T : Txt K mg A)
    (h0 : Held P w K mg base 8 A.f_call_begin (sp_call A 0 (fun ns rows => ns.length = 5 ∧ rows = [])))
    (h2 : Held P w K mg base 8 A.f_call_get (sp_call A 2 (fun ns rows => ns.length = 2 ∧ rows = [])))
    (h1 : Held P w K mg base 8 A.f_call_set (sp_call A 1 (fun ns rows => ns.length = 3 ∧ rows = [])))
    (h3 : Held P w K mg base 8 A.f_call_pdu (sp_call A 3 (fun ns rows => ns = [] ∧ ∃ l, rows = [l] ∧ Byt l ∧ l.length ≤ 253)))
    (h4 : Held P w K mg base 8 A.f_call_rtu (sp_call A 4 (fun ns rows => ns = [] ∧ ∃ l, rows = [l] ∧ Byt l ∧ l.length ≤ 256)))
    (h5 : Held P w K mg base 8 A.f_call_ascii (sp_call A 5 (fun ns rows => ns = [] ∧ ∃ l, rows = [l] ∧ Byt l ∧ l.length ≤ 513)))
    (h6 : Held P w K mg base 8 A.f_call_tcp (sp_call A 6 (fun ns rows => ns = [] ∧ ∃ l, rows = [l] ∧ Byt l ∧ l.length ≤ 260)))
    (h7 : Held P w K mg base 8 A.f_call_counts (sp_call A 7 (fun ns rows => ns = [] ∧ rows = [])))
    (h8 : Held P w K mg base 8 A.f_call_crc (sp_call A 8 (fun ns rows => ns = [] ∧ ∃ l, rows = [l] ∧ Byt l ∧ l.length ≤ 29000)))
    (h9 : Held P w K mg base 8 A.f_call_lrc (sp_call A 9 (fun ns rows => ns = [] ∧ ∃ l, rows = [l] ∧ Byt l ∧ l.length ≤ 29000)))
    (h10 : Held P w K mg base 8 A.f_call_ask (sp_call A 10 (fun ns rows => ∃ f a c, ns = [f, a, c] ∧ ∃ l, rows = [l] ∧ Words l ∧ l.length ≤ 2000 ∧ (l.length : Int) = if ([5, 6, 15, 16, 22] : List Int).contains f = true ∧ ((0 ≤ a ∧ a ≤ 65535) ∧ (1 ≤ c ∧ c ≤ 2000)) then c else 0)))
    (h11 : Held P w K mg base 8 A.f_call_read (sp_call A 11 (fun ns rows => ns = [] ∧ ∃ q b, rows = [q, b] ∧ Byt q ∧ Byt b ∧ q.length ≤ 253 ∧ b.length ≤ 253))) : HDesk P w K mg base A where
  shapes := fun p ns rows h => by
    unfold Good at h
    rcases h with ⟨rfl, h1, rfl⟩ | ⟨rfl, h1, rfl⟩ | ⟨rfl, h1, rfl⟩ | ⟨rfl, rfl, l, rfl, _⟩ | ⟨rfl, rfl, l, rfl, _⟩ | ⟨rfl, rfl, l, rfl, _⟩ | ⟨rfl, rfl, l, rfl, _⟩ | ⟨rfl, rfl, rfl⟩ | ⟨rfl, rfl, l, rfl, _⟩ | ⟨rfl, rfl, l, rfl, _⟩ | ⟨rfl, f, a, c, rfl, l, rfl, _⟩ | ⟨rfl, rfl, q, b, rfl, _⟩
    · exact ⟨_, _, T.k_SHAPES, rfl, h1 ▸ T.t_SHAPES_0⟩
    · exact ⟨_, _, T.k_SHAPES, rfl, h1 ▸ T.t_SHAPES_1⟩
    · exact ⟨_, _, T.k_SHAPES, rfl, h1 ▸ T.t_SHAPES_2⟩
    · exact ⟨_, _, T.k_SHAPES, rfl, T.t_SHAPES_3⟩
    · exact ⟨_, _, T.k_SHAPES, rfl, T.t_SHAPES_4⟩
    · exact ⟨_, _, T.k_SHAPES, rfl, T.t_SHAPES_5⟩
    · exact ⟨_, _, T.k_SHAPES, rfl, T.t_SHAPES_6⟩
    · exact ⟨_, _, T.k_SHAPES, rfl, T.t_SHAPES_7⟩
    · exact ⟨_, _, T.k_SHAPES, rfl, T.t_SHAPES_8⟩
    · exact ⟨_, _, T.k_SHAPES, rfl, T.t_SHAPES_9⟩
    · exact ⟨_, _, T.k_SHAPES, rfl, T.t_SHAPES_10⟩
    · exact ⟨_, _, T.k_SHAPES, rfl, T.t_SHAPES_11⟩
  calls := fun p ns rows h => by
    unfold Good at h
    rcases h with ⟨rfl, _⟩ | ⟨rfl, _⟩ | ⟨rfl, _⟩ | ⟨rfl, _⟩ | ⟨rfl, _⟩ | ⟨rfl, _⟩ | ⟨rfl, _⟩ | ⟨rfl, _⟩ | ⟨rfl, _⟩ | ⟨rfl, _⟩ | ⟨rfl, _⟩ | ⟨rfl, _⟩
    · exact ⟨_, _, T.k_CALLS, rfl, held_as h0 fun ns rows z => by simpa [Good] using z⟩
    · exact ⟨_, _, T.k_CALLS, rfl, held_as h1 fun ns rows z => by simpa [Good] using z⟩
    · exact ⟨_, _, T.k_CALLS, rfl, held_as h2 fun ns rows z => by simpa [Good] using z⟩
    · exact ⟨_, _, T.k_CALLS, rfl, held_as h3 fun ns rows z => by simpa [Good] using z⟩
    · exact ⟨_, _, T.k_CALLS, rfl, held_as h4 fun ns rows z => by simpa [Good] using z⟩
    · exact ⟨_, _, T.k_CALLS, rfl, held_as h5 fun ns rows z => by simpa [Good] using z⟩
    · exact ⟨_, _, T.k_CALLS, rfl, held_as h6 fun ns rows z => by simpa [Good] using z⟩
    · exact ⟨_, _, T.k_CALLS, rfl, held_as h7 fun ns rows z => by simpa [Good] using z⟩
    · exact ⟨_, _, T.k_CALLS, rfl, held_as h8 fun ns rows z => by simpa [Good] using z⟩
    · exact ⟨_, _, T.k_CALLS, rfl, held_as h9 fun ns rows z => by simpa [Good] using z⟩
    · exact ⟨_, _, T.k_CALLS, rfl, held_as h10 fun ns rows z => by simpa [Good] using z⟩
    · exact ⟨_, _, T.k_CALLS, rfl, held_as h11 fun ns rows z => by simpa [Good] using z⟩
  ok := good_ok
end
end Bd

set_option Elab.async false
set_option linter.all false
set_option maxRecDepth 100000
set_option maxHeartbeats 8000000
namespace Bd
open PySem PySem.Spec PyProof.Rows L2
theorem all_mk {P : Program} {w : World} {K : PySem.W.Frag} {h : Heap} {mg : Str → Option Value} {fa : Addr} (X : K.In h) (G : h.Ns mainGlobals mg) (hfa : mg "answers" = some (.ref fa))
    {C : Addr}
    {f___init__ : Addr} {od___init__ an___init__ : Option Addr} {sl___init__ : Array (Option Value)} {oc___init__ kV___init__ dc___init__ pm___init__ cd___init__ ct___init__ : Value}
    {f_begin : Addr} {od_begin an_begin : Option Addr} {sl_begin : Array (Option Value)} {oc_begin kV_begin dc_begin pm_begin cd_begin ct_begin : Value}
    {f_has_places : Addr} {od_has_places an_has_places : Option Addr} {sl_has_places : Array (Option Value)} {oc_has_places kV_has_places dc_has_places pm_has_places cd_has_places ct_has_places : Value}
    {f_set_value : Addr} {od_set_value an_set_value : Option Addr} {sl_set_value : Array (Option Value)} {oc_set_value kV_set_value dc_set_value pm_set_value cd_set_value ct_set_value : Value}
    {f_get_value : Addr} {od_get_value an_get_value : Option Addr} {sl_get_value : Array (Option Value)} {oc_get_value kV_get_value dc_get_value pm_get_value cd_get_value ct_get_value : Value}
    {f_row_at : Addr} {od_row_at an_row_at : Option Addr} {sl_row_at : Array (Option Value)} {oc_row_at kV_row_at dc_row_at pm_row_at cd_row_at ct_row_at : Value}
    {f_put_row : Addr} {od_put_row an_put_row : Option Addr} {sl_put_row : Array (Option Value)} {oc_put_row kV_put_row dc_put_row pm_put_row cd_put_row ct_put_row : Value}
    {f_tally : Addr} {od_tally an_tally : Option Addr} {sl_tally : Array (Option Value)} {oc_tally kV_tally dc_tally pm_tally cd_tally ct_tally : Value}
    {f_clear_tallies : Addr} {od_clear_tallies an_clear_tallies : Option Addr} {sl_clear_tallies : Array (Option Value)} {oc_clear_tallies kV_clear_tallies dc_clear_tallies pm_clear_tallies cd_clear_tallies ct_clear_tallies : Value}
    {f_number_at : Addr} {od_number_at an_number_at : Option Addr} {sl_number_at : Array (Option Value)} {oc_number_at kV_number_at dc_number_at pm_number_at cd_number_at ct_number_at : Value}
    {f_bytes_of_numbers : Addr} {od_bytes_of_numbers an_bytes_of_numbers : Option Addr} {sl_bytes_of_numbers : Array (Option Value)} {oc_bytes_of_numbers kV_bytes_of_numbers dc_bytes_of_numbers pm_bytes_of_numbers cd_bytes_of_numbers ct_bytes_of_numbers : Value}
    {f_numbers_of_bytes : Addr} {od_numbers_of_bytes an_numbers_of_bytes : Option Addr} {sl_numbers_of_bytes : Array (Option Value)} {oc_numbers_of_bytes kV_numbers_of_bytes dc_numbers_of_bytes pm_numbers_of_bytes cd_numbers_of_bytes ct_numbers_of_bytes : Value}
    {f_counted : Addr} {od_counted an_counted : Option Addr} {sl_counted : Array (Option Value)} {oc_counted kV_counted dc_counted pm_counted cd_counted ct_counted : Value}
    {f_bytes_for_bits : Addr} {od_bytes_for_bits an_bytes_for_bits : Option Addr} {sl_bytes_for_bits : Array (Option Value)} {oc_bytes_for_bits kV_bytes_for_bits dc_bytes_for_bits pm_bytes_for_bits cd_bytes_for_bits ct_bytes_for_bits : Value}
    {f_bytes_of_bits : Addr} {od_bytes_of_bits an_bytes_of_bits : Option Addr} {sl_bytes_of_bits : Array (Option Value)} {oc_bytes_of_bits kV_bytes_of_bits dc_bytes_of_bits pm_bytes_of_bits cd_bytes_of_bits ct_bytes_of_bits : Value}
    {f_bits_of_bytes : Addr} {od_bits_of_bytes an_bits_of_bytes : Option Addr} {sl_bits_of_bytes : Array (Option Value)} {oc_bits_of_bytes kV_bits_of_bytes dc_bits_of_bytes pm_bits_of_bytes cd_bits_of_bytes ct_bits_of_bytes : Value}
    {f_is_read_of_bits : Addr} {od_is_read_of_bits an_is_read_of_bits : Option Addr} {sl_is_read_of_bits : Array (Option Value)} {oc_is_read_of_bits kV_is_read_of_bits dc_is_read_of_bits pm_is_read_of_bits cd_is_read_of_bits ct_is_read_of_bits : Value}
    {f_is_read_of_numbers : Addr} {od_is_read_of_numbers an_is_read_of_numbers : Option Addr} {sl_is_read_of_numbers : Array (Option Value)} {oc_is_read_of_numbers kV_is_read_of_numbers dc_is_read_of_numbers pm_is_read_of_numbers cd_is_read_of_numbers ct_is_read_of_numbers : Value}
    {f_is_write_of_coil : Addr} {od_is_write_of_coil an_is_write_of_coil : Option Addr} {sl_is_write_of_coil : Array (Option Value)} {oc_is_write_of_coil kV_is_write_of_coil dc_is_write_of_coil pm_is_write_of_coil cd_is_write_of_coil ct_is_write_of_coil : Value}
    {f_is_write_of_kept : Addr} {od_is_write_of_kept an_is_write_of_kept : Option Addr} {sl_is_write_of_kept : Array (Option Value)} {oc_is_write_of_kept kV_is_write_of_kept dc_is_write_of_kept pm_is_write_of_kept cd_is_write_of_kept ct_is_write_of_kept : Value}
    {f_is_mask_of_kept : Addr} {od_is_mask_of_kept an_is_mask_of_kept : Option Addr} {sl_is_mask_of_kept : Array (Option Value)} {oc_is_mask_of_kept kV_is_mask_of_kept dc_is_mask_of_kept pm_is_mask_of_kept cd_is_mask_of_kept ct_is_mask_of_kept : Value}
    {f_is_alone : Addr} {od_is_alone an_is_alone : Option Addr} {sl_is_alone : Array (Option Value)} {oc_is_alone kV_is_alone dc_is_alone pm_is_alone cd_is_alone ct_is_alone : Value}
    {f_ends_with_row : Addr} {od_ends_with_row an_ends_with_row : Option Addr} {sl_ends_with_row : Array (Option Value)} {oc_ends_with_row kV_ends_with_row dc_ends_with_row pm_ends_with_row cd_ends_with_row ct_ends_with_row : Value}
    {f_is_write_of_coils : Addr} {od_is_write_of_coils an_is_write_of_coils : Option Addr} {sl_is_write_of_coils : Array (Option Value)} {oc_is_write_of_coils kV_is_write_of_coils dc_is_write_of_coils pm_is_write_of_coils cd_is_write_of_coils ct_is_write_of_coils : Value}
    {f_is_write_of_kept_row : Addr} {od_is_write_of_kept_row an_is_write_of_kept_row : Option Addr} {sl_is_write_of_kept_row : Array (Option Value)} {oc_is_write_of_kept_row kV_is_write_of_kept_row dc_is_write_of_kept_row pm_is_write_of_kept_row cd_is_write_of_kept_row ct_is_write_of_kept_row : Value}
    {f_is_write_and_read : Addr} {od_is_write_and_read an_is_write_and_read : Option Addr} {sl_is_write_and_read : Array (Option Value)} {oc_is_write_and_read kV_is_write_and_read dc_is_write_and_read pm_is_write_and_read cd_is_write_and_read ct_is_write_and_read : Value}
    {f_is_known_check : Addr} {od_is_known_check an_is_known_check : Option Addr} {sl_is_known_check : Array (Option Value)} {oc_is_known_check kV_is_known_check dc_is_known_check pm_is_known_check cd_is_known_check ct_is_known_check : Value}
    {f_is_check : Addr} {od_is_check an_is_check : Option Addr} {sl_is_check : Array (Option Value)} {oc_is_check kV_is_check dc_is_check pm_is_check cd_is_check ct_is_check : Value}
    {f_is_known : Addr} {od_is_known an_is_known : Option Addr} {sl_is_known : Array (Option Value)} {oc_is_known kV_is_known dc_is_known pm_is_known cd_is_known ct_is_known : Value}
    {f_has_right_form : Addr} {od_has_right_form an_has_right_form : Option Addr} {sl_has_right_form : Array (Option Value)} {oc_has_right_form kV_has_right_form dc_has_right_form pm_has_right_form cd_has_right_form ct_has_right_form : Value}
    {f_table_read_by : Addr} {od_table_read_by an_table_read_by : Option Addr} {sl_table_read_by : Array (Option Value)} {oc_table_read_by kV_table_read_by dc_table_read_by pm_table_read_by cd_table_read_by ct_table_read_by : Value}
    {f_spans_of : Addr} {od_spans_of an_spans_of : Option Addr} {sl_spans_of : Array (Option Value)} {oc_spans_of kV_spans_of dc_spans_of pm_spans_of cd_spans_of ct_spans_of : Value}
    {f_reason_against : Addr} {od_reason_against an_reason_against : Option Addr} {sl_reason_against : Array (Option Value)} {oc_reason_against kV_reason_against dc_reason_against pm_reason_against cd_reason_against ct_reason_against : Value}
    {f_count_bounds : Addr} {od_count_bounds an_count_bounds : Option Addr} {sl_count_bounds : Array (Option Value)} {oc_count_bounds kV_count_bounds dc_count_bounds pm_count_bounds cd_count_bounds ct_count_bounds : Value}
    {f_places_reached : Addr} {od_places_reached an_places_reached : Option Addr} {sl_places_reached : Array (Option Value)} {oc_places_reached kV_places_reached dc_places_reached pm_places_reached cd_places_reached ct_places_reached : Value}
    {f_may_be_asked : Addr} {od_may_be_asked an_may_be_asked : Option Addr} {sl_may_be_asked : Array (Option Value)} {oc_may_be_asked kV_may_be_asked dc_may_be_asked pm_may_be_asked cd_may_be_asked ct_may_be_asked : Value}
    {f_numbers_behind_place : Addr} {od_numbers_behind_place an_numbers_behind_place : Option Addr} {sl_numbers_behind_place : Array (Option Value)} {oc_numbers_behind_place kV_numbers_behind_place dc_numbers_behind_place pm_numbers_behind_place cd_numbers_behind_place ct_numbers_behind_place : Value}
    {f_row_behind_numbers : Addr} {od_row_behind_numbers an_row_behind_numbers : Option Addr} {sl_row_behind_numbers : Array (Option Value)} {oc_row_behind_numbers kV_row_behind_numbers dc_row_behind_numbers pm_row_behind_numbers cd_row_behind_numbers ct_row_behind_numbers : Value}
    {f_ask : Addr} {od_ask an_ask : Option Addr} {sl_ask : Array (Option Value)} {oc_ask kV_ask dc_ask pm_ask cd_ask ct_ask : Value}
    {f_tells_refusal : Addr} {od_tells_refusal an_tells_refusal : Option Addr} {sl_tells_refusal : Array (Option Value)} {oc_tells_refusal kV_tells_refusal dc_tells_refusal pm_tells_refusal cd_tells_refusal ct_tells_refusal : Value}
    {f_read_values : Addr} {od_read_values an_read_values : Option Addr} {sl_read_values : Array (Option Value)} {oc_read_values kV_read_values dc_read_values pm_read_values cd_read_values ct_read_values : Value}
    {f_is_confirmed : Addr} {od_is_confirmed an_is_confirmed : Option Addr} {sl_is_confirmed : Array (Option Value)} {oc_is_confirmed kV_is_confirmed dc_is_confirmed pm_is_confirmed cd_is_confirmed ct_is_confirmed : Value}
    {f_read : Addr} {od_read an_read : Option Addr} {sl_read : Array (Option Value)} {oc_read kV_read dc_read pm_read cd_read ct_read : Value}
    {f_read_bits : Addr} {od_read_bits an_read_bits : Option Addr} {sl_read_bits : Array (Option Value)} {oc_read_bits kV_read_bits dc_read_bits pm_read_bits cd_read_bits ct_read_bits : Value}
    {f_answer_with_numbers : Addr} {od_answer_with_numbers an_answer_with_numbers : Option Addr} {sl_answer_with_numbers : Array (Option Value)} {oc_answer_with_numbers kV_answer_with_numbers dc_answer_with_numbers pm_answer_with_numbers cd_answer_with_numbers ct_answer_with_numbers : Value}
    {f_read_numbers : Addr} {od_read_numbers an_read_numbers : Option Addr} {sl_read_numbers : Array (Option Value)} {oc_read_numbers kV_read_numbers dc_read_numbers pm_read_numbers cd_read_numbers ct_read_numbers : Value}
    {f_write_coil : Addr} {od_write_coil an_write_coil : Option Addr} {sl_write_coil : Array (Option Value)} {oc_write_coil kV_write_coil dc_write_coil pm_write_coil cd_write_coil ct_write_coil : Value}
    {f_write_kept : Addr} {od_write_kept an_write_kept : Option Addr} {sl_write_kept : Array (Option Value)} {oc_write_kept kV_write_kept dc_write_kept pm_write_kept cd_write_kept ct_write_kept : Value}
    {f_mask_kept : Addr} {od_mask_kept an_mask_kept : Option Addr} {sl_mask_kept : Array (Option Value)} {oc_mask_kept kV_mask_kept dc_mask_kept pm_mask_kept cd_mask_kept ct_mask_kept : Value}
    {f_write_coils : Addr} {od_write_coils an_write_coils : Option Addr} {sl_write_coils : Array (Option Value)} {oc_write_coils kV_write_coils dc_write_coils pm_write_coils cd_write_coils ct_write_coils : Value}
    {f_write_kept_row : Addr} {od_write_kept_row an_write_kept_row : Option Addr} {sl_write_kept_row : Array (Option Value)} {oc_write_kept_row kV_write_kept_row dc_write_kept_row pm_write_kept_row cd_write_kept_row ct_write_kept_row : Value}
    {f_write_and_read : Addr} {od_write_and_read an_write_and_read : Option Addr} {sl_write_and_read : Array (Option Value)} {oc_write_and_read kV_write_and_read dc_write_and_read pm_write_and_read cd_write_and_read ct_write_and_read : Value}
    {f_read_status : Addr} {od_read_status an_read_status : Option Addr} {sl_read_status : Array (Option Value)} {oc_read_status kV_read_status dc_read_status pm_read_status cd_read_status ct_read_status : Value}
    {f_read_went_well : Addr} {od_read_went_well an_read_went_well : Option Addr} {sl_read_went_well : Array (Option Value)} {oc_read_went_well kV_read_went_well dc_read_went_well pm_read_went_well cd_read_went_well ct_read_went_well : Value}
    {f_check_device : Addr} {od_check_device an_check_device : Option Addr} {sl_check_device : Array (Option Value)} {oc_check_device kV_check_device dc_check_device pm_check_device cd_check_device ct_check_device : Value}
    {f_carry_out : Addr} {od_carry_out an_carry_out : Option Addr} {sl_carry_out : Array (Option Value)} {oc_carry_out kV_carry_out dc_carry_out pm_carry_out cd_carry_out ct_carry_out : Value}
    {f_crc : Addr} {od_crc an_crc : Option Addr} {sl_crc : Array (Option Value)} {oc_crc kV_crc dc_crc pm_crc cd_crc ct_crc : Value}
    {f_lrc : Addr} {od_lrc an_lrc : Option Addr} {sl_lrc : Array (Option Value)} {oc_lrc kV_lrc dc_lrc pm_lrc cd_lrc ct_lrc : Value}
    {f_take_request : Addr} {od_take_request an_take_request : Option Addr} {sl_take_request : Array (Option Value)} {oc_take_request kV_take_request dc_take_request pm_take_request cd_take_request ct_take_request : Value}
    {f_crc_bytes : Addr} {od_crc_bytes an_crc_bytes : Option Addr} {sl_crc_bytes : Array (Option Value)} {oc_crc_bytes kV_crc_bytes dc_crc_bytes pm_crc_bytes cd_crc_bytes ct_crc_bytes : Value}
    {f_rtu_frame : Addr} {od_rtu_frame an_rtu_frame : Option Addr} {sl_rtu_frame : Array (Option Value)} {oc_rtu_frame kV_rtu_frame dc_rtu_frame pm_rtu_frame cd_rtu_frame ct_rtu_frame : Value}
    {f_is_rtu_frame : Addr} {od_is_rtu_frame an_is_rtu_frame : Option Addr} {sl_is_rtu_frame : Array (Option Value)} {oc_is_rtu_frame kV_is_rtu_frame dc_is_rtu_frame pm_is_rtu_frame cd_is_rtu_frame ct_is_rtu_frame : Value}
    {f_answer_rtu : Addr} {od_answer_rtu an_answer_rtu : Option Addr} {sl_answer_rtu : Array (Option Value)} {oc_answer_rtu kV_answer_rtu dc_answer_rtu pm_answer_rtu cd_answer_rtu ct_answer_rtu : Value}
    {f_digit_value : Addr} {od_digit_value an_digit_value : Option Addr} {sl_digit_value : Array (Option Value)} {oc_digit_value kV_digit_value dc_digit_value pm_digit_value cd_digit_value ct_digit_value : Value}
    {f_digit_sign : Addr} {od_digit_sign an_digit_sign : Option Addr} {sl_digit_sign : Array (Option Value)} {oc_digit_sign kV_digit_sign dc_digit_sign pm_digit_sign cd_digit_sign ct_digit_sign : Value}
    {f_ascii_frame : Addr} {od_ascii_frame an_ascii_frame : Option Addr} {sl_ascii_frame : Array (Option Value)} {oc_ascii_frame kV_ascii_frame dc_ascii_frame pm_ascii_frame cd_ascii_frame ct_ascii_frame : Value}
    {f_bytes_of_digits : Addr} {od_bytes_of_digits an_bytes_of_digits : Option Addr} {sl_bytes_of_digits : Array (Option Value)} {oc_bytes_of_digits kV_bytes_of_digits dc_bytes_of_digits pm_bytes_of_digits cd_bytes_of_digits ct_bytes_of_digits : Value}
    {f_bytes_of_line : Addr} {od_bytes_of_line an_bytes_of_line : Option Addr} {sl_bytes_of_line : Array (Option Value)} {oc_bytes_of_line kV_bytes_of_line dc_bytes_of_line pm_bytes_of_line cd_bytes_of_line ct_bytes_of_line : Value}
    {f_answer_ascii : Addr} {od_answer_ascii an_answer_ascii : Option Addr} {sl_answer_ascii : Array (Option Value)} {oc_answer_ascii kV_answer_ascii dc_answer_ascii pm_answer_ascii cd_answer_ascii ct_answer_ascii : Value}
    {f_is_tcp_frame : Addr} {od_is_tcp_frame an_is_tcp_frame : Option Addr} {sl_is_tcp_frame : Array (Option Value)} {oc_is_tcp_frame kV_is_tcp_frame dc_is_tcp_frame pm_is_tcp_frame cd_is_tcp_frame ct_is_tcp_frame : Value}
    {f_answer_tcp : Addr} {od_answer_tcp an_answer_tcp : Option Addr} {sl_answer_tcp : Array (Option Value)} {oc_answer_tcp kV_answer_tcp dc_answer_tcp pm_answer_tcp cd_answer_tcp ct_answer_tcp : Value}
    {f_call_begin : Addr} {od_call_begin an_call_begin : Option Addr} {sl_call_begin : Array (Option Value)} {oc_call_begin kV_call_begin dc_call_begin pm_call_begin cd_call_begin ct_call_begin : Value}
    {f_call_set : Addr} {od_call_set an_call_set : Option Addr} {sl_call_set : Array (Option Value)} {oc_call_set kV_call_set dc_call_set pm_call_set cd_call_set ct_call_set : Value}
    {f_call_get : Addr} {od_call_get an_call_get : Option Addr} {sl_call_get : Array (Option Value)} {oc_call_get kV_call_get dc_call_get pm_call_get cd_call_get ct_call_get : Value}
    {f_call_pdu : Addr} {od_call_pdu an_call_pdu : Option Addr} {sl_call_pdu : Array (Option Value)} {oc_call_pdu kV_call_pdu dc_call_pdu pm_call_pdu cd_call_pdu ct_call_pdu : Value}
    {f_call_rtu : Addr} {od_call_rtu an_call_rtu : Option Addr} {sl_call_rtu : Array (Option Value)} {oc_call_rtu kV_call_rtu dc_call_rtu pm_call_rtu cd_call_rtu ct_call_rtu : Value}
    {f_call_ascii : Addr} {od_call_ascii an_call_ascii : Option Addr} {sl_call_ascii : Array (Option Value)} {oc_call_ascii kV_call_ascii dc_call_ascii pm_call_ascii cd_call_ascii ct_call_ascii : Value}
    {f_call_tcp : Addr} {od_call_tcp an_call_tcp : Option Addr} {sl_call_tcp : Array (Option Value)} {oc_call_tcp kV_call_tcp dc_call_tcp pm_call_tcp cd_call_tcp ct_call_tcp : Value}
    {f_call_counts : Addr} {od_call_counts an_call_counts : Option Addr} {sl_call_counts : Array (Option Value)} {oc_call_counts kV_call_counts dc_call_counts pm_call_counts cd_call_counts ct_call_counts : Value}
    {f_call_crc : Addr} {od_call_crc an_call_crc : Option Addr} {sl_call_crc : Array (Option Value)} {oc_call_crc kV_call_crc dc_call_crc pm_call_crc cd_call_crc ct_call_crc : Value}
    {f_call_lrc : Addr} {od_call_lrc an_call_lrc : Option Addr} {sl_call_lrc : Array (Option Value)} {oc_call_lrc kV_call_lrc dc_call_lrc pm_call_lrc cd_call_lrc ct_call_lrc : Value}
    {f_call_ask : Addr} {od_call_ask an_call_ask : Option Addr} {sl_call_ask : Array (Option Value)} {oc_call_ask kV_call_ask dc_call_ask pm_call_ask cd_call_ask ct_call_ask : Value}
    {f_call_read : Addr} {od_call_read an_call_read : Option Addr} {sl_call_read : Array (Option Value)} {oc_call_read kV_call_read dc_call_read pm_call_read cd_call_read ct_call_read : Value}
    {f_rows_from : Addr} {od_rows_from an_rows_from : Option Addr} {sl_rows_from : Array (Option Value)} {oc_rows_from kV_rows_from dc_rows_from pm_rows_from cd_rows_from ct_rows_from : Value}
    {f_answers : Addr} {od_answers an_answers : Option Addr} {sl_answers : Array (Option Value)} {oc_answers kV_answers dc_answers pm_answers cd_answers ct_answers : Value}
    {k_OUT_OF_RANGE : Tok}
    {k_COILS : Tok}
    {k_INPUTS : Tok}
    {k_KEPT : Tok}
    {k_READ_ONLY : Tok}
    {t_GREATEST_VALUES : Addr} {dd_GREATEST_VALUES : Option Addr} {its_GREATEST_VALUES : Array Value} {n_GREATEST_VALUES : Nat} {ss_GREATEST_VALUES : Array (Option Value)}
    {k_GREATEST_SIZE : Tok}
    {k_FRAMES_RIGHT : Tok}
    {k_FRAMES_WRONG : Tok}
    {k_REFUSALS : Tok}
    {k_FRAMES_FOR_IT : Tok}
    {k_FRAMES_FOR_ALL : Tok}
    {k_WENT_WELL : Tok}
    {k_NO_REASON : Tok}
    {k_NO_SUCH_FUNCTION : Tok}
    {k_NO_SUCH_PLACE : Tok}
    {k_WRONG_FORM : Tok}
    {k_COIL_ON : Tok}
    {k_MOST_BITS_READ : Tok}
    {k_MOST_NUMBERS_READ : Tok}
    {k_MOST_COILS_WRITTEN : Tok}
    {k_MOST_KEPT_WRITTEN : Tok}
    {k_MOST_KEPT_WRITTEN_AND_READ : Tok}
    {k_ECHO : Tok}
    {k_CLEAR_COUNTS : Tok}
    {k_FIRST_COUNT : Tok}
    {k_LAST_COUNT : Tok}
    {d_FORMS : Addr} {es_FORMS : Array DictEntry} {m_FORMS : Nat}
    {k_UNFIT : Tok}
    {k_REFUSAL_TOLD : Tok}
    {k_GREATEST_PLACE : Tok}
    {t_UNCOUNTED : Addr} {dd_UNCOUNTED : Option Addr} {its_UNCOUNTED : Array Value} {n_UNCOUNTED : Nat} {ss_UNCOUNTED : Array (Option Value)}
    {d_CARRIERS : Addr} {es_CARRIERS : Array DictEntry} {m_CARRIERS : Nat}
    {k_FOR_ALL : Tok}
    {t_CARRIED_OUT_FOR_ALL : Addr} {dd_CARRIED_OUT_FOR_ALL : Option Addr} {its_CARRIED_OUT_FOR_ALL : Array Value} {n_CARRIED_OUT_FOR_ALL : Nat} {ss_CARRIED_OUT_FOR_ALL : Array (Option Value)}
    {t_ANY_DEVICE : Addr} {dd_ANY_DEVICE : Option Addr} {its_ANY_DEVICE : Array Value} {n_ANY_DEVICE : Nat} {ss_ANY_DEVICE : Array (Option Value)}
    {k_COLON : Tok}
    {t_LINE_END : Addr} {dd_LINE_END : Option Addr} {its_LINE_END : Array Value} {n_LINE_END : Nat} {ss_LINE_END : Array (Option Value)}
    {k_NO_DIGIT : Tok}
    {k_MOST_SUMMED : Tok}
    {d_SHAPES : Addr} {es_SHAPES : Array DictEntry} {m_SHAPES : Nat}
    {t_SHAPES_0 : Addr} {dd_SHAPES_0 : Option Addr} {its_SHAPES_0 : Array Value} {n_SHAPES_0 : Nat} {ss_SHAPES_0 : Array (Option Value)}
    {t_SHAPES_1 : Addr} {dd_SHAPES_1 : Option Addr} {its_SHAPES_1 : Array Value} {n_SHAPES_1 : Nat} {ss_SHAPES_1 : Array (Option Value)}
    {t_SHAPES_2 : Addr} {dd_SHAPES_2 : Option Addr} {its_SHAPES_2 : Array Value} {n_SHAPES_2 : Nat} {ss_SHAPES_2 : Array (Option Value)}
    {t_SHAPES_3 : Addr} {dd_SHAPES_3 : Option Addr} {its_SHAPES_3 : Array Value} {n_SHAPES_3 : Nat} {ss_SHAPES_3 : Array (Option Value)}
    {t_SHAPES_4 : Addr} {dd_SHAPES_4 : Option Addr} {its_SHAPES_4 : Array Value} {n_SHAPES_4 : Nat} {ss_SHAPES_4 : Array (Option Value)}
    {t_SHAPES_5 : Addr} {dd_SHAPES_5 : Option Addr} {its_SHAPES_5 : Array Value} {n_SHAPES_5 : Nat} {ss_SHAPES_5 : Array (Option Value)}
    {t_SHAPES_6 : Addr} {dd_SHAPES_6 : Option Addr} {its_SHAPES_6 : Array Value} {n_SHAPES_6 : Nat} {ss_SHAPES_6 : Array (Option Value)}
    {t_SHAPES_7 : Addr} {dd_SHAPES_7 : Option Addr} {its_SHAPES_7 : Array Value} {n_SHAPES_7 : Nat} {ss_SHAPES_7 : Array (Option Value)}
    {t_SHAPES_8 : Addr} {dd_SHAPES_8 : Option Addr} {its_SHAPES_8 : Array Value} {n_SHAPES_8 : Nat} {ss_SHAPES_8 : Array (Option Value)}
    {t_SHAPES_9 : Addr} {dd_SHAPES_9 : Option Addr} {its_SHAPES_9 : Array Value} {n_SHAPES_9 : Nat} {ss_SHAPES_9 : Array (Option Value)}
    {t_SHAPES_10 : Addr} {dd_SHAPES_10 : Option Addr} {its_SHAPES_10 : Array Value} {n_SHAPES_10 : Nat} {ss_SHAPES_10 : Array (Option Value)}
    {t_SHAPES_11 : Addr} {dd_SHAPES_11 : Option Addr} {its_SHAPES_11 : Array Value} {n_SHAPES_11 : Nat} {ss_SHAPES_11 : Array (Option Value)}
    {d_CALLS : Addr} {es_CALLS : Array DictEntry} {m_CALLS : Nat}
    (aC : PySem.W.nsIn K mainGlobals "Device" = some (some (.ref C)))
    (pg : PySem.W.plainGet K C Str.empty = true)
    (hd : PySem.W.hasDictIn K C = true)
    (po : PySem.W.plainOver K C = true)
    (sa : PySem.W.findIn K (.ref C) "__setattr__" = some (some (.builtin "object.__setattr__")))
    (mk : PySem.W.makesIn K C = true)
    (kc : PySem.W.keepIn K (.ref C) = true)
    (n_unit : PySem.W.findIn K (.ref C) "unit" = some none)
    (n_tables : PySem.W.findIn K (.ref C) "tables" = some none)
    (n_tallies : PySem.W.findIn K (.ref C) "tallies" = some none)
    (a___init__ : PySem.W.findIn K (.ref C) "__init__" = some (some (.ref f___init__)))
    (i___init__ : PySem.W.isFn K (.ref f___init__) = true)
    (l___init__ : K.lookup f___init__ = some ⟨oc___init__, od___init__, .func (PySem.W.fnOf "__init__" "Device.__init__" (defArgs s___init__) (defBody s___init__) (defScope s___init__) .none kV___init__ dc___init__ pm___init__ an___init__ cd___init__ ct___init__), sl___init__⟩)
    (c___init__ : PySem.W.codeIn K cd___init__ "Device.__init__" = true)
    (k___init__ : PySem.W.keepIn K (.ref f___init__) = true)
    (a_begin : PySem.W.findIn K (.ref C) "begin" = some (some (.ref f_begin)))
    (i_begin : PySem.W.isFn K (.ref f_begin) = true)
    (l_begin : K.lookup f_begin = some ⟨oc_begin, od_begin, .func (PySem.W.fnOf "begin" "Device.begin" (defArgs s_begin) (defBody s_begin) (defScope s_begin) .none kV_begin dc_begin pm_begin an_begin cd_begin ct_begin), sl_begin⟩)
    (c_begin : PySem.W.codeIn K cd_begin "Device.begin" = true)
    (k_begin : PySem.W.keepIn K (.ref f_begin) = true)
    (a_has_places : PySem.W.findIn K (.ref C) "has_places" = some (some (.ref f_has_places)))
    (i_has_places : PySem.W.isFn K (.ref f_has_places) = true)
    (l_has_places : K.lookup f_has_places = some ⟨oc_has_places, od_has_places, .func (PySem.W.fnOf "has_places" "Device.has_places" (defArgs s_has_places) (defBody s_has_places) (defScope s_has_places) .none kV_has_places dc_has_places pm_has_places an_has_places cd_has_places ct_has_places), sl_has_places⟩)
    (c_has_places : PySem.W.codeIn K cd_has_places "Device.has_places" = true)
    (k_has_places : PySem.W.keepIn K (.ref f_has_places) = true)
    (a_set_value : PySem.W.findIn K (.ref C) "set_value" = some (some (.ref f_set_value)))
    (i_set_value : PySem.W.isFn K (.ref f_set_value) = true)
    (l_set_value : K.lookup f_set_value = some ⟨oc_set_value, od_set_value, .func (PySem.W.fnOf "set_value" "Device.set_value" (defArgs s_set_value) (defBody s_set_value) (defScope s_set_value) .none kV_set_value dc_set_value pm_set_value an_set_value cd_set_value ct_set_value), sl_set_value⟩)
    (c_set_value : PySem.W.codeIn K cd_set_value "Device.set_value" = true)
    (k_set_value : PySem.W.keepIn K (.ref f_set_value) = true)
    (a_get_value : PySem.W.findIn K (.ref C) "get_value" = some (some (.ref f_get_value)))
    (i_get_value : PySem.W.isFn K (.ref f_get_value) = true)
    (l_get_value : K.lookup f_get_value = some ⟨oc_get_value, od_get_value, .func (PySem.W.fnOf "get_value" "Device.get_value" (defArgs s_get_value) (defBody s_get_value) (defScope s_get_value) .none kV_get_value dc_get_value pm_get_value an_get_value cd_get_value ct_get_value), sl_get_value⟩)
    (c_get_value : PySem.W.codeIn K cd_get_value "Device.get_value" = true)
    (k_get_value : PySem.W.keepIn K (.ref f_get_value) = true)
    (a_row_at : PySem.W.findIn K (.ref C) "row_at" = some (some (.ref f_row_at)))
    (i_row_at : PySem.W.isFn K (.ref f_row_at) = true)
    (l_row_at : K.lookup f_row_at = some ⟨oc_row_at, od_row_at, .func (PySem.W.fnOf "row_at" "Device.row_at" (defArgs s_row_at) (defBody s_row_at) (defScope s_row_at) .none kV_row_at dc_row_at pm_row_at an_row_at cd_row_at ct_row_at), sl_row_at⟩)
    (c_row_at : PySem.W.codeIn K cd_row_at "Device.row_at" = true)
    (k_row_at : PySem.W.keepIn K (.ref f_row_at) = true)
    (a_put_row : PySem.W.findIn K (.ref C) "put_row" = some (some (.ref f_put_row)))
    (i_put_row : PySem.W.isFn K (.ref f_put_row) = true)
    (l_put_row : K.lookup f_put_row = some ⟨oc_put_row, od_put_row, .func (PySem.W.fnOf "put_row" "Device.put_row" (defArgs s_put_row) (defBody s_put_row) (defScope s_put_row) .none kV_put_row dc_put_row pm_put_row an_put_row cd_put_row ct_put_row), sl_put_row⟩)
    (c_put_row : PySem.W.codeIn K cd_put_row "Device.put_row" = true)
    (k_put_row : PySem.W.keepIn K (.ref f_put_row) = true)
    (a_tally : PySem.W.findIn K (.ref C) "tally" = some (some (.ref f_tally)))
    (i_tally : PySem.W.isFn K (.ref f_tally) = true)
    (l_tally : K.lookup f_tally = some ⟨oc_tally, od_tally, .func (PySem.W.fnOf "tally" "Device.tally" (defArgs s_tally) (defBody s_tally) (defScope s_tally) .none kV_tally dc_tally pm_tally an_tally cd_tally ct_tally), sl_tally⟩)
    (c_tally : PySem.W.codeIn K cd_tally "Device.tally" = true)
    (k_tally : PySem.W.keepIn K (.ref f_tally) = true)
    (a_clear_tallies : PySem.W.findIn K (.ref C) "clear_tallies" = some (some (.ref f_clear_tallies)))
    (i_clear_tallies : PySem.W.isFn K (.ref f_clear_tallies) = true)
    (l_clear_tallies : K.lookup f_clear_tallies = some ⟨oc_clear_tallies, od_clear_tallies, .func (PySem.W.fnOf "clear_tallies" "Device.clear_tallies" (defArgs s_clear_tallies) (defBody s_clear_tallies) (defScope s_clear_tallies) .none kV_clear_tallies dc_clear_tallies pm_clear_tallies an_clear_tallies cd_clear_tallies ct_clear_tallies), sl_clear_tallies⟩)
    (c_clear_tallies : PySem.W.codeIn K cd_clear_tallies "Device.clear_tallies" = true)
    (k_clear_tallies : PySem.W.keepIn K (.ref f_clear_tallies) = true)
    (a_number_at : PySem.W.nsIn K mainGlobals "number_at" = some (some (.ref f_number_at)))
    (l_number_at : K.lookup f_number_at = some ⟨oc_number_at, od_number_at, .func (PySem.W.fnOf "number_at" "number_at" (defArgs s_number_at) (defBody s_number_at) (defScope s_number_at) .none kV_number_at dc_number_at pm_number_at an_number_at cd_number_at ct_number_at), sl_number_at⟩)
    (c_number_at : PySem.W.codeIn K cd_number_at "number_at" = true)
    (k_number_at : PySem.W.keepIn K (.ref f_number_at) = true)
    (a_bytes_of_numbers : PySem.W.nsIn K mainGlobals "bytes_of_numbers" = some (some (.ref f_bytes_of_numbers)))
    (l_bytes_of_numbers : K.lookup f_bytes_of_numbers = some ⟨oc_bytes_of_numbers, od_bytes_of_numbers, .func (PySem.W.fnOf "bytes_of_numbers" "bytes_of_numbers" (defArgs s_bytes_of_numbers) (defBody s_bytes_of_numbers) (defScope s_bytes_of_numbers) .none kV_bytes_of_numbers dc_bytes_of_numbers pm_bytes_of_numbers an_bytes_of_numbers cd_bytes_of_numbers ct_bytes_of_numbers), sl_bytes_of_numbers⟩)
    (c_bytes_of_numbers : PySem.W.codeIn K cd_bytes_of_numbers "bytes_of_numbers" = true)
    (k_bytes_of_numbers : PySem.W.keepIn K (.ref f_bytes_of_numbers) = true)
    (a_numbers_of_bytes : PySem.W.nsIn K mainGlobals "numbers_of_bytes" = some (some (.ref f_numbers_of_bytes)))
    (l_numbers_of_bytes : K.lookup f_numbers_of_bytes = some ⟨oc_numbers_of_bytes, od_numbers_of_bytes, .func (PySem.W.fnOf "numbers_of_bytes" "numbers_of_bytes" (defArgs s_numbers_of_bytes) (defBody s_numbers_of_bytes) (defScope s_numbers_of_bytes) .none kV_numbers_of_bytes dc_numbers_of_bytes pm_numbers_of_bytes an_numbers_of_bytes cd_numbers_of_bytes ct_numbers_of_bytes), sl_numbers_of_bytes⟩)
    (c_numbers_of_bytes : PySem.W.codeIn K cd_numbers_of_bytes "numbers_of_bytes" = true)
    (k_numbers_of_bytes : PySem.W.keepIn K (.ref f_numbers_of_bytes) = true)
    (a_counted : PySem.W.nsIn K mainGlobals "counted" = some (some (.ref f_counted)))
    (l_counted : K.lookup f_counted = some ⟨oc_counted, od_counted, .func (PySem.W.fnOf "counted" "counted" (defArgs s_counted) (defBody s_counted) (defScope s_counted) .none kV_counted dc_counted pm_counted an_counted cd_counted ct_counted), sl_counted⟩)
    (c_counted : PySem.W.codeIn K cd_counted "counted" = true)
    (k_counted : PySem.W.keepIn K (.ref f_counted) = true)
    (a_bytes_for_bits : PySem.W.nsIn K mainGlobals "bytes_for_bits" = some (some (.ref f_bytes_for_bits)))
    (l_bytes_for_bits : K.lookup f_bytes_for_bits = some ⟨oc_bytes_for_bits, od_bytes_for_bits, .func (PySem.W.fnOf "bytes_for_bits" "bytes_for_bits" (defArgs s_bytes_for_bits) (defBody s_bytes_for_bits) (defScope s_bytes_for_bits) .none kV_bytes_for_bits dc_bytes_for_bits pm_bytes_for_bits an_bytes_for_bits cd_bytes_for_bits ct_bytes_for_bits), sl_bytes_for_bits⟩)
    (c_bytes_for_bits : PySem.W.codeIn K cd_bytes_for_bits "bytes_for_bits" = true)
    (k_bytes_for_bits : PySem.W.keepIn K (.ref f_bytes_for_bits) = true)
    (a_bytes_of_bits : PySem.W.nsIn K mainGlobals "bytes_of_bits" = some (some (.ref f_bytes_of_bits)))
    (l_bytes_of_bits : K.lookup f_bytes_of_bits = some ⟨oc_bytes_of_bits, od_bytes_of_bits, .func (PySem.W.fnOf "bytes_of_bits" "bytes_of_bits" (defArgs s_bytes_of_bits) (defBody s_bytes_of_bits) (defScope s_bytes_of_bits) .none kV_bytes_of_bits dc_bytes_of_bits pm_bytes_of_bits an_bytes_of_bits cd_bytes_of_bits ct_bytes_of_bits), sl_bytes_of_bits⟩)
    (c_bytes_of_bits : PySem.W.codeIn K cd_bytes_of_bits "bytes_of_bits" = true)
    (k_bytes_of_bits : PySem.W.keepIn K (.ref f_bytes_of_bits) = true)
    (a_bits_of_bytes : PySem.W.nsIn K mainGlobals "bits_of_bytes" = some (some (.ref f_bits_of_bytes)))
    (l_bits_of_bytes : K.lookup f_bits_of_bytes = some ⟨oc_bits_of_bytes, od_bits_of_bytes, .func (PySem.W.fnOf "bits_of_bytes" "bits_of_bytes" (defArgs s_bits_of_bytes) (defBody s_bits_of_bytes) (defScope s_bits_of_bytes) .none kV_bits_of_bytes dc_bits_of_bytes pm_bits_of_bytes an_bits_of_bytes cd_bits_of_bytes ct_bits_of_bytes), sl_bits_of_bytes⟩)
    (c_bits_of_bytes : PySem.W.codeIn K cd_bits_of_bytes "bits_of_bytes" = true)
    (k_bits_of_bytes : PySem.W.keepIn K (.ref f_bits_of_bytes) = true)
    (a_is_read_of_bits : PySem.W.nsIn K mainGlobals "is_read_of_bits" = some (some (.ref f_is_read_of_bits)))
    (l_is_read_of_bits : K.lookup f_is_read_of_bits = some ⟨oc_is_read_of_bits, od_is_read_of_bits, .func (PySem.W.fnOf "is_read_of_bits" "is_read_of_bits" (defArgs s_is_read_of_bits) (defBody s_is_read_of_bits) (defScope s_is_read_of_bits) .none kV_is_read_of_bits dc_is_read_of_bits pm_is_read_of_bits an_is_read_of_bits cd_is_read_of_bits ct_is_read_of_bits), sl_is_read_of_bits⟩)
    (c_is_read_of_bits : PySem.W.codeIn K cd_is_read_of_bits "is_read_of_bits" = true)
    (k_is_read_of_bits : PySem.W.keepIn K (.ref f_is_read_of_bits) = true)
    (a_is_read_of_numbers : PySem.W.nsIn K mainGlobals "is_read_of_numbers" = some (some (.ref f_is_read_of_numbers)))
    (l_is_read_of_numbers : K.lookup f_is_read_of_numbers = some ⟨oc_is_read_of_numbers, od_is_read_of_numbers, .func (PySem.W.fnOf "is_read_of_numbers" "is_read_of_numbers" (defArgs s_is_read_of_numbers) (defBody s_is_read_of_numbers) (defScope s_is_read_of_numbers) .none kV_is_read_of_numbers dc_is_read_of_numbers pm_is_read_of_numbers an_is_read_of_numbers cd_is_read_of_numbers ct_is_read_of_numbers), sl_is_read_of_numbers⟩)
    (c_is_read_of_numbers : PySem.W.codeIn K cd_is_read_of_numbers "is_read_of_numbers" = true)
    (k_is_read_of_numbers : PySem.W.keepIn K (.ref f_is_read_of_numbers) = true)
    (a_is_write_of_coil : PySem.W.nsIn K mainGlobals "is_write_of_coil" = some (some (.ref f_is_write_of_coil)))
    (l_is_write_of_coil : K.lookup f_is_write_of_coil = some ⟨oc_is_write_of_coil, od_is_write_of_coil, .func (PySem.W.fnOf "is_write_of_coil" "is_write_of_coil" (defArgs s_is_write_of_coil) (defBody s_is_write_of_coil) (defScope s_is_write_of_coil) .none kV_is_write_of_coil dc_is_write_of_coil pm_is_write_of_coil an_is_write_of_coil cd_is_write_of_coil ct_is_write_of_coil), sl_is_write_of_coil⟩)
    (c_is_write_of_coil : PySem.W.codeIn K cd_is_write_of_coil "is_write_of_coil" = true)
    (k_is_write_of_coil : PySem.W.keepIn K (.ref f_is_write_of_coil) = true)
    (a_is_write_of_kept : PySem.W.nsIn K mainGlobals "is_write_of_kept" = some (some (.ref f_is_write_of_kept)))
    (l_is_write_of_kept : K.lookup f_is_write_of_kept = some ⟨oc_is_write_of_kept, od_is_write_of_kept, .func (PySem.W.fnOf "is_write_of_kept" "is_write_of_kept" (defArgs s_is_write_of_kept) (defBody s_is_write_of_kept) (defScope s_is_write_of_kept) .none kV_is_write_of_kept dc_is_write_of_kept pm_is_write_of_kept an_is_write_of_kept cd_is_write_of_kept ct_is_write_of_kept), sl_is_write_of_kept⟩)
    (c_is_write_of_kept : PySem.W.codeIn K cd_is_write_of_kept "is_write_of_kept" = true)
    (k_is_write_of_kept : PySem.W.keepIn K (.ref f_is_write_of_kept) = true)
    (a_is_mask_of_kept : PySem.W.nsIn K mainGlobals "is_mask_of_kept" = some (some (.ref f_is_mask_of_kept)))
    (l_is_mask_of_kept : K.lookup f_is_mask_of_kept = some ⟨oc_is_mask_of_kept, od_is_mask_of_kept, .func (PySem.W.fnOf "is_mask_of_kept" "is_mask_of_kept" (defArgs s_is_mask_of_kept) (defBody s_is_mask_of_kept) (defScope s_is_mask_of_kept) .none kV_is_mask_of_kept dc_is_mask_of_kept pm_is_mask_of_kept an_is_mask_of_kept cd_is_mask_of_kept ct_is_mask_of_kept), sl_is_mask_of_kept⟩)
    (c_is_mask_of_kept : PySem.W.codeIn K cd_is_mask_of_kept "is_mask_of_kept" = true)
    (k_is_mask_of_kept : PySem.W.keepIn K (.ref f_is_mask_of_kept) = true)
    (a_is_alone : PySem.W.nsIn K mainGlobals "is_alone" = some (some (.ref f_is_alone)))
    (l_is_alone : K.lookup f_is_alone = some ⟨oc_is_alone, od_is_alone, .func (PySem.W.fnOf "is_alone" "is_alone" (defArgs s_is_alone) (defBody s_is_alone) (defScope s_is_alone) .none kV_is_alone dc_is_alone pm_is_alone an_is_alone cd_is_alone ct_is_alone), sl_is_alone⟩)
    (c_is_alone : PySem.W.codeIn K cd_is_alone "is_alone" = true)
    (k_is_alone : PySem.W.keepIn K (.ref f_is_alone) = true)
    (a_ends_with_row : PySem.W.nsIn K mainGlobals "ends_with_row" = some (some (.ref f_ends_with_row)))
    (l_ends_with_row : K.lookup f_ends_with_row = some ⟨oc_ends_with_row, od_ends_with_row, .func (PySem.W.fnOf "ends_with_row" "ends_with_row" (defArgs s_ends_with_row) (defBody s_ends_with_row) (defScope s_ends_with_row) .none kV_ends_with_row dc_ends_with_row pm_ends_with_row an_ends_with_row cd_ends_with_row ct_ends_with_row), sl_ends_with_row⟩)
    (c_ends_with_row : PySem.W.codeIn K cd_ends_with_row "ends_with_row" = true)
    (k_ends_with_row : PySem.W.keepIn K (.ref f_ends_with_row) = true)
    (a_is_write_of_coils : PySem.W.nsIn K mainGlobals "is_write_of_coils" = some (some (.ref f_is_write_of_coils)))
    (l_is_write_of_coils : K.lookup f_is_write_of_coils = some ⟨oc_is_write_of_coils, od_is_write_of_coils, .func (PySem.W.fnOf "is_write_of_coils" "is_write_of_coils" (defArgs s_is_write_of_coils) (defBody s_is_write_of_coils) (defScope s_is_write_of_coils) .none kV_is_write_of_coils dc_is_write_of_coils pm_is_write_of_coils an_is_write_of_coils cd_is_write_of_coils ct_is_write_of_coils), sl_is_write_of_coils⟩)
    (c_is_write_of_coils : PySem.W.codeIn K cd_is_write_of_coils "is_write_of_coils" = true)
    (k_is_write_of_coils : PySem.W.keepIn K (.ref f_is_write_of_coils) = true)
    (a_is_write_of_kept_row : PySem.W.nsIn K mainGlobals "is_write_of_kept_row" = some (some (.ref f_is_write_of_kept_row)))
    (l_is_write_of_kept_row : K.lookup f_is_write_of_kept_row = some ⟨oc_is_write_of_kept_row, od_is_write_of_kept_row, .func (PySem.W.fnOf "is_write_of_kept_row" "is_write_of_kept_row" (defArgs s_is_write_of_kept_row) (defBody s_is_write_of_kept_row) (defScope s_is_write_of_kept_row) .none kV_is_write_of_kept_row dc_is_write_of_kept_row pm_is_write_of_kept_row an_is_write_of_kept_row cd_is_write_of_kept_row ct_is_write_of_kept_row), sl_is_write_of_kept_row⟩)
    (c_is_write_of_kept_row : PySem.W.codeIn K cd_is_write_of_kept_row "is_write_of_kept_row" = true)
    (k_is_write_of_kept_row : PySem.W.keepIn K (.ref f_is_write_of_kept_row) = true)
    (a_is_write_and_read : PySem.W.nsIn K mainGlobals "is_write_and_read" = some (some (.ref f_is_write_and_read)))
    (l_is_write_and_read : K.lookup f_is_write_and_read = some ⟨oc_is_write_and_read, od_is_write_and_read, .func (PySem.W.fnOf "is_write_and_read" "is_write_and_read" (defArgs s_is_write_and_read) (defBody s_is_write_and_read) (defScope s_is_write_and_read) .none kV_is_write_and_read dc_is_write_and_read pm_is_write_and_read an_is_write_and_read cd_is_write_and_read ct_is_write_and_read), sl_is_write_and_read⟩)
    (c_is_write_and_read : PySem.W.codeIn K cd_is_write_and_read "is_write_and_read" = true)
    (k_is_write_and_read : PySem.W.keepIn K (.ref f_is_write_and_read) = true)
    (a_is_known_check : PySem.W.nsIn K mainGlobals "is_known_check" = some (some (.ref f_is_known_check)))
    (l_is_known_check : K.lookup f_is_known_check = some ⟨oc_is_known_check, od_is_known_check, .func (PySem.W.fnOf "is_known_check" "is_known_check" (defArgs s_is_known_check) (defBody s_is_known_check) (defScope s_is_known_check) .none kV_is_known_check dc_is_known_check pm_is_known_check an_is_known_check cd_is_known_check ct_is_known_check), sl_is_known_check⟩)
    (c_is_known_check : PySem.W.codeIn K cd_is_known_check "is_known_check" = true)
    (k_is_known_check : PySem.W.keepIn K (.ref f_is_known_check) = true)
    (a_is_check : PySem.W.nsIn K mainGlobals "is_check" = some (some (.ref f_is_check)))
    (l_is_check : K.lookup f_is_check = some ⟨oc_is_check, od_is_check, .func (PySem.W.fnOf "is_check" "is_check" (defArgs s_is_check) (defBody s_is_check) (defScope s_is_check) .none kV_is_check dc_is_check pm_is_check an_is_check cd_is_check ct_is_check), sl_is_check⟩)
    (c_is_check : PySem.W.codeIn K cd_is_check "is_check" = true)
    (k_is_check : PySem.W.keepIn K (.ref f_is_check) = true)
    (a_is_known : PySem.W.nsIn K mainGlobals "is_known" = some (some (.ref f_is_known)))
    (l_is_known : K.lookup f_is_known = some ⟨oc_is_known, od_is_known, .func (PySem.W.fnOf "is_known" "is_known" (defArgs s_is_known) (defBody s_is_known) (defScope s_is_known) .none kV_is_known dc_is_known pm_is_known an_is_known cd_is_known ct_is_known), sl_is_known⟩)
    (c_is_known : PySem.W.codeIn K cd_is_known "is_known" = true)
    (k_is_known : PySem.W.keepIn K (.ref f_is_known) = true)
    (a_has_right_form : PySem.W.nsIn K mainGlobals "has_right_form" = some (some (.ref f_has_right_form)))
    (l_has_right_form : K.lookup f_has_right_form = some ⟨oc_has_right_form, od_has_right_form, .func (PySem.W.fnOf "has_right_form" "has_right_form" (defArgs s_has_right_form) (defBody s_has_right_form) (defScope s_has_right_form) .none kV_has_right_form dc_has_right_form pm_has_right_form an_has_right_form cd_has_right_form ct_has_right_form), sl_has_right_form⟩)
    (c_has_right_form : PySem.W.codeIn K cd_has_right_form "has_right_form" = true)
    (k_has_right_form : PySem.W.keepIn K (.ref f_has_right_form) = true)
    (a_table_read_by : PySem.W.nsIn K mainGlobals "table_read_by" = some (some (.ref f_table_read_by)))
    (l_table_read_by : K.lookup f_table_read_by = some ⟨oc_table_read_by, od_table_read_by, .func (PySem.W.fnOf "table_read_by" "table_read_by" (defArgs s_table_read_by) (defBody s_table_read_by) (defScope s_table_read_by) .none kV_table_read_by dc_table_read_by pm_table_read_by an_table_read_by cd_table_read_by ct_table_read_by), sl_table_read_by⟩)
    (c_table_read_by : PySem.W.codeIn K cd_table_read_by "table_read_by" = true)
    (k_table_read_by : PySem.W.keepIn K (.ref f_table_read_by) = true)
    (a_spans_of : PySem.W.nsIn K mainGlobals "spans_of" = some (some (.ref f_spans_of)))
    (l_spans_of : K.lookup f_spans_of = some ⟨oc_spans_of, od_spans_of, .func (PySem.W.fnOf "spans_of" "spans_of" (defArgs s_spans_of) (defBody s_spans_of) (defScope s_spans_of) .none kV_spans_of dc_spans_of pm_spans_of an_spans_of cd_spans_of ct_spans_of), sl_spans_of⟩)
    (c_spans_of : PySem.W.codeIn K cd_spans_of "spans_of" = true)
    (k_spans_of : PySem.W.keepIn K (.ref f_spans_of) = true)
    (a_reason_against : PySem.W.nsIn K mainGlobals "reason_against" = some (some (.ref f_reason_against)))
    (l_reason_against : K.lookup f_reason_against = some ⟨oc_reason_against, od_reason_against, .func (PySem.W.fnOf "reason_against" "reason_against" (defArgs s_reason_against) (defBody s_reason_against) (defScope s_reason_against) .none kV_reason_against dc_reason_against pm_reason_against an_reason_against cd_reason_against ct_reason_against), sl_reason_against⟩)
    (c_reason_against : PySem.W.codeIn K cd_reason_against "reason_against" = true)
    (k_reason_against : PySem.W.keepIn K (.ref f_reason_against) = true)
    (a_count_bounds : PySem.W.nsIn K mainGlobals "count_bounds" = some (some (.ref f_count_bounds)))
    (l_count_bounds : K.lookup f_count_bounds = some ⟨oc_count_bounds, od_count_bounds, .func (PySem.W.fnOf "count_bounds" "count_bounds" (defArgs s_count_bounds) (defBody s_count_bounds) (defScope s_count_bounds) .none kV_count_bounds dc_count_bounds pm_count_bounds an_count_bounds cd_count_bounds ct_count_bounds), sl_count_bounds⟩)
    (c_count_bounds : PySem.W.codeIn K cd_count_bounds "count_bounds" = true)
    (k_count_bounds : PySem.W.keepIn K (.ref f_count_bounds) = true)
    (a_places_reached : PySem.W.nsIn K mainGlobals "places_reached" = some (some (.ref f_places_reached)))
    (l_places_reached : K.lookup f_places_reached = some ⟨oc_places_reached, od_places_reached, .func (PySem.W.fnOf "places_reached" "places_reached" (defArgs s_places_reached) (defBody s_places_reached) (defScope s_places_reached) .none kV_places_reached dc_places_reached pm_places_reached an_places_reached cd_places_reached ct_places_reached), sl_places_reached⟩)
    (c_places_reached : PySem.W.codeIn K cd_places_reached "places_reached" = true)
    (k_places_reached : PySem.W.keepIn K (.ref f_places_reached) = true)
    (a_may_be_asked : PySem.W.nsIn K mainGlobals "may_be_asked" = some (some (.ref f_may_be_asked)))
    (l_may_be_asked : K.lookup f_may_be_asked = some ⟨oc_may_be_asked, od_may_be_asked, .func (PySem.W.fnOf "may_be_asked" "may_be_asked" (defArgs s_may_be_asked) (defBody s_may_be_asked) (defScope s_may_be_asked) .none kV_may_be_asked dc_may_be_asked pm_may_be_asked an_may_be_asked cd_may_be_asked ct_may_be_asked), sl_may_be_asked⟩)
    (c_may_be_asked : PySem.W.codeIn K cd_may_be_asked "may_be_asked" = true)
    (k_may_be_asked : PySem.W.keepIn K (.ref f_may_be_asked) = true)
    (a_numbers_behind_place : PySem.W.nsIn K mainGlobals "numbers_behind_place" = some (some (.ref f_numbers_behind_place)))
    (l_numbers_behind_place : K.lookup f_numbers_behind_place = some ⟨oc_numbers_behind_place, od_numbers_behind_place, .func (PySem.W.fnOf "numbers_behind_place" "numbers_behind_place" (defArgs s_numbers_behind_place) (defBody s_numbers_behind_place) (defScope s_numbers_behind_place) .none kV_numbers_behind_place dc_numbers_behind_place pm_numbers_behind_place an_numbers_behind_place cd_numbers_behind_place ct_numbers_behind_place), sl_numbers_behind_place⟩)
    (c_numbers_behind_place : PySem.W.codeIn K cd_numbers_behind_place "numbers_behind_place" = true)
    (k_numbers_behind_place : PySem.W.keepIn K (.ref f_numbers_behind_place) = true)
    (a_row_behind_numbers : PySem.W.nsIn K mainGlobals "row_behind_numbers" = some (some (.ref f_row_behind_numbers)))
    (l_row_behind_numbers : K.lookup f_row_behind_numbers = some ⟨oc_row_behind_numbers, od_row_behind_numbers, .func (PySem.W.fnOf "row_behind_numbers" "row_behind_numbers" (defArgs s_row_behind_numbers) (defBody s_row_behind_numbers) (defScope s_row_behind_numbers) .none kV_row_behind_numbers dc_row_behind_numbers pm_row_behind_numbers an_row_behind_numbers cd_row_behind_numbers ct_row_behind_numbers), sl_row_behind_numbers⟩)
    (c_row_behind_numbers : PySem.W.codeIn K cd_row_behind_numbers "row_behind_numbers" = true)
    (k_row_behind_numbers : PySem.W.keepIn K (.ref f_row_behind_numbers) = true)
    (a_ask : PySem.W.nsIn K mainGlobals "ask" = some (some (.ref f_ask)))
    (l_ask : K.lookup f_ask = some ⟨oc_ask, od_ask, .func (PySem.W.fnOf "ask" "ask" (defArgs s_ask) (defBody s_ask) (defScope s_ask) .none kV_ask dc_ask pm_ask an_ask cd_ask ct_ask), sl_ask⟩)
    (c_ask : PySem.W.codeIn K cd_ask "ask" = true)
    (k_ask : PySem.W.keepIn K (.ref f_ask) = true)
    (a_tells_refusal : PySem.W.nsIn K mainGlobals "tells_refusal" = some (some (.ref f_tells_refusal)))
    (l_tells_refusal : K.lookup f_tells_refusal = some ⟨oc_tells_refusal, od_tells_refusal, .func (PySem.W.fnOf "tells_refusal" "tells_refusal" (defArgs s_tells_refusal) (defBody s_tells_refusal) (defScope s_tells_refusal) .none kV_tells_refusal dc_tells_refusal pm_tells_refusal an_tells_refusal cd_tells_refusal ct_tells_refusal), sl_tells_refusal⟩)
    (c_tells_refusal : PySem.W.codeIn K cd_tells_refusal "tells_refusal" = true)
    (k_tells_refusal : PySem.W.keepIn K (.ref f_tells_refusal) = true)
    (a_read_values : PySem.W.nsIn K mainGlobals "read_values" = some (some (.ref f_read_values)))
    (l_read_values : K.lookup f_read_values = some ⟨oc_read_values, od_read_values, .func (PySem.W.fnOf "read_values" "read_values" (defArgs s_read_values) (defBody s_read_values) (defScope s_read_values) .none kV_read_values dc_read_values pm_read_values an_read_values cd_read_values ct_read_values), sl_read_values⟩)
    (c_read_values : PySem.W.codeIn K cd_read_values "read_values" = true)
    (k_read_values : PySem.W.keepIn K (.ref f_read_values) = true)
    (a_is_confirmed : PySem.W.nsIn K mainGlobals "is_confirmed" = some (some (.ref f_is_confirmed)))
    (l_is_confirmed : K.lookup f_is_confirmed = some ⟨oc_is_confirmed, od_is_confirmed, .func (PySem.W.fnOf "is_confirmed" "is_confirmed" (defArgs s_is_confirmed) (defBody s_is_confirmed) (defScope s_is_confirmed) .none kV_is_confirmed dc_is_confirmed pm_is_confirmed an_is_confirmed cd_is_confirmed ct_is_confirmed), sl_is_confirmed⟩)
    (c_is_confirmed : PySem.W.codeIn K cd_is_confirmed "is_confirmed" = true)
    (k_is_confirmed : PySem.W.keepIn K (.ref f_is_confirmed) = true)
    (a_read : PySem.W.nsIn K mainGlobals "read" = some (some (.ref f_read)))
    (l_read : K.lookup f_read = some ⟨oc_read, od_read, .func (PySem.W.fnOf "read" "read" (defArgs s_read) (defBody s_read) (defScope s_read) .none kV_read dc_read pm_read an_read cd_read ct_read), sl_read⟩)
    (c_read : PySem.W.codeIn K cd_read "read" = true)
    (k_read : PySem.W.keepIn K (.ref f_read) = true)
    (a_read_bits : PySem.W.nsIn K mainGlobals "read_bits" = some (some (.ref f_read_bits)))
    (l_read_bits : K.lookup f_read_bits = some ⟨oc_read_bits, od_read_bits, .func (PySem.W.fnOf "read_bits" "read_bits" (defArgs s_read_bits) (defBody s_read_bits) (defScope s_read_bits) .none kV_read_bits dc_read_bits pm_read_bits an_read_bits cd_read_bits ct_read_bits), sl_read_bits⟩)
    (c_read_bits : PySem.W.codeIn K cd_read_bits "read_bits" = true)
    (k_read_bits : PySem.W.keepIn K (.ref f_read_bits) = true)
    (a_answer_with_numbers : PySem.W.nsIn K mainGlobals "answer_with_numbers" = some (some (.ref f_answer_with_numbers)))
    (l_answer_with_numbers : K.lookup f_answer_with_numbers = some ⟨oc_answer_with_numbers, od_answer_with_numbers, .func (PySem.W.fnOf "answer_with_numbers" "answer_with_numbers" (defArgs s_answer_with_numbers) (defBody s_answer_with_numbers) (defScope s_answer_with_numbers) .none kV_answer_with_numbers dc_answer_with_numbers pm_answer_with_numbers an_answer_with_numbers cd_answer_with_numbers ct_answer_with_numbers), sl_answer_with_numbers⟩)
    (c_answer_with_numbers : PySem.W.codeIn K cd_answer_with_numbers "answer_with_numbers" = true)
    (k_answer_with_numbers : PySem.W.keepIn K (.ref f_answer_with_numbers) = true)
    (a_read_numbers : PySem.W.nsIn K mainGlobals "read_numbers" = some (some (.ref f_read_numbers)))
    (l_read_numbers : K.lookup f_read_numbers = some ⟨oc_read_numbers, od_read_numbers, .func (PySem.W.fnOf "read_numbers" "read_numbers" (defArgs s_read_numbers) (defBody s_read_numbers) (defScope s_read_numbers) .none kV_read_numbers dc_read_numbers pm_read_numbers an_read_numbers cd_read_numbers ct_read_numbers), sl_read_numbers⟩)
    (c_read_numbers : PySem.W.codeIn K cd_read_numbers "read_numbers" = true)
    (k_read_numbers : PySem.W.keepIn K (.ref f_read_numbers) = true)
    (a_write_coil : PySem.W.nsIn K mainGlobals "write_coil" = some (some (.ref f_write_coil)))
    (l_write_coil : K.lookup f_write_coil = some ⟨oc_write_coil, od_write_coil, .func (PySem.W.fnOf "write_coil" "write_coil" (defArgs s_write_coil) (defBody s_write_coil) (defScope s_write_coil) .none kV_write_coil dc_write_coil pm_write_coil an_write_coil cd_write_coil ct_write_coil), sl_write_coil⟩)
    (c_write_coil : PySem.W.codeIn K cd_write_coil "write_coil" = true)
    (k_write_coil : PySem.W.keepIn K (.ref f_write_coil) = true)
    (a_write_kept : PySem.W.nsIn K mainGlobals "write_kept" = some (some (.ref f_write_kept)))
    (l_write_kept : K.lookup f_write_kept = some ⟨oc_write_kept, od_write_kept, .func (PySem.W.fnOf "write_kept" "write_kept" (defArgs s_write_kept) (defBody s_write_kept) (defScope s_write_kept) .none kV_write_kept dc_write_kept pm_write_kept an_write_kept cd_write_kept ct_write_kept), sl_write_kept⟩)
    (c_write_kept : PySem.W.codeIn K cd_write_kept "write_kept" = true)
    (k_write_kept : PySem.W.keepIn K (.ref f_write_kept) = true)
    (a_mask_kept : PySem.W.nsIn K mainGlobals "mask_kept" = some (some (.ref f_mask_kept)))
    (l_mask_kept : K.lookup f_mask_kept = some ⟨oc_mask_kept, od_mask_kept, .func (PySem.W.fnOf "mask_kept" "mask_kept" (defArgs s_mask_kept) (defBody s_mask_kept) (defScope s_mask_kept) .none kV_mask_kept dc_mask_kept pm_mask_kept an_mask_kept cd_mask_kept ct_mask_kept), sl_mask_kept⟩)
    (c_mask_kept : PySem.W.codeIn K cd_mask_kept "mask_kept" = true)
    (k_mask_kept : PySem.W.keepIn K (.ref f_mask_kept) = true)
    (a_write_coils : PySem.W.nsIn K mainGlobals "write_coils" = some (some (.ref f_write_coils)))
    (l_write_coils : K.lookup f_write_coils = some ⟨oc_write_coils, od_write_coils, .func (PySem.W.fnOf "write_coils" "write_coils" (defArgs s_write_coils) (defBody s_write_coils) (defScope s_write_coils) .none kV_write_coils dc_write_coils pm_write_coils an_write_coils cd_write_coils ct_write_coils), sl_write_coils⟩)
    (c_write_coils : PySem.W.codeIn K cd_write_coils "write_coils" = true)
    (k_write_coils : PySem.W.keepIn K (.ref f_write_coils) = true)
    (a_write_kept_row : PySem.W.nsIn K mainGlobals "write_kept_row" = some (some (.ref f_write_kept_row)))
    (l_write_kept_row : K.lookup f_write_kept_row = some ⟨oc_write_kept_row, od_write_kept_row, .func (PySem.W.fnOf "write_kept_row" "write_kept_row" (defArgs s_write_kept_row) (defBody s_write_kept_row) (defScope s_write_kept_row) .none kV_write_kept_row dc_write_kept_row pm_write_kept_row an_write_kept_row cd_write_kept_row ct_write_kept_row), sl_write_kept_row⟩)
    (c_write_kept_row : PySem.W.codeIn K cd_write_kept_row "write_kept_row" = true)
    (k_write_kept_row : PySem.W.keepIn K (.ref f_write_kept_row) = true)
    (a_write_and_read : PySem.W.nsIn K mainGlobals "write_and_read" = some (some (.ref f_write_and_read)))
    (l_write_and_read : K.lookup f_write_and_read = some ⟨oc_write_and_read, od_write_and_read, .func (PySem.W.fnOf "write_and_read" "write_and_read" (defArgs s_write_and_read) (defBody s_write_and_read) (defScope s_write_and_read) .none kV_write_and_read dc_write_and_read pm_write_and_read an_write_and_read cd_write_and_read ct_write_and_read), sl_write_and_read⟩)
    (c_write_and_read : PySem.W.codeIn K cd_write_and_read "write_and_read" = true)
    (k_write_and_read : PySem.W.keepIn K (.ref f_write_and_read) = true)
    (a_read_status : PySem.W.nsIn K mainGlobals "read_status" = some (some (.ref f_read_status)))
    (l_read_status : K.lookup f_read_status = some ⟨oc_read_status, od_read_status, .func (PySem.W.fnOf "read_status" "read_status" (defArgs s_read_status) (defBody s_read_status) (defScope s_read_status) .none kV_read_status dc_read_status pm_read_status an_read_status cd_read_status ct_read_status), sl_read_status⟩)
    (c_read_status : PySem.W.codeIn K cd_read_status "read_status" = true)
    (k_read_status : PySem.W.keepIn K (.ref f_read_status) = true)
    (a_read_went_well : PySem.W.nsIn K mainGlobals "read_went_well" = some (some (.ref f_read_went_well)))
    (l_read_went_well : K.lookup f_read_went_well = some ⟨oc_read_went_well, od_read_went_well, .func (PySem.W.fnOf "read_went_well" "read_went_well" (defArgs s_read_went_well) (defBody s_read_went_well) (defScope s_read_went_well) .none kV_read_went_well dc_read_went_well pm_read_went_well an_read_went_well cd_read_went_well ct_read_went_well), sl_read_went_well⟩)
    (c_read_went_well : PySem.W.codeIn K cd_read_went_well "read_went_well" = true)
    (k_read_went_well : PySem.W.keepIn K (.ref f_read_went_well) = true)
    (a_check_device : PySem.W.nsIn K mainGlobals "check_device" = some (some (.ref f_check_device)))
    (l_check_device : K.lookup f_check_device = some ⟨oc_check_device, od_check_device, .func (PySem.W.fnOf "check_device" "check_device" (defArgs s_check_device) (defBody s_check_device) (defScope s_check_device) .none kV_check_device dc_check_device pm_check_device an_check_device cd_check_device ct_check_device), sl_check_device⟩)
    (c_check_device : PySem.W.codeIn K cd_check_device "check_device" = true)
    (k_check_device : PySem.W.keepIn K (.ref f_check_device) = true)
    (a_carry_out : PySem.W.nsIn K mainGlobals "carry_out" = some (some (.ref f_carry_out)))
    (l_carry_out : K.lookup f_carry_out = some ⟨oc_carry_out, od_carry_out, .func (PySem.W.fnOf "carry_out" "carry_out" (defArgs s_carry_out) (defBody s_carry_out) (defScope s_carry_out) .none kV_carry_out dc_carry_out pm_carry_out an_carry_out cd_carry_out ct_carry_out), sl_carry_out⟩)
    (c_carry_out : PySem.W.codeIn K cd_carry_out "carry_out" = true)
    (k_carry_out : PySem.W.keepIn K (.ref f_carry_out) = true)
    (a_crc : PySem.W.nsIn K mainGlobals "crc" = some (some (.ref f_crc)))
    (l_crc : K.lookup f_crc = some ⟨oc_crc, od_crc, .func (PySem.W.fnOf "crc" "crc" (defArgs s_crc) (defBody s_crc) (defScope s_crc) .none kV_crc dc_crc pm_crc an_crc cd_crc ct_crc), sl_crc⟩)
    (c_crc : PySem.W.codeIn K cd_crc "crc" = true)
    (k_crc : PySem.W.keepIn K (.ref f_crc) = true)
    (a_lrc : PySem.W.nsIn K mainGlobals "lrc" = some (some (.ref f_lrc)))
    (l_lrc : K.lookup f_lrc = some ⟨oc_lrc, od_lrc, .func (PySem.W.fnOf "lrc" "lrc" (defArgs s_lrc) (defBody s_lrc) (defScope s_lrc) .none kV_lrc dc_lrc pm_lrc an_lrc cd_lrc ct_lrc), sl_lrc⟩)
    (c_lrc : PySem.W.codeIn K cd_lrc "lrc" = true)
    (k_lrc : PySem.W.keepIn K (.ref f_lrc) = true)
    (a_take_request : PySem.W.nsIn K mainGlobals "take_request" = some (some (.ref f_take_request)))
    (l_take_request : K.lookup f_take_request = some ⟨oc_take_request, od_take_request, .func (PySem.W.fnOf "take_request" "take_request" (defArgs s_take_request) (defBody s_take_request) (defScope s_take_request) .none kV_take_request dc_take_request pm_take_request an_take_request cd_take_request ct_take_request), sl_take_request⟩)
    (c_take_request : PySem.W.codeIn K cd_take_request "take_request" = true)
    (k_take_request : PySem.W.keepIn K (.ref f_take_request) = true)
    (a_crc_bytes : PySem.W.nsIn K mainGlobals "crc_bytes" = some (some (.ref f_crc_bytes)))
    (l_crc_bytes : K.lookup f_crc_bytes = some ⟨oc_crc_bytes, od_crc_bytes, .func (PySem.W.fnOf "crc_bytes" "crc_bytes" (defArgs s_crc_bytes) (defBody s_crc_bytes) (defScope s_crc_bytes) .none kV_crc_bytes dc_crc_bytes pm_crc_bytes an_crc_bytes cd_crc_bytes ct_crc_bytes), sl_crc_bytes⟩)
    (c_crc_bytes : PySem.W.codeIn K cd_crc_bytes "crc_bytes" = true)
    (k_crc_bytes : PySem.W.keepIn K (.ref f_crc_bytes) = true)
    (a_rtu_frame : PySem.W.nsIn K mainGlobals "rtu_frame" = some (some (.ref f_rtu_frame)))
    (l_rtu_frame : K.lookup f_rtu_frame = some ⟨oc_rtu_frame, od_rtu_frame, .func (PySem.W.fnOf "rtu_frame" "rtu_frame" (defArgs s_rtu_frame) (defBody s_rtu_frame) (defScope s_rtu_frame) .none kV_rtu_frame dc_rtu_frame pm_rtu_frame an_rtu_frame cd_rtu_frame ct_rtu_frame), sl_rtu_frame⟩)
    (c_rtu_frame : PySem.W.codeIn K cd_rtu_frame "rtu_frame" = true)
    (k_rtu_frame : PySem.W.keepIn K (.ref f_rtu_frame) = true)
    (a_is_rtu_frame : PySem.W.nsIn K mainGlobals "is_rtu_frame" = some (some (.ref f_is_rtu_frame)))
    (l_is_rtu_frame : K.lookup f_is_rtu_frame = some ⟨oc_is_rtu_frame, od_is_rtu_frame, .func (PySem.W.fnOf "is_rtu_frame" "is_rtu_frame" (defArgs s_is_rtu_frame) (defBody s_is_rtu_frame) (defScope s_is_rtu_frame) .none kV_is_rtu_frame dc_is_rtu_frame pm_is_rtu_frame an_is_rtu_frame cd_is_rtu_frame ct_is_rtu_frame), sl_is_rtu_frame⟩)
    (c_is_rtu_frame : PySem.W.codeIn K cd_is_rtu_frame "is_rtu_frame" = true)
    (k_is_rtu_frame : PySem.W.keepIn K (.ref f_is_rtu_frame) = true)
    (a_answer_rtu : PySem.W.nsIn K mainGlobals "answer_rtu" = some (some (.ref f_answer_rtu)))
    (l_answer_rtu : K.lookup f_answer_rtu = some ⟨oc_answer_rtu, od_answer_rtu, .func (PySem.W.fnOf "answer_rtu" "answer_rtu" (defArgs s_answer_rtu) (defBody s_answer_rtu) (defScope s_answer_rtu) .none kV_answer_rtu dc_answer_rtu pm_answer_rtu an_answer_rtu cd_answer_rtu ct_answer_rtu), sl_answer_rtu⟩)
    (c_answer_rtu : PySem.W.codeIn K cd_answer_rtu "answer_rtu" = true)
    (k_answer_rtu : PySem.W.keepIn K (.ref f_answer_rtu) = true)
    (a_digit_value : PySem.W.nsIn K mainGlobals "digit_value" = some (some (.ref f_digit_value)))
    (l_digit_value : K.lookup f_digit_value = some ⟨oc_digit_value, od_digit_value, .func (PySem.W.fnOf "digit_value" "digit_value" (defArgs s_digit_value) (defBody s_digit_value) (defScope s_digit_value) .none kV_digit_value dc_digit_value pm_digit_value an_digit_value cd_digit_value ct_digit_value), sl_digit_value⟩)
    (c_digit_value : PySem.W.codeIn K cd_digit_value "digit_value" = true)
    (k_digit_value : PySem.W.keepIn K (.ref f_digit_value) = true)
    (a_digit_sign : PySem.W.nsIn K mainGlobals "digit_sign" = some (some (.ref f_digit_sign)))
    (l_digit_sign : K.lookup f_digit_sign = some ⟨oc_digit_sign, od_digit_sign, .func (PySem.W.fnOf "digit_sign" "digit_sign" (defArgs s_digit_sign) (defBody s_digit_sign) (defScope s_digit_sign) .none kV_digit_sign dc_digit_sign pm_digit_sign an_digit_sign cd_digit_sign ct_digit_sign), sl_digit_sign⟩)
    (c_digit_sign : PySem.W.codeIn K cd_digit_sign "digit_sign" = true)
    (k_digit_sign : PySem.W.keepIn K (.ref f_digit_sign) = true)
    (a_ascii_frame : PySem.W.nsIn K mainGlobals "ascii_frame" = some (some (.ref f_ascii_frame)))
    (l_ascii_frame : K.lookup f_ascii_frame = some ⟨oc_ascii_frame, od_ascii_frame, .func (PySem.W.fnOf "ascii_frame" "ascii_frame" (defArgs s_ascii_frame) (defBody s_ascii_frame) (defScope s_ascii_frame) .none kV_ascii_frame dc_ascii_frame pm_ascii_frame an_ascii_frame cd_ascii_frame ct_ascii_frame), sl_ascii_frame⟩)
    (c_ascii_frame : PySem.W.codeIn K cd_ascii_frame "ascii_frame" = true)
    (k_ascii_frame : PySem.W.keepIn K (.ref f_ascii_frame) = true)
    (a_bytes_of_digits : PySem.W.nsIn K mainGlobals "bytes_of_digits" = some (some (.ref f_bytes_of_digits)))
    (l_bytes_of_digits : K.lookup f_bytes_of_digits = some ⟨oc_bytes_of_digits, od_bytes_of_digits, .func (PySem.W.fnOf "bytes_of_digits" "bytes_of_digits" (defArgs s_bytes_of_digits) (defBody s_bytes_of_digits) (defScope s_bytes_of_digits) .none kV_bytes_of_digits dc_bytes_of_digits pm_bytes_of_digits an_bytes_of_digits cd_bytes_of_digits ct_bytes_of_digits), sl_bytes_of_digits⟩)
    (c_bytes_of_digits : PySem.W.codeIn K cd_bytes_of_digits "bytes_of_digits" = true)
    (k_bytes_of_digits : PySem.W.keepIn K (.ref f_bytes_of_digits) = true)
    (a_bytes_of_line : PySem.W.nsIn K mainGlobals "bytes_of_line" = some (some (.ref f_bytes_of_line)))
    (l_bytes_of_line : K.lookup f_bytes_of_line = some ⟨oc_bytes_of_line, od_bytes_of_line, .func (PySem.W.fnOf "bytes_of_line" "bytes_of_line" (defArgs s_bytes_of_line) (defBody s_bytes_of_line) (defScope s_bytes_of_line) .none kV_bytes_of_line dc_bytes_of_line pm_bytes_of_line an_bytes_of_line cd_bytes_of_line ct_bytes_of_line), sl_bytes_of_line⟩)
    (c_bytes_of_line : PySem.W.codeIn K cd_bytes_of_line "bytes_of_line" = true)
    (k_bytes_of_line : PySem.W.keepIn K (.ref f_bytes_of_line) = true)
    (a_answer_ascii : PySem.W.nsIn K mainGlobals "answer_ascii" = some (some (.ref f_answer_ascii)))
    (l_answer_ascii : K.lookup f_answer_ascii = some ⟨oc_answer_ascii, od_answer_ascii, .func (PySem.W.fnOf "answer_ascii" "answer_ascii" (defArgs s_answer_ascii) (defBody s_answer_ascii) (defScope s_answer_ascii) .none kV_answer_ascii dc_answer_ascii pm_answer_ascii an_answer_ascii cd_answer_ascii ct_answer_ascii), sl_answer_ascii⟩)
    (c_answer_ascii : PySem.W.codeIn K cd_answer_ascii "answer_ascii" = true)
    (k_answer_ascii : PySem.W.keepIn K (.ref f_answer_ascii) = true)
    (a_is_tcp_frame : PySem.W.nsIn K mainGlobals "is_tcp_frame" = some (some (.ref f_is_tcp_frame)))
    (l_is_tcp_frame : K.lookup f_is_tcp_frame = some ⟨oc_is_tcp_frame, od_is_tcp_frame, .func (PySem.W.fnOf "is_tcp_frame" "is_tcp_frame" (defArgs s_is_tcp_frame) (defBody s_is_tcp_frame) (defScope s_is_tcp_frame) .none kV_is_tcp_frame dc_is_tcp_frame pm_is_tcp_frame an_is_tcp_frame cd_is_tcp_frame ct_is_tcp_frame), sl_is_tcp_frame⟩)
    (c_is_tcp_frame : PySem.W.codeIn K cd_is_tcp_frame "is_tcp_frame" = true)
    (k_is_tcp_frame : PySem.W.keepIn K (.ref f_is_tcp_frame) = true)
    (a_answer_tcp : PySem.W.nsIn K mainGlobals "answer_tcp" = some (some (.ref f_answer_tcp)))
    (l_answer_tcp : K.lookup f_answer_tcp = some ⟨oc_answer_tcp, od_answer_tcp, .func (PySem.W.fnOf "answer_tcp" "answer_tcp" (defArgs s_answer_tcp) (defBody s_answer_tcp) (defScope s_answer_tcp) .none kV_answer_tcp dc_answer_tcp pm_answer_tcp an_answer_tcp cd_answer_tcp ct_answer_tcp), sl_answer_tcp⟩)
    (c_answer_tcp : PySem.W.codeIn K cd_answer_tcp "answer_tcp" = true)
    (k_answer_tcp : PySem.W.keepIn K (.ref f_answer_tcp) = true)
    (a_call_begin : PySem.W.nsIn K mainGlobals "call_begin" = some (some (.ref f_call_begin)))
    (l_call_begin : K.lookup f_call_begin = some ⟨oc_call_begin, od_call_begin, .func (PySem.W.fnOf "call_begin" "call_begin" (defArgs s_call_begin) (defBody s_call_begin) (defScope s_call_begin) .none kV_call_begin dc_call_begin pm_call_begin an_call_begin cd_call_begin ct_call_begin), sl_call_begin⟩)
    (c_call_begin : PySem.W.codeIn K cd_call_begin "call_begin" = true)
    (k_call_begin : PySem.W.keepIn K (.ref f_call_begin) = true)
    (a_call_set : PySem.W.nsIn K mainGlobals "call_set" = some (some (.ref f_call_set)))
    (l_call_set : K.lookup f_call_set = some ⟨oc_call_set, od_call_set, .func (PySem.W.fnOf "call_set" "call_set" (defArgs s_call_set) (defBody s_call_set) (defScope s_call_set) .none kV_call_set dc_call_set pm_call_set an_call_set cd_call_set ct_call_set), sl_call_set⟩)
    (c_call_set : PySem.W.codeIn K cd_call_set "call_set" = true)
    (k_call_set : PySem.W.keepIn K (.ref f_call_set) = true)
    (a_call_get : PySem.W.nsIn K mainGlobals "call_get" = some (some (.ref f_call_get)))
    (l_call_get : K.lookup f_call_get = some ⟨oc_call_get, od_call_get, .func (PySem.W.fnOf "call_get" "call_get" (defArgs s_call_get) (defBody s_call_get) (defScope s_call_get) .none kV_call_get dc_call_get pm_call_get an_call_get cd_call_get ct_call_get), sl_call_get⟩)
    (c_call_get : PySem.W.codeIn K cd_call_get "call_get" = true)
    (k_call_get : PySem.W.keepIn K (.ref f_call_get) = true)
    (a_call_pdu : PySem.W.nsIn K mainGlobals "call_pdu" = some (some (.ref f_call_pdu)))
    (l_call_pdu : K.lookup f_call_pdu = some ⟨oc_call_pdu, od_call_pdu, .func (PySem.W.fnOf "call_pdu" "call_pdu" (defArgs s_call_pdu) (defBody s_call_pdu) (defScope s_call_pdu) .none kV_call_pdu dc_call_pdu pm_call_pdu an_call_pdu cd_call_pdu ct_call_pdu), sl_call_pdu⟩)
    (c_call_pdu : PySem.W.codeIn K cd_call_pdu "call_pdu" = true)
    (k_call_pdu : PySem.W.keepIn K (.ref f_call_pdu) = true)
    (a_call_rtu : PySem.W.nsIn K mainGlobals "call_rtu" = some (some (.ref f_call_rtu)))
    (l_call_rtu : K.lookup f_call_rtu = some ⟨oc_call_rtu, od_call_rtu, .func (PySem.W.fnOf "call_rtu" "call_rtu" (defArgs s_call_rtu) (defBody s_call_rtu) (defScope s_call_rtu) .none kV_call_rtu dc_call_rtu pm_call_rtu an_call_rtu cd_call_rtu ct_call_rtu), sl_call_rtu⟩)
    (c_call_rtu : PySem.W.codeIn K cd_call_rtu "call_rtu" = true)
    (k_call_rtu : PySem.W.keepIn K (.ref f_call_rtu) = true)
    (a_call_ascii : PySem.W.nsIn K mainGlobals "call_ascii" = some (some (.ref f_call_ascii)))
    (l_call_ascii : K.lookup f_call_ascii = some ⟨oc_call_ascii, od_call_ascii, .func (PySem.W.fnOf "call_ascii" "call_ascii" (defArgs s_call_ascii) (defBody s_call_ascii) (defScope s_call_ascii) .none kV_call_ascii dc_call_ascii pm_call_ascii an_call_ascii cd_call_ascii ct_call_ascii), sl_call_ascii⟩)
    (c_call_ascii : PySem.W.codeIn K cd_call_ascii "call_ascii" = true)
    (k_call_ascii : PySem.W.keepIn K (.ref f_call_ascii) = true)
    (a_call_tcp : PySem.W.nsIn K mainGlobals "call_tcp" = some (some (.ref f_call_tcp)))
    (l_call_tcp : K.lookup f_call_tcp = some ⟨oc_call_tcp, od_call_tcp, .func (PySem.W.fnOf "call_tcp" "call_tcp" (defArgs s_call_tcp) (defBody s_call_tcp) (defScope s_call_tcp) .none kV_call_tcp dc_call_tcp pm_call_tcp an_call_tcp cd_call_tcp ct_call_tcp), sl_call_tcp⟩)
    (c_call_tcp : PySem.W.codeIn K cd_call_tcp "call_tcp" = true)
    (k_call_tcp : PySem.W.keepIn K (.ref f_call_tcp) = true)
    (a_call_counts : PySem.W.nsIn K mainGlobals "call_counts" = some (some (.ref f_call_counts)))
    (l_call_counts : K.lookup f_call_counts = some ⟨oc_call_counts, od_call_counts, .func (PySem.W.fnOf "call_counts" "call_counts" (defArgs s_call_counts) (defBody s_call_counts) (defScope s_call_counts) .none kV_call_counts dc_call_counts pm_call_counts an_call_counts cd_call_counts ct_call_counts), sl_call_counts⟩)
    (c_call_counts : PySem.W.codeIn K cd_call_counts "call_counts" = true)
    (k_call_counts : PySem.W.keepIn K (.ref f_call_counts) = true)
    (a_call_crc : PySem.W.nsIn K mainGlobals "call_crc" = some (some (.ref f_call_crc)))
    (l_call_crc : K.lookup f_call_crc = some ⟨oc_call_crc, od_call_crc, .func (PySem.W.fnOf "call_crc" "call_crc" (defArgs s_call_crc) (defBody s_call_crc) (defScope s_call_crc) .none kV_call_crc dc_call_crc pm_call_crc an_call_crc cd_call_crc ct_call_crc), sl_call_crc⟩)
    (c_call_crc : PySem.W.codeIn K cd_call_crc "call_crc" = true)
    (k_call_crc : PySem.W.keepIn K (.ref f_call_crc) = true)
    (a_call_lrc : PySem.W.nsIn K mainGlobals "call_lrc" = some (some (.ref f_call_lrc)))
    (l_call_lrc : K.lookup f_call_lrc = some ⟨oc_call_lrc, od_call_lrc, .func (PySem.W.fnOf "call_lrc" "call_lrc" (defArgs s_call_lrc) (defBody s_call_lrc) (defScope s_call_lrc) .none kV_call_lrc dc_call_lrc pm_call_lrc an_call_lrc cd_call_lrc ct_call_lrc), sl_call_lrc⟩)
    (c_call_lrc : PySem.W.codeIn K cd_call_lrc "call_lrc" = true)
    (k_call_lrc : PySem.W.keepIn K (.ref f_call_lrc) = true)
    (a_call_ask : PySem.W.nsIn K mainGlobals "call_ask" = some (some (.ref f_call_ask)))
    (l_call_ask : K.lookup f_call_ask = some ⟨oc_call_ask, od_call_ask, .func (PySem.W.fnOf "call_ask" "call_ask" (defArgs s_call_ask) (defBody s_call_ask) (defScope s_call_ask) .none kV_call_ask dc_call_ask pm_call_ask an_call_ask cd_call_ask ct_call_ask), sl_call_ask⟩)
    (c_call_ask : PySem.W.codeIn K cd_call_ask "call_ask" = true)
    (k_call_ask : PySem.W.keepIn K (.ref f_call_ask) = true)
    (a_call_read : PySem.W.nsIn K mainGlobals "call_read" = some (some (.ref f_call_read)))
    (l_call_read : K.lookup f_call_read = some ⟨oc_call_read, od_call_read, .func (PySem.W.fnOf "call_read" "call_read" (defArgs s_call_read) (defBody s_call_read) (defScope s_call_read) .none kV_call_read dc_call_read pm_call_read an_call_read cd_call_read ct_call_read), sl_call_read⟩)
    (c_call_read : PySem.W.codeIn K cd_call_read "call_read" = true)
    (k_call_read : PySem.W.keepIn K (.ref f_call_read) = true)
    (a_rows_from : PySem.W.nsIn K mainGlobals "rows_from" = some (some (.ref f_rows_from)))
    (l_rows_from : K.lookup f_rows_from = some ⟨oc_rows_from, od_rows_from, .func (PySem.W.fnOf "rows_from" "rows_from" (defArgs s_rows_from) (defBody s_rows_from) (defScope s_rows_from) .none kV_rows_from dc_rows_from pm_rows_from an_rows_from cd_rows_from ct_rows_from), sl_rows_from⟩)
    (c_rows_from : PySem.W.codeIn K cd_rows_from "rows_from" = true)
    (k_rows_from : PySem.W.keepIn K (.ref f_rows_from) = true)
    (a_answers : PySem.W.nsIn K mainGlobals "answers" = some (some (.ref f_answers)))
    (l_answers : K.lookup f_answers = some ⟨oc_answers, od_answers, .func (PySem.W.fnOf "answers" "answers" (defArgs s_answers) (defBody s_answers) (defScope s_answers) .none kV_answers dc_answers pm_answers an_answers cd_answers ct_answers), sl_answers⟩)
    (c_answers : PySem.W.codeIn K cd_answers "answers" = true)
    (k_answers : PySem.W.keepIn K (.ref f_answers) = true)
    (a_OUT_OF_RANGE : PySem.W.nsIn K mainGlobals "OUT_OF_RANGE" = some (some (.int (-2) k_OUT_OF_RANGE)))
    (a_COILS : PySem.W.nsIn K mainGlobals "COILS" = some (some (.int (0) k_COILS)))
    (a_INPUTS : PySem.W.nsIn K mainGlobals "INPUTS" = some (some (.int (1) k_INPUTS)))
    (a_KEPT : PySem.W.nsIn K mainGlobals "KEPT" = some (some (.int (2) k_KEPT)))
    (a_READ_ONLY : PySem.W.nsIn K mainGlobals "READ_ONLY" = some (some (.int (3) k_READ_ONLY)))
    (a_GREATEST_VALUES : PySem.W.nsIn K mainGlobals "GREATEST_VALUES" = some (some (.ref t_GREATEST_VALUES)))
    (l_GREATEST_VALUES : K.lookup t_GREATEST_VALUES = some ⟨.type "tuple", dd_GREATEST_VALUES, .seq its_GREATEST_VALUES n_GREATEST_VALUES, ss_GREATEST_VALUES⟩)
    (v_GREATEST_VALUES : Vals [.int 1, .int 1, .int 65535, .int 65535] its_GREATEST_VALUES.toList)
    (z_GREATEST_VALUES : its_GREATEST_VALUES.size ≤ sizeLine)
    (a_GREATEST_SIZE : PySem.W.nsIn K mainGlobals "GREATEST_SIZE" = some (some (.int (65536) k_GREATEST_SIZE)))
    (a_FRAMES_RIGHT : PySem.W.nsIn K mainGlobals "FRAMES_RIGHT" = some (some (.int (0) k_FRAMES_RIGHT)))
    (a_FRAMES_WRONG : PySem.W.nsIn K mainGlobals "FRAMES_WRONG" = some (some (.int (1) k_FRAMES_WRONG)))
    (a_REFUSALS : PySem.W.nsIn K mainGlobals "REFUSALS" = some (some (.int (2) k_REFUSALS)))
    (a_FRAMES_FOR_IT : PySem.W.nsIn K mainGlobals "FRAMES_FOR_IT" = some (some (.int (3) k_FRAMES_FOR_IT)))
    (a_FRAMES_FOR_ALL : PySem.W.nsIn K mainGlobals "FRAMES_FOR_ALL" = some (some (.int (4) k_FRAMES_FOR_ALL)))
    (a_WENT_WELL : PySem.W.nsIn K mainGlobals "WENT_WELL" = some (some (.int (5) k_WENT_WELL)))
    (a_NO_REASON : PySem.W.nsIn K mainGlobals "NO_REASON" = some (some (.int (0) k_NO_REASON)))
    (a_NO_SUCH_FUNCTION : PySem.W.nsIn K mainGlobals "NO_SUCH_FUNCTION" = some (some (.int (1) k_NO_SUCH_FUNCTION)))
    (a_NO_SUCH_PLACE : PySem.W.nsIn K mainGlobals "NO_SUCH_PLACE" = some (some (.int (2) k_NO_SUCH_PLACE)))
    (a_WRONG_FORM : PySem.W.nsIn K mainGlobals "WRONG_FORM" = some (some (.int (3) k_WRONG_FORM)))
    (a_COIL_ON : PySem.W.nsIn K mainGlobals "COIL_ON" = some (some (.int (65280) k_COIL_ON)))
    (a_MOST_BITS_READ : PySem.W.nsIn K mainGlobals "MOST_BITS_READ" = some (some (.int (2000) k_MOST_BITS_READ)))
    (a_MOST_NUMBERS_READ : PySem.W.nsIn K mainGlobals "MOST_NUMBERS_READ" = some (some (.int (125) k_MOST_NUMBERS_READ)))
    (a_MOST_COILS_WRITTEN : PySem.W.nsIn K mainGlobals "MOST_COILS_WRITTEN" = some (some (.int (1968) k_MOST_COILS_WRITTEN)))
    (a_MOST_KEPT_WRITTEN : PySem.W.nsIn K mainGlobals "MOST_KEPT_WRITTEN" = some (some (.int (123) k_MOST_KEPT_WRITTEN)))
    (a_MOST_KEPT_WRITTEN_AND_READ : PySem.W.nsIn K mainGlobals "MOST_KEPT_WRITTEN_AND_READ" = some (some (.int (121) k_MOST_KEPT_WRITTEN_AND_READ)))
    (a_ECHO : PySem.W.nsIn K mainGlobals "ECHO" = some (some (.int (0) k_ECHO)))
    (a_CLEAR_COUNTS : PySem.W.nsIn K mainGlobals "CLEAR_COUNTS" = some (some (.int (10) k_CLEAR_COUNTS)))
    (a_FIRST_COUNT : PySem.W.nsIn K mainGlobals "FIRST_COUNT" = some (some (.int (11) k_FIRST_COUNT)))
    (a_LAST_COUNT : PySem.W.nsIn K mainGlobals "LAST_COUNT" = some (some (.int (15) k_LAST_COUNT)))
    (a_FORMS : PySem.W.nsIn K mainGlobals "FORMS" = some (some (.ref d_FORMS)))
    (l_FORMS : K.lookup d_FORMS = some ⟨.type "dict", none, .dict es_FORMS m_FORMS, #[]⟩)
    (t_FORMS : tabOf es_FORMS.toList = some [(1, .ref f_is_read_of_bits), (2, .ref f_is_read_of_bits), (3, .ref f_is_read_of_numbers), (4, .ref f_is_read_of_numbers), (5, .ref f_is_write_of_coil), (6, .ref f_is_write_of_kept), (7, .ref f_is_alone), (8, .ref f_is_check), (11, .ref f_is_alone), (15, .ref f_is_write_of_coils), (16, .ref f_is_write_of_kept_row), (22, .ref f_is_mask_of_kept), (23, .ref f_is_write_and_read)])
    (w_FORMS : (d_FORMS == sysModules) = false)
    (a_UNFIT : PySem.W.nsIn K mainGlobals "UNFIT" = some (some (.int (-5) k_UNFIT)))
    (a_REFUSAL_TOLD : PySem.W.nsIn K mainGlobals "REFUSAL_TOLD" = some (some (.int (-256) k_REFUSAL_TOLD)))
    (a_GREATEST_PLACE : PySem.W.nsIn K mainGlobals "GREATEST_PLACE" = some (some (.int (65535) k_GREATEST_PLACE)))
    (a_UNCOUNTED : PySem.W.nsIn K mainGlobals "UNCOUNTED" = some (some (.ref t_UNCOUNTED)))
    (l_UNCOUNTED : K.lookup t_UNCOUNTED = some ⟨.type "tuple", dd_UNCOUNTED, .seq its_UNCOUNTED n_UNCOUNTED, ss_UNCOUNTED⟩)
    (v_UNCOUNTED : Vals [.int 8, .int 11] its_UNCOUNTED.toList)
    (z_UNCOUNTED : its_UNCOUNTED.size ≤ sizeLine)
    (a_CARRIERS : PySem.W.nsIn K mainGlobals "CARRIERS" = some (some (.ref d_CARRIERS)))
    (l_CARRIERS : K.lookup d_CARRIERS = some ⟨.type "dict", none, .dict es_CARRIERS m_CARRIERS, #[]⟩)
    (t_CARRIERS : tabOf es_CARRIERS.toList = some [(1, .ref f_read_bits), (2, .ref f_read_bits), (3, .ref f_read_numbers), (4, .ref f_read_numbers), (5, .ref f_write_coil), (6, .ref f_write_kept), (7, .ref f_read_status), (8, .ref f_check_device), (11, .ref f_read_went_well), (15, .ref f_write_coils), (16, .ref f_write_kept_row), (22, .ref f_mask_kept), (23, .ref f_write_and_read)])
    (w_CARRIERS : (d_CARRIERS == sysModules) = false)
    (a_FOR_ALL : PySem.W.nsIn K mainGlobals "FOR_ALL" = some (some (.int (0) k_FOR_ALL)))
    (a_CARRIED_OUT_FOR_ALL : PySem.W.nsIn K mainGlobals "CARRIED_OUT_FOR_ALL" = some (some (.ref t_CARRIED_OUT_FOR_ALL)))
    (l_CARRIED_OUT_FOR_ALL : K.lookup t_CARRIED_OUT_FOR_ALL = some ⟨.type "tuple", dd_CARRIED_OUT_FOR_ALL, .seq its_CARRIED_OUT_FOR_ALL n_CARRIED_OUT_FOR_ALL, ss_CARRIED_OUT_FOR_ALL⟩)
    (v_CARRIED_OUT_FOR_ALL : Vals [.int 5, .int 6, .int 15, .int 16, .int 22] its_CARRIED_OUT_FOR_ALL.toList)
    (z_CARRIED_OUT_FOR_ALL : its_CARRIED_OUT_FOR_ALL.size ≤ sizeLine)
    (a_ANY_DEVICE : PySem.W.nsIn K mainGlobals "ANY_DEVICE" = some (some (.ref t_ANY_DEVICE)))
    (l_ANY_DEVICE : K.lookup t_ANY_DEVICE = some ⟨.type "tuple", dd_ANY_DEVICE, .seq its_ANY_DEVICE n_ANY_DEVICE, ss_ANY_DEVICE⟩)
    (v_ANY_DEVICE : Vals [.int 0, .int 255] its_ANY_DEVICE.toList)
    (z_ANY_DEVICE : its_ANY_DEVICE.size ≤ sizeLine)
    (a_COLON : PySem.W.nsIn K mainGlobals "COLON" = some (some (.int (58) k_COLON)))
    (a_LINE_END : PySem.W.nsIn K mainGlobals "LINE_END" = some (some (.ref t_LINE_END)))
    (l_LINE_END : K.lookup t_LINE_END = some ⟨.type "tuple", dd_LINE_END, .seq its_LINE_END n_LINE_END, ss_LINE_END⟩)
    (v_LINE_END : Vals [.int 13, .int 10] its_LINE_END.toList)
    (z_LINE_END : its_LINE_END.size ≤ sizeLine)
    (a_NO_DIGIT : PySem.W.nsIn K mainGlobals "NO_DIGIT" = some (some (.int (-1) k_NO_DIGIT)))
    (a_MOST_SUMMED : PySem.W.nsIn K mainGlobals "MOST_SUMMED" = some (some (.int (65536) k_MOST_SUMMED)))
    (a_SHAPES : PySem.W.nsIn K mainGlobals "SHAPES" = some (some (.ref d_SHAPES)))
    (l_SHAPES : K.lookup d_SHAPES = some ⟨.type "dict", none, .dict es_SHAPES m_SHAPES, #[]⟩)
    (t_SHAPES : tabOf es_SHAPES.toList = some [(0, .ref t_SHAPES_0), (1, .ref t_SHAPES_1), (2, .ref t_SHAPES_2), (3, .ref t_SHAPES_3), (4, .ref t_SHAPES_4), (5, .ref t_SHAPES_5), (6, .ref t_SHAPES_6), (7, .ref t_SHAPES_7), (8, .ref t_SHAPES_8), (9, .ref t_SHAPES_9), (10, .ref t_SHAPES_10), (11, .ref t_SHAPES_11)])
    (w_SHAPES : (d_SHAPES == sysModules) = false)
    (l_SHAPES_0 : K.lookup t_SHAPES_0 = some ⟨.type "tuple", dd_SHAPES_0, .seq its_SHAPES_0 n_SHAPES_0, ss_SHAPES_0⟩)
    (v_SHAPES_0 : Vals [.int 5, .int 0] its_SHAPES_0.toList)
    (z_SHAPES_0 : its_SHAPES_0.size ≤ sizeLine)
    (l_SHAPES_1 : K.lookup t_SHAPES_1 = some ⟨.type "tuple", dd_SHAPES_1, .seq its_SHAPES_1 n_SHAPES_1, ss_SHAPES_1⟩)
    (v_SHAPES_1 : Vals [.int 3, .int 0] its_SHAPES_1.toList)
    (z_SHAPES_1 : its_SHAPES_1.size ≤ sizeLine)
    (l_SHAPES_2 : K.lookup t_SHAPES_2 = some ⟨.type "tuple", dd_SHAPES_2, .seq its_SHAPES_2 n_SHAPES_2, ss_SHAPES_2⟩)
    (v_SHAPES_2 : Vals [.int 2, .int 0] its_SHAPES_2.toList)
    (z_SHAPES_2 : its_SHAPES_2.size ≤ sizeLine)
    (l_SHAPES_3 : K.lookup t_SHAPES_3 = some ⟨.type "tuple", dd_SHAPES_3, .seq its_SHAPES_3 n_SHAPES_3, ss_SHAPES_3⟩)
    (v_SHAPES_3 : Vals [.int 0, .int 1] its_SHAPES_3.toList)
    (z_SHAPES_3 : its_SHAPES_3.size ≤ sizeLine)
    (l_SHAPES_4 : K.lookup t_SHAPES_4 = some ⟨.type "tuple", dd_SHAPES_4, .seq its_SHAPES_4 n_SHAPES_4, ss_SHAPES_4⟩)
    (v_SHAPES_4 : Vals [.int 0, .int 1] its_SHAPES_4.toList)
    (z_SHAPES_4 : its_SHAPES_4.size ≤ sizeLine)
    (l_SHAPES_5 : K.lookup t_SHAPES_5 = some ⟨.type "tuple", dd_SHAPES_5, .seq its_SHAPES_5 n_SHAPES_5, ss_SHAPES_5⟩)
    (v_SHAPES_5 : Vals [.int 0, .int 1] its_SHAPES_5.toList)
    (z_SHAPES_5 : its_SHAPES_5.size ≤ sizeLine)
    (l_SHAPES_6 : K.lookup t_SHAPES_6 = some ⟨.type "tuple", dd_SHAPES_6, .seq its_SHAPES_6 n_SHAPES_6, ss_SHAPES_6⟩)
    (v_SHAPES_6 : Vals [.int 0, .int 1] its_SHAPES_6.toList)
    (z_SHAPES_6 : its_SHAPES_6.size ≤ sizeLine)
    (l_SHAPES_7 : K.lookup t_SHAPES_7 = some ⟨.type "tuple", dd_SHAPES_7, .seq its_SHAPES_7 n_SHAPES_7, ss_SHAPES_7⟩)
    (v_SHAPES_7 : Vals [.int 0, .int 0] its_SHAPES_7.toList)
    (z_SHAPES_7 : its_SHAPES_7.size ≤ sizeLine)
    (l_SHAPES_8 : K.lookup t_SHAPES_8 = some ⟨.type "tuple", dd_SHAPES_8, .seq its_SHAPES_8 n_SHAPES_8, ss_SHAPES_8⟩)
    (v_SHAPES_8 : Vals [.int 0, .int 1] its_SHAPES_8.toList)
    (z_SHAPES_8 : its_SHAPES_8.size ≤ sizeLine)
    (l_SHAPES_9 : K.lookup t_SHAPES_9 = some ⟨.type "tuple", dd_SHAPES_9, .seq its_SHAPES_9 n_SHAPES_9, ss_SHAPES_9⟩)
    (v_SHAPES_9 : Vals [.int 0, .int 1] its_SHAPES_9.toList)
    (z_SHAPES_9 : its_SHAPES_9.size ≤ sizeLine)
    (l_SHAPES_10 : K.lookup t_SHAPES_10 = some ⟨.type "tuple", dd_SHAPES_10, .seq its_SHAPES_10 n_SHAPES_10, ss_SHAPES_10⟩)
    (v_SHAPES_10 : Vals [.int 3, .int 1] its_SHAPES_10.toList)
    (z_SHAPES_10 : its_SHAPES_10.size ≤ sizeLine)
    (l_SHAPES_11 : K.lookup t_SHAPES_11 = some ⟨.type "tuple", dd_SHAPES_11, .seq its_SHAPES_11 n_SHAPES_11, ss_SHAPES_11⟩)
    (v_SHAPES_11 : Vals [.int 0, .int 2] its_SHAPES_11.toList)
    (z_SHAPES_11 : its_SHAPES_11.size ≤ sizeLine)
    (a_CALLS : PySem.W.nsIn K mainGlobals "CALLS" = some (some (.ref d_CALLS)))
    (l_CALLS : K.lookup d_CALLS = some ⟨.type "dict", none, .dict es_CALLS m_CALLS, #[]⟩)
    (t_CALLS : tabOf es_CALLS.toList = some [(0, .ref f_call_begin), (1, .ref f_call_set), (2, .ref f_call_get), (3, .ref f_call_pdu), (4, .ref f_call_rtu), (5, .ref f_call_ascii), (6, .ref f_call_tcp), (7, .ref f_call_counts), (8, .ref f_call_crc), (9, .ref f_call_lrc), (10, .ref f_call_ask), (11, .ref f_call_read)])
    (w_CALLS : (d_CALLS == sysModules) = false)
    (b_enumerate : PySem.W.nsIn K mainGlobals "enumerate" = some none)
    (b_len : PySem.W.nsIn K mainGlobals "len" = some none)
    (b_list : PySem.W.nsIn K mainGlobals "list" = some none)
    (b_max : PySem.W.nsIn K mainGlobals "max" = some none)
    (b_min : PySem.W.nsIn K mainGlobals "min" = some none)
    (b_range : PySem.W.nsIn K mainGlobals "range" = some none)
    (b_reversed : PySem.W.nsIn K mainGlobals "reversed" = some none)
    (b_sum : PySem.W.nsIn K mainGlobals "sum" = some none) :
    ∃ fd : FuncData, (∀ (s : Shared) (us : List Value), us.length = (["calls"] : List Str).length → BindsTo s fd ⟨us, []⟩ ((["calls"] : List Str).zip us)) ∧ ∀ base : Heap, K.In base → base.Ns mainGlobals mg → FnOk P w K mg base CX0 9 fa fd ["calls"] (sp_answers K) := by
  have e := hfa.symm.trans (PySem.W.mg_of X G a_answers)
  cases e
  let A : Ad := { C := C, GREATEST_VALUES := t_GREATEST_VALUES, FORMS := d_FORMS, UNCOUNTED := t_UNCOUNTED, CARRIERS := d_CARRIERS, CARRIED_OUT_FOR_ALL := t_CARRIED_OUT_FOR_ALL, ANY_DEVICE := t_ANY_DEVICE, LINE_END := t_LINE_END, SHAPES := d_SHAPES, SHAPES_0 := t_SHAPES_0, SHAPES_1 := t_SHAPES_1, SHAPES_2 := t_SHAPES_2, SHAPES_3 := t_SHAPES_3, SHAPES_4 := t_SHAPES_4, SHAPES_5 := t_SHAPES_5, SHAPES_6 := t_SHAPES_6, SHAPES_7 := t_SHAPES_7, SHAPES_8 := t_SHAPES_8, SHAPES_9 := t_SHAPES_9, SHAPES_10 := t_SHAPES_10, SHAPES_11 := t_SHAPES_11, CALLS := d_CALLS, f_is_read_of_bits := f_is_read_of_bits, f_is_read_of_numbers := f_is_read_of_numbers, f_is_write_of_coil := f_is_write_of_coil, f_is_write_of_kept := f_is_write_of_kept, f_is_alone := f_is_alone, f_is_check := f_is_check, f_is_write_of_coils := f_is_write_of_coils, f_is_write_of_kept_row := f_is_write_of_kept_row, f_is_mask_of_kept := f_is_mask_of_kept, f_is_write_and_read := f_is_write_and_read, f_read_bits := f_read_bits, f_read_numbers := f_read_numbers, f_write_coil := f_write_coil, f_write_kept := f_write_kept, f_read_status := f_read_status, f_check_device := f_check_device, f_read_went_well := f_read_went_well, f_write_coils := f_write_coils, f_write_kept_row := f_write_kept_row, f_mask_kept := f_mask_kept, f_write_and_read := f_write_and_read, f_call_begin := f_call_begin, f_call_set := f_call_set, f_call_get := f_call_get, f_call_pdu := f_call_pdu, f_call_rtu := f_call_rtu, f_call_ascii := f_call_ascii, f_call_tcp := f_call_tcp, f_call_counts := f_call_counts, f_call_crc := f_call_crc, f_call_lrc := f_call_lrc, f_call_ask := f_call_ask, f_call_read := f_call_read }
  have T : Txt K mg A := { cl := ⟨pg, hd, po, sa⟩, g_Device := PySem.W.mg_of X G aC, n_unit := n_unit, n_tables := n_tables, n_tallies := n_tallies, g_OUT_OF_RANGE := ⟨_, PySem.W.mg_of X G a_OUT_OF_RANGE⟩, g_COILS := ⟨_, PySem.W.mg_of X G a_COILS⟩, g_INPUTS := ⟨_, PySem.W.mg_of X G a_INPUTS⟩, g_KEPT := ⟨_, PySem.W.mg_of X G a_KEPT⟩, g_READ_ONLY := ⟨_, PySem.W.mg_of X G a_READ_ONLY⟩, g_GREATEST_VALUES := PySem.W.mg_of X G a_GREATEST_VALUES, t_GREATEST_VALUES := fun H => Or.inr ⟨_, _, _, l_GREATEST_VALUES, rfl, rfl, z_GREATEST_VALUES, v_GREATEST_VALUES⟩, g_GREATEST_SIZE := ⟨_, PySem.W.mg_of X G a_GREATEST_SIZE⟩, g_FRAMES_RIGHT := ⟨_, PySem.W.mg_of X G a_FRAMES_RIGHT⟩, g_FRAMES_WRONG := ⟨_, PySem.W.mg_of X G a_FRAMES_WRONG⟩, g_REFUSALS := ⟨_, PySem.W.mg_of X G a_REFUSALS⟩, g_FRAMES_FOR_IT := ⟨_, PySem.W.mg_of X G a_FRAMES_FOR_IT⟩, g_FRAMES_FOR_ALL := ⟨_, PySem.W.mg_of X G a_FRAMES_FOR_ALL⟩, g_WENT_WELL := ⟨_, PySem.W.mg_of X G a_WENT_WELL⟩, g_NO_REASON := ⟨_, PySem.W.mg_of X G a_NO_REASON⟩, g_NO_SUCH_FUNCTION := ⟨_, PySem.W.mg_of X G a_NO_SUCH_FUNCTION⟩, g_NO_SUCH_PLACE := ⟨_, PySem.W.mg_of X G a_NO_SUCH_PLACE⟩, g_WRONG_FORM := ⟨_, PySem.W.mg_of X G a_WRONG_FORM⟩, g_COIL_ON := ⟨_, PySem.W.mg_of X G a_COIL_ON⟩, g_MOST_BITS_READ := ⟨_, PySem.W.mg_of X G a_MOST_BITS_READ⟩, g_MOST_NUMBERS_READ := ⟨_, PySem.W.mg_of X G a_MOST_NUMBERS_READ⟩, g_MOST_COILS_WRITTEN := ⟨_, PySem.W.mg_of X G a_MOST_COILS_WRITTEN⟩, g_MOST_KEPT_WRITTEN := ⟨_, PySem.W.mg_of X G a_MOST_KEPT_WRITTEN⟩, g_MOST_KEPT_WRITTEN_AND_READ := ⟨_, PySem.W.mg_of X G a_MOST_KEPT_WRITTEN_AND_READ⟩, g_ECHO := ⟨_, PySem.W.mg_of X G a_ECHO⟩, g_CLEAR_COUNTS := ⟨_, PySem.W.mg_of X G a_CLEAR_COUNTS⟩, g_FIRST_COUNT := ⟨_, PySem.W.mg_of X G a_FIRST_COUNT⟩, g_LAST_COUNT := ⟨_, PySem.W.mg_of X G a_LAST_COUNT⟩, g_FORMS := PySem.W.mg_of X G a_FORMS, k_FORMS := ⟨⟨_, _, l_FORMS, t_FORMS⟩, w_FORMS⟩, g_UNFIT := ⟨_, PySem.W.mg_of X G a_UNFIT⟩, g_REFUSAL_TOLD := ⟨_, PySem.W.mg_of X G a_REFUSAL_TOLD⟩, g_GREATEST_PLACE := ⟨_, PySem.W.mg_of X G a_GREATEST_PLACE⟩, g_UNCOUNTED := PySem.W.mg_of X G a_UNCOUNTED, t_UNCOUNTED := fun H => Or.inr ⟨_, _, _, l_UNCOUNTED, rfl, rfl, z_UNCOUNTED, v_UNCOUNTED⟩, g_CARRIERS := PySem.W.mg_of X G a_CARRIERS, k_CARRIERS := ⟨⟨_, _, l_CARRIERS, t_CARRIERS⟩, w_CARRIERS⟩, g_FOR_ALL := ⟨_, PySem.W.mg_of X G a_FOR_ALL⟩, g_CARRIED_OUT_FOR_ALL := PySem.W.mg_of X G a_CARRIED_OUT_FOR_ALL, t_CARRIED_OUT_FOR_ALL := fun H => Or.inr ⟨_, _, _, l_CARRIED_OUT_FOR_ALL, rfl, rfl, z_CARRIED_OUT_FOR_ALL, v_CARRIED_OUT_FOR_ALL⟩, g_ANY_DEVICE := PySem.W.mg_of X G a_ANY_DEVICE, t_ANY_DEVICE := fun H => Or.inr ⟨_, _, _, l_ANY_DEVICE, rfl, rfl, z_ANY_DEVICE, v_ANY_DEVICE⟩, g_COLON := ⟨_, PySem.W.mg_of X G a_COLON⟩, g_LINE_END := PySem.W.mg_of X G a_LINE_END, t_LINE_END := fun H => Or.inr ⟨_, _, _, l_LINE_END, rfl, rfl, z_LINE_END, v_LINE_END⟩, g_NO_DIGIT := ⟨_, PySem.W.mg_of X G a_NO_DIGIT⟩, g_MOST_SUMMED := ⟨_, PySem.W.mg_of X G a_MOST_SUMMED⟩, g_SHAPES := PySem.W.mg_of X G a_SHAPES, k_SHAPES := ⟨⟨_, _, l_SHAPES, t_SHAPES⟩, w_SHAPES⟩, t_SHAPES_0 := fun H => Or.inr ⟨_, _, _, l_SHAPES_0, rfl, rfl, z_SHAPES_0, v_SHAPES_0⟩, t_SHAPES_1 := fun H => Or.inr ⟨_, _, _, l_SHAPES_1, rfl, rfl, z_SHAPES_1, v_SHAPES_1⟩, t_SHAPES_2 := fun H => Or.inr ⟨_, _, _, l_SHAPES_2, rfl, rfl, z_SHAPES_2, v_SHAPES_2⟩, t_SHAPES_3 := fun H => Or.inr ⟨_, _, _, l_SHAPES_3, rfl, rfl, z_SHAPES_3, v_SHAPES_3⟩, t_SHAPES_4 := fun H => Or.inr ⟨_, _, _, l_SHAPES_4, rfl, rfl, z_SHAPES_4, v_SHAPES_4⟩, t_SHAPES_5 := fun H => Or.inr ⟨_, _, _, l_SHAPES_5, rfl, rfl, z_SHAPES_5, v_SHAPES_5⟩, t_SHAPES_6 := fun H => Or.inr ⟨_, _, _, l_SHAPES_6, rfl, rfl, z_SHAPES_6, v_SHAPES_6⟩, t_SHAPES_7 := fun H => Or.inr ⟨_, _, _, l_SHAPES_7, rfl, rfl, z_SHAPES_7, v_SHAPES_7⟩, t_SHAPES_8 := fun H => Or.inr ⟨_, _, _, l_SHAPES_8, rfl, rfl, z_SHAPES_8, v_SHAPES_8⟩, t_SHAPES_9 := fun H => Or.inr ⟨_, _, _, l_SHAPES_9, rfl, rfl, z_SHAPES_9, v_SHAPES_9⟩, t_SHAPES_10 := fun H => Or.inr ⟨_, _, _, l_SHAPES_10, rfl, rfl, z_SHAPES_10, v_SHAPES_10⟩, t_SHAPES_11 := fun H => Or.inr ⟨_, _, _, l_SHAPES_11, rfl, rfl, z_SHAPES_11, v_SHAPES_11⟩, g_CALLS := PySem.W.mg_of X G a_CALLS, k_CALLS := ⟨⟨_, _, l_CALLS, t_CALLS⟩, w_CALLS⟩, b_enumerate := PySem.W.mg_none_of X G b_enumerate, b_len := PySem.W.mg_none_of X G b_len, b_list := PySem.W.mg_none_of X G b_list, b_max := PySem.W.mg_none_of X G b_max, b_min := PySem.W.mg_none_of X G b_min, b_range := PySem.W.mg_none_of X G b_range, b_reversed := PySem.W.mg_none_of X G b_reversed, b_sum := PySem.W.mg_none_of X G b_sum }
  have F___init__ := fun_mk (st := s___init__) l___init__ c___init__ k___init__
  have b___init__ := F___init__.binds (ps := ["self"]) fun _ _ _ _ _ _ us hl => match us, hl with | [_], _ => rfl
  have F_begin := fun_mk (st := s_begin) l_begin c_begin k_begin
  have b_begin := F_begin.binds (ps := ["self", "unit", "sizes"]) fun _ _ _ _ _ _ us hl => match us, hl with | [_, _, _], _ => rfl
  have F_has_places := fun_mk (st := s_has_places) l_has_places c_has_places k_has_places
  have b_has_places := F_has_places.binds (ps := ["self", "table", "place", "many"]) fun _ _ _ _ _ _ us hl => match us, hl with | [_, _, _, _], _ => rfl
  have F_set_value := fun_mk (st := s_set_value) l_set_value c_set_value k_set_value
  have b_set_value := F_set_value.binds (ps := ["self", "table", "place", "value"]) fun _ _ _ _ _ _ us hl => match us, hl with | [_, _, _, _], _ => rfl
  have F_get_value := fun_mk (st := s_get_value) l_get_value c_get_value k_get_value
  have b_get_value := F_get_value.binds (ps := ["self", "table", "place"]) fun _ _ _ _ _ _ us hl => match us, hl with | [_, _, _], _ => rfl
  have F_row_at := fun_mk (st := s_row_at) l_row_at c_row_at k_row_at
  have b_row_at := F_row_at.binds (ps := ["self", "table", "place", "many"]) fun _ _ _ _ _ _ us hl => match us, hl with | [_, _, _, _], _ => rfl
  have F_put_row := fun_mk (st := s_put_row) l_put_row c_put_row k_put_row
  have b_put_row := F_put_row.binds (ps := ["self", "table", "place", "fresh"]) fun _ _ _ _ _ _ us hl => match us, hl with | [_, _, _, _], _ => rfl
  have F_tally := fun_mk (st := s_tally) l_tally c_tally k_tally
  have b_tally := F_tally.binds (ps := ["self", "which"]) fun _ _ _ _ _ _ us hl => match us, hl with | [_, _], _ => rfl
  have F_clear_tallies := fun_mk (st := s_clear_tallies) l_clear_tallies c_clear_tallies k_clear_tallies
  have b_clear_tallies := F_clear_tallies.binds (ps := ["self"]) fun _ _ _ _ _ _ us hl => match us, hl with | [_], _ => rfl
  have F_number_at := fun_mk (st := s_number_at) l_number_at c_number_at k_number_at
  have b_number_at := F_number_at.binds (ps := ["row", "k"]) fun _ _ _ _ _ _ us hl => match us, hl with | [_, _], _ => rfl
  have F_bytes_of_numbers := fun_mk (st := s_bytes_of_numbers) l_bytes_of_numbers c_bytes_of_numbers k_bytes_of_numbers
  have b_bytes_of_numbers := F_bytes_of_numbers.binds (ps := ["numbers"]) fun _ _ _ _ _ _ us hl => match us, hl with | [_], _ => rfl
  have F_numbers_of_bytes := fun_mk (st := s_numbers_of_bytes) l_numbers_of_bytes c_numbers_of_bytes k_numbers_of_bytes
  have b_numbers_of_bytes := F_numbers_of_bytes.binds (ps := ["row"]) fun _ _ _ _ _ _ us hl => match us, hl with | [_], _ => rfl
  have F_counted := fun_mk (st := s_counted) l_counted c_counted k_counted
  have b_counted := F_counted.binds (ps := ["row"]) fun _ _ _ _ _ _ us hl => match us, hl with | [_], _ => rfl
  have F_bytes_for_bits := fun_mk (st := s_bytes_for_bits) l_bytes_for_bits c_bytes_for_bits k_bytes_for_bits
  have b_bytes_for_bits := F_bytes_for_bits.binds (ps := ["many"]) fun _ _ _ _ _ _ us hl => match us, hl with | [_], _ => rfl
  have F_bytes_of_bits := fun_mk (st := s_bytes_of_bits) l_bytes_of_bits c_bytes_of_bits k_bytes_of_bits
  have b_bytes_of_bits := F_bytes_of_bits.binds (ps := ["bits"]) fun _ _ _ _ _ _ us hl => match us, hl with | [_], _ => rfl
  have F_bits_of_bytes := fun_mk (st := s_bits_of_bytes) l_bits_of_bytes c_bits_of_bytes k_bits_of_bytes
  have b_bits_of_bytes := F_bits_of_bytes.binds (ps := ["row", "many"]) fun _ _ _ _ _ _ us hl => match us, hl with | [_, _], _ => rfl
  have F_is_read_of_bits := fun_mk (st := s_is_read_of_bits) l_is_read_of_bits c_is_read_of_bits k_is_read_of_bits
  have b_is_read_of_bits := F_is_read_of_bits.binds (ps := ["request"]) fun _ _ _ _ _ _ us hl => match us, hl with | [_], _ => rfl
  have F_is_read_of_numbers := fun_mk (st := s_is_read_of_numbers) l_is_read_of_numbers c_is_read_of_numbers k_is_read_of_numbers
  have b_is_read_of_numbers := F_is_read_of_numbers.binds (ps := ["request"]) fun _ _ _ _ _ _ us hl => match us, hl with | [_], _ => rfl
  have F_is_write_of_coil := fun_mk (st := s_is_write_of_coil) l_is_write_of_coil c_is_write_of_coil k_is_write_of_coil
  have b_is_write_of_coil := F_is_write_of_coil.binds (ps := ["request"]) fun _ _ _ _ _ _ us hl => match us, hl with | [_], _ => rfl
  have F_is_write_of_kept := fun_mk (st := s_is_write_of_kept) l_is_write_of_kept c_is_write_of_kept k_is_write_of_kept
  have b_is_write_of_kept := F_is_write_of_kept.binds (ps := ["request"]) fun _ _ _ _ _ _ us hl => match us, hl with | [_], _ => rfl
  have F_is_mask_of_kept := fun_mk (st := s_is_mask_of_kept) l_is_mask_of_kept c_is_mask_of_kept k_is_mask_of_kept
  have b_is_mask_of_kept := F_is_mask_of_kept.binds (ps := ["request"]) fun _ _ _ _ _ _ us hl => match us, hl with | [_], _ => rfl
  have F_is_alone := fun_mk (st := s_is_alone) l_is_alone c_is_alone k_is_alone
  have b_is_alone := F_is_alone.binds (ps := ["request"]) fun _ _ _ _ _ _ us hl => match us, hl with | [_], _ => rfl
  have F_ends_with_row := fun_mk (st := s_ends_with_row) l_ends_with_row c_ends_with_row k_ends_with_row
  have b_ends_with_row := F_ends_with_row.binds (ps := ["request", "k", "size"]) fun _ _ _ _ _ _ us hl => match us, hl with | [_, _, _], _ => rfl
  have F_is_write_of_coils := fun_mk (st := s_is_write_of_coils) l_is_write_of_coils c_is_write_of_coils k_is_write_of_coils
  have b_is_write_of_coils := F_is_write_of_coils.binds (ps := ["request"]) fun _ _ _ _ _ _ us hl => match us, hl with | [_], _ => rfl
  have F_is_write_of_kept_row := fun_mk (st := s_is_write_of_kept_row) l_is_write_of_kept_row c_is_write_of_kept_row k_is_write_of_kept_row
  have b_is_write_of_kept_row := F_is_write_of_kept_row.binds (ps := ["request"]) fun _ _ _ _ _ _ us hl => match us, hl with | [_], _ => rfl
  have F_is_write_and_read := fun_mk (st := s_is_write_and_read) l_is_write_and_read c_is_write_and_read k_is_write_and_read
  have b_is_write_and_read := F_is_write_and_read.binds (ps := ["request"]) fun _ _ _ _ _ _ us hl => match us, hl with | [_], _ => rfl
  have F_is_known_check := fun_mk (st := s_is_known_check) l_is_known_check c_is_known_check k_is_known_check
  have b_is_known_check := F_is_known_check.binds (ps := ["check"]) fun _ _ _ _ _ _ us hl => match us, hl with | [_], _ => rfl
  have F_is_check := fun_mk (st := s_is_check) l_is_check c_is_check k_is_check
  have b_is_check := F_is_check.binds (ps := ["request"]) fun _ _ _ _ _ _ us hl => match us, hl with | [_], _ => rfl
  have F_is_known := fun_mk (st := s_is_known) l_is_known c_is_known k_is_known
  have b_is_known := F_is_known.binds (ps := ["request"]) fun _ _ _ _ _ _ us hl => match us, hl with | [_], _ => rfl
  have F_has_right_form := fun_mk (st := s_has_right_form) l_has_right_form c_has_right_form k_has_right_form
  have b_has_right_form := F_has_right_form.binds (ps := ["request"]) fun _ _ _ _ _ _ us hl => match us, hl with | [_], _ => rfl
  have F_table_read_by := fun_mk (st := s_table_read_by) l_table_read_by c_table_read_by k_table_read_by
  have b_table_read_by := F_table_read_by.binds (ps := ["function"]) fun _ _ _ _ _ _ us hl => match us, hl with | [_], _ => rfl
  have F_spans_of := fun_mk (st := s_spans_of) l_spans_of c_spans_of k_spans_of
  have b_spans_of := F_spans_of.binds (ps := ["request"]) fun _ _ _ _ _ _ us hl => match us, hl with | [_], _ => rfl
  have F_reason_against := fun_mk (st := s_reason_against) l_reason_against c_reason_against k_reason_against
  have b_reason_against := F_reason_against.binds (ps := ["device", "request"]) fun _ _ _ _ _ _ us hl => match us, hl with | [_, _], _ => rfl
  have F_count_bounds := fun_mk (st := s_count_bounds) l_count_bounds c_count_bounds k_count_bounds
  have b_count_bounds := F_count_bounds.binds (ps := ["function"]) fun _ _ _ _ _ _ us hl => match us, hl with | [_], _ => rfl
  have F_places_reached := fun_mk (st := s_places_reached) l_places_reached c_places_reached k_places_reached
  have b_places_reached := F_places_reached.binds (ps := ["function", "count"]) fun _ _ _ _ _ _ us hl => match us, hl with | [_, _], _ => rfl
  have F_may_be_asked := fun_mk (st := s_may_be_asked) l_may_be_asked c_may_be_asked k_may_be_asked
  have b_may_be_asked := F_may_be_asked.binds (ps := ["function", "at", "count"]) fun _ _ _ _ _ _ us hl => match us, hl with | [_, _, _], _ => rfl
  have F_numbers_behind_place := fun_mk (st := s_numbers_behind_place) l_numbers_behind_place c_numbers_behind_place k_numbers_behind_place
  have b_numbers_behind_place := F_numbers_behind_place.binds (ps := ["function", "count", "values"]) fun _ _ _ _ _ _ us hl => match us, hl with | [_, _, _], _ => rfl
  have F_row_behind_numbers := fun_mk (st := s_row_behind_numbers) l_row_behind_numbers c_row_behind_numbers k_row_behind_numbers
  have b_row_behind_numbers := F_row_behind_numbers.binds (ps := ["function", "values"]) fun _ _ _ _ _ _ us hl => match us, hl with | [_, _], _ => rfl
  have F_ask := fun_mk (st := s_ask) l_ask c_ask k_ask
  have b_ask := F_ask.binds (ps := ["function", "at", "count", "values"]) fun _ _ _ _ _ _ us hl => match us, hl with | [_, _, _, _], _ => rfl
  have F_tells_refusal := fun_mk (st := s_tells_refusal) l_tells_refusal c_tells_refusal k_tells_refusal
  have b_tells_refusal := F_tells_refusal.binds (ps := ["request", "answer"]) fun _ _ _ _ _ _ us hl => match us, hl with | [_, _], _ => rfl
  have F_read_values := fun_mk (st := s_read_values) l_read_values c_read_values k_read_values
  have b_read_values := F_read_values.binds (ps := ["request", "answer"]) fun _ _ _ _ _ _ us hl => match us, hl with | [_, _], _ => rfl
  have F_is_confirmed := fun_mk (st := s_is_confirmed) l_is_confirmed c_is_confirmed k_is_confirmed
  have b_is_confirmed := F_is_confirmed.binds (ps := ["request", "answer"]) fun _ _ _ _ _ _ us hl => match us, hl with | [_, _], _ => rfl
  have F_read := fun_mk (st := s_read) l_read c_read k_read
  have b_read := F_read.binds (ps := ["request", "answer"]) fun _ _ _ _ _ _ us hl => match us, hl with | [_, _], _ => rfl
  have F_read_bits := fun_mk (st := s_read_bits) l_read_bits c_read_bits k_read_bits
  have b_read_bits := F_read_bits.binds (ps := ["device", "request"]) fun _ _ _ _ _ _ us hl => match us, hl with | [_, _], _ => rfl
  have F_answer_with_numbers := fun_mk (st := s_answer_with_numbers) l_answer_with_numbers c_answer_with_numbers k_answer_with_numbers
  have b_answer_with_numbers := F_answer_with_numbers.binds (ps := ["device", "request", "table"]) fun _ _ _ _ _ _ us hl => match us, hl with | [_, _, _], _ => rfl
  have F_read_numbers := fun_mk (st := s_read_numbers) l_read_numbers c_read_numbers k_read_numbers
  have b_read_numbers := F_read_numbers.binds (ps := ["device", "request"]) fun _ _ _ _ _ _ us hl => match us, hl with | [_, _], _ => rfl
  have F_write_coil := fun_mk (st := s_write_coil) l_write_coil c_write_coil k_write_coil
  have b_write_coil := F_write_coil.binds (ps := ["device", "request"]) fun _ _ _ _ _ _ us hl => match us, hl with | [_, _], _ => rfl
  have F_write_kept := fun_mk (st := s_write_kept) l_write_kept c_write_kept k_write_kept
  have b_write_kept := F_write_kept.binds (ps := ["device", "request"]) fun _ _ _ _ _ _ us hl => match us, hl with | [_, _], _ => rfl
  have F_mask_kept := fun_mk (st := s_mask_kept) l_mask_kept c_mask_kept k_mask_kept
  have b_mask_kept := F_mask_kept.binds (ps := ["device", "request"]) fun _ _ _ _ _ _ us hl => match us, hl with | [_, _], _ => rfl
  have F_write_coils := fun_mk (st := s_write_coils) l_write_coils c_write_coils k_write_coils
  have b_write_coils := F_write_coils.binds (ps := ["device", "request"]) fun _ _ _ _ _ _ us hl => match us, hl with | [_, _], _ => rfl
  have F_write_kept_row := fun_mk (st := s_write_kept_row) l_write_kept_row c_write_kept_row k_write_kept_row
  have b_write_kept_row := F_write_kept_row.binds (ps := ["device", "request"]) fun _ _ _ _ _ _ us hl => match us, hl with | [_, _], _ => rfl
  have F_write_and_read := fun_mk (st := s_write_and_read) l_write_and_read c_write_and_read k_write_and_read
  have b_write_and_read := F_write_and_read.binds (ps := ["device", "request"]) fun _ _ _ _ _ _ us hl => match us, hl with | [_, _], _ => rfl
  have F_read_status := fun_mk (st := s_read_status) l_read_status c_read_status k_read_status
  have b_read_status := F_read_status.binds (ps := ["device", "request"]) fun _ _ _ _ _ _ us hl => match us, hl with | [_, _], _ => rfl
  have F_read_went_well := fun_mk (st := s_read_went_well) l_read_went_well c_read_went_well k_read_went_well
  have b_read_went_well := F_read_went_well.binds (ps := ["device", "request"]) fun _ _ _ _ _ _ us hl => match us, hl with | [_, _], _ => rfl
  have F_check_device := fun_mk (st := s_check_device) l_check_device c_check_device k_check_device
  have b_check_device := F_check_device.binds (ps := ["device", "request"]) fun _ _ _ _ _ _ us hl => match us, hl with | [_, _], _ => rfl
  have F_carry_out := fun_mk (st := s_carry_out) l_carry_out c_carry_out k_carry_out
  have b_carry_out := F_carry_out.binds (ps := ["device", "request"]) fun _ _ _ _ _ _ us hl => match us, hl with | [_, _], _ => rfl
  have F_crc := fun_mk (st := s_crc) l_crc c_crc k_crc
  have b_crc := F_crc.binds (ps := ["row"]) fun _ _ _ _ _ _ us hl => match us, hl with | [_], _ => rfl
  have F_lrc := fun_mk (st := s_lrc) l_lrc c_lrc k_lrc
  have b_lrc := F_lrc.binds (ps := ["row"]) fun _ _ _ _ _ _ us hl => match us, hl with | [_], _ => rfl
  have F_take_request := fun_mk (st := s_take_request) l_take_request c_take_request k_take_request
  have b_take_request := F_take_request.binds (ps := ["device", "unit", "request"]) fun _ _ _ _ _ _ us hl => match us, hl with | [_, _, _], _ => rfl
  have F_crc_bytes := fun_mk (st := s_crc_bytes) l_crc_bytes c_crc_bytes k_crc_bytes
  have b_crc_bytes := F_crc_bytes.binds (ps := ["row"]) fun _ _ _ _ _ _ us hl => match us, hl with | [_], _ => rfl
  have F_rtu_frame := fun_mk (st := s_rtu_frame) l_rtu_frame c_rtu_frame k_rtu_frame
  have b_rtu_frame := F_rtu_frame.binds (ps := ["row"]) fun _ _ _ _ _ _ us hl => match us, hl with | [_], _ => rfl
  have F_is_rtu_frame := fun_mk (st := s_is_rtu_frame) l_is_rtu_frame c_is_rtu_frame k_is_rtu_frame
  have b_is_rtu_frame := F_is_rtu_frame.binds (ps := ["frame"]) fun _ _ _ _ _ _ us hl => match us, hl with | [_], _ => rfl
  have F_answer_rtu := fun_mk (st := s_answer_rtu) l_answer_rtu c_answer_rtu k_answer_rtu
  have b_answer_rtu := F_answer_rtu.binds (ps := ["device", "frame"]) fun _ _ _ _ _ _ us hl => match us, hl with | [_, _], _ => rfl
  have F_digit_value := fun_mk (st := s_digit_value) l_digit_value c_digit_value k_digit_value
  have b_digit_value := F_digit_value.binds (ps := ["sign"]) fun _ _ _ _ _ _ us hl => match us, hl with | [_], _ => rfl
  have F_digit_sign := fun_mk (st := s_digit_sign) l_digit_sign c_digit_sign k_digit_sign
  have b_digit_sign := F_digit_sign.binds (ps := ["value"]) fun _ _ _ _ _ _ us hl => match us, hl with | [_], _ => rfl
  have F_ascii_frame := fun_mk (st := s_ascii_frame) l_ascii_frame c_ascii_frame k_ascii_frame
  have b_ascii_frame := F_ascii_frame.binds (ps := ["row"]) fun _ _ _ _ _ _ us hl => match us, hl with | [_], _ => rfl
  have F_bytes_of_digits := fun_mk (st := s_bytes_of_digits) l_bytes_of_digits c_bytes_of_digits k_bytes_of_digits
  have b_bytes_of_digits := F_bytes_of_digits.binds (ps := ["signs"]) fun _ _ _ _ _ _ us hl => match us, hl with | [_], _ => rfl
  have F_bytes_of_line := fun_mk (st := s_bytes_of_line) l_bytes_of_line c_bytes_of_line k_bytes_of_line
  have b_bytes_of_line := F_bytes_of_line.binds (ps := ["signs"]) fun _ _ _ _ _ _ us hl => match us, hl with | [_], _ => rfl
  have F_answer_ascii := fun_mk (st := s_answer_ascii) l_answer_ascii c_answer_ascii k_answer_ascii
  have b_answer_ascii := F_answer_ascii.binds (ps := ["device", "signs"]) fun _ _ _ _ _ _ us hl => match us, hl with | [_, _], _ => rfl
  have F_is_tcp_frame := fun_mk (st := s_is_tcp_frame) l_is_tcp_frame c_is_tcp_frame k_is_tcp_frame
  have b_is_tcp_frame := F_is_tcp_frame.binds (ps := ["frame"]) fun _ _ _ _ _ _ us hl => match us, hl with | [_], _ => rfl
  have F_answer_tcp := fun_mk (st := s_answer_tcp) l_answer_tcp c_answer_tcp k_answer_tcp
  have b_answer_tcp := F_answer_tcp.binds (ps := ["device", "frame"]) fun _ _ _ _ _ _ us hl => match us, hl with | [_, _], _ => rfl
  have F_call_begin := fun_mk (st := s_call_begin) l_call_begin c_call_begin k_call_begin
  have b_call_begin := F_call_begin.binds (ps := ["device", "numbers", "rows"]) fun _ _ _ _ _ _ us hl => match us, hl with | [_, _, _], _ => rfl
  have F_call_set := fun_mk (st := s_call_set) l_call_set c_call_set k_call_set
  have b_call_set := F_call_set.binds (ps := ["device", "numbers", "rows"]) fun _ _ _ _ _ _ us hl => match us, hl with | [_, _, _], _ => rfl
  have F_call_get := fun_mk (st := s_call_get) l_call_get c_call_get k_call_get
  have b_call_get := F_call_get.binds (ps := ["device", "numbers", "rows"]) fun _ _ _ _ _ _ us hl => match us, hl with | [_, _, _], _ => rfl
  have F_call_pdu := fun_mk (st := s_call_pdu) l_call_pdu c_call_pdu k_call_pdu
  have b_call_pdu := F_call_pdu.binds (ps := ["device", "numbers", "rows"]) fun _ _ _ _ _ _ us hl => match us, hl with | [_, _, _], _ => rfl
  have F_call_rtu := fun_mk (st := s_call_rtu) l_call_rtu c_call_rtu k_call_rtu
  have b_call_rtu := F_call_rtu.binds (ps := ["device", "numbers", "rows"]) fun _ _ _ _ _ _ us hl => match us, hl with | [_, _, _], _ => rfl
  have F_call_ascii := fun_mk (st := s_call_ascii) l_call_ascii c_call_ascii k_call_ascii
  have b_call_ascii := F_call_ascii.binds (ps := ["device", "numbers", "rows"]) fun _ _ _ _ _ _ us hl => match us, hl with | [_, _, _], _ => rfl
  have F_call_tcp := fun_mk (st := s_call_tcp) l_call_tcp c_call_tcp k_call_tcp
  have b_call_tcp := F_call_tcp.binds (ps := ["device", "numbers", "rows"]) fun _ _ _ _ _ _ us hl => match us, hl with | [_, _, _], _ => rfl
  have F_call_counts := fun_mk (st := s_call_counts) l_call_counts c_call_counts k_call_counts
  have b_call_counts := F_call_counts.binds (ps := ["device", "numbers", "rows"]) fun _ _ _ _ _ _ us hl => match us, hl with | [_, _, _], _ => rfl
  have F_call_crc := fun_mk (st := s_call_crc) l_call_crc c_call_crc k_call_crc
  have b_call_crc := F_call_crc.binds (ps := ["device", "numbers", "rows"]) fun _ _ _ _ _ _ us hl => match us, hl with | [_, _, _], _ => rfl
  have F_call_lrc := fun_mk (st := s_call_lrc) l_call_lrc c_call_lrc k_call_lrc
  have b_call_lrc := F_call_lrc.binds (ps := ["device", "numbers", "rows"]) fun _ _ _ _ _ _ us hl => match us, hl with | [_, _, _], _ => rfl
  have F_call_ask := fun_mk (st := s_call_ask) l_call_ask c_call_ask k_call_ask
  have b_call_ask := F_call_ask.binds (ps := ["device", "numbers", "rows"]) fun _ _ _ _ _ _ us hl => match us, hl with | [_, _, _], _ => rfl
  have F_call_read := fun_mk (st := s_call_read) l_call_read c_call_read k_call_read
  have b_call_read := F_call_read.binds (ps := ["device", "numbers", "rows"]) fun _ _ _ _ _ _ us hl => match us, hl with | [_, _, _], _ => rfl
  have F_rows_from := fun_mk (st := s_rows_from) l_rows_from c_rows_from k_rows_from
  have b_rows_from := F_rows_from.binds (ps := ["calls", "at", "many"]) fun _ _ _ _ _ _ us hl => match us, hl with | [_, _, _], _ => rfl
  have F_answers := fun_mk (st := s_answers) l_answers c_answers k_answers
  have b_answers := F_answers.binds (ps := ["calls"]) fun _ _ _ _ _ _ us hl => match us, hl with | [_], _ => rfl
  have O_clear_tallies := fun base : Heap => ok_clear_tallies (P := P) (w := w) (base := base) F_clear_tallies T 
  have m_clear_tallies := fun base : Heap => met_mk (m := "clear_tallies") (q := "Device.clear_tallies") T.cl ⟨a_clear_tallies, i_clear_tallies, k_clear_tallies⟩ b_clear_tallies (O_clear_tallies base)
  have O_begin := fun base : Heap => ok_begin (P := P) (w := w) (base := base) F_begin T (m_clear_tallies base)
  have m_begin := fun base : Heap => met_mk (m := "begin") (q := "Device.begin") T.cl ⟨a_begin, i_begin, k_begin⟩ b_begin (O_begin base)
  have O_call_begin := fun base : Heap => ok_call_begin (P := P) (w := w) (base := base) F_call_begin T (m_begin base)
  have m_call_begin := fun base : Heap => cal_mk F_call_begin (PySem.W.mg_of X G a_call_begin) b_call_begin (O_call_begin base)
  have O_has_places := fun base : Heap => ok_has_places (P := P) (w := w) (base := base) F_has_places T 
  have m_has_places := fun base : Heap => met_mk (m := "has_places") (q := "Device.has_places") T.cl ⟨a_has_places, i_has_places, k_has_places⟩ b_has_places (O_has_places base)
  have O_get_value := fun base : Heap => ok_get_value (P := P) (w := w) (base := base) F_get_value T (m_has_places base)
  have m_get_value := fun base : Heap => met_mk (m := "get_value") (q := "Device.get_value") T.cl ⟨a_get_value, i_get_value, k_get_value⟩ b_get_value (O_get_value base)
  have O_call_get := fun base : Heap => ok_call_get (P := P) (w := w) (base := base) F_call_get T (m_get_value base)
  have m_call_get := fun base : Heap => cal_mk F_call_get (PySem.W.mg_of X G a_call_get) b_call_get (O_call_get base)
  have O_set_value := fun base : Heap => ok_set_value (P := P) (w := w) (base := base) F_set_value T (m_has_places base)
  have m_set_value := fun base : Heap => met_mk (m := "set_value") (q := "Device.set_value") T.cl ⟨a_set_value, i_set_value, k_set_value⟩ b_set_value (O_set_value base)
  have O_call_set := fun base : Heap => ok_call_set (P := P) (w := w) (base := base) F_call_set T (m_set_value base)
  have m_call_set := fun base : Heap => cal_mk F_call_set (PySem.W.mg_of X G a_call_set) b_call_set (O_call_set base)
  have O_counted := fun base : Heap => ok_counted (P := P) (w := w) (base := base) F_counted T 
  have m_counted := fun base : Heap => cal_mk F_counted (PySem.W.mg_of X G a_counted) b_counted (O_counted base)
  have O_row_at := fun base : Heap => ok_row_at (P := P) (w := w) (base := base) F_row_at T 
  have m_row_at := fun base : Heap => met_mk (m := "row_at") (q := "Device.row_at") T.cl ⟨a_row_at, i_row_at, k_row_at⟩ b_row_at (O_row_at base)
  have O_number_at := fun base : Heap => ok_number_at (P := P) (w := w) (base := base) F_number_at T 
  have m_number_at := fun base : Heap => cal_mk F_number_at (PySem.W.mg_of X G a_number_at) b_number_at (O_number_at base)
  have O_table_read_by := fun base : Heap => ok_table_read_by (P := P) (w := w) (base := base) F_table_read_by T 
  have m_table_read_by := fun base : Heap => cal_mk F_table_read_by (PySem.W.mg_of X G a_table_read_by) b_table_read_by (O_table_read_by base)
  have O_bytes_for_bits := fun base : Heap => ok_bytes_for_bits (P := P) (w := w) (base := base) F_bytes_for_bits T 
  have m_bytes_for_bits := fun base : Heap => cal_mk F_bytes_for_bits (PySem.W.mg_of X G a_bytes_for_bits) b_bytes_for_bits (O_bytes_for_bits base)
  have O_bytes_of_bits := fun base : Heap => ok_bytes_of_bits (P := P) (w := w) (base := base) F_bytes_of_bits T (m_bytes_for_bits base)
  have m_bytes_of_bits := fun base : Heap => cal_mk F_bytes_of_bits (PySem.W.mg_of X G a_bytes_of_bits) b_bytes_of_bits (O_bytes_of_bits base)
  have O_read_bits := fun base : Heap => ok_read_bits (P := P) (w := w) (base := base) F_read_bits T (m_counted base) (m_row_at base) (m_number_at base) (m_table_read_by base) (m_bytes_of_bits base)
  have m_read_bits := fun base : Heap => cal_mk F_read_bits (PySem.W.mg_of X G a_read_bits) b_read_bits (O_read_bits base)
  have O_bytes_of_numbers := fun base : Heap => ok_bytes_of_numbers (P := P) (w := w) (base := base) F_bytes_of_numbers T 
  have m_bytes_of_numbers := fun base : Heap => cal_mk F_bytes_of_numbers (PySem.W.mg_of X G a_bytes_of_numbers) b_bytes_of_numbers (O_bytes_of_numbers base)
  have O_answer_with_numbers := fun base : Heap => ok_answer_with_numbers (P := P) (w := w) (base := base) F_answer_with_numbers T (m_counted base) (m_row_at base) (m_number_at base) (m_bytes_of_numbers base)
  have m_answer_with_numbers := fun base : Heap => cal_mk F_answer_with_numbers (PySem.W.mg_of X G a_answer_with_numbers) b_answer_with_numbers (O_answer_with_numbers base)
  have O_read_numbers := fun base : Heap => ok_read_numbers (P := P) (w := w) (base := base) F_read_numbers T (m_answer_with_numbers base) (m_table_read_by base)
  have m_read_numbers := fun base : Heap => cal_mk F_read_numbers (PySem.W.mg_of X G a_read_numbers) b_read_numbers (O_read_numbers base)
  have O_put_row := fun base : Heap => ok_put_row (P := P) (w := w) (base := base) F_put_row T 
  have m_put_row := fun base : Heap => met_mk (m := "put_row") (q := "Device.put_row") T.cl ⟨a_put_row, i_put_row, k_put_row⟩ b_put_row (O_put_row base)
  have O_write_coil := fun base : Heap => ok_write_coil (P := P) (w := w) (base := base) F_write_coil T (m_number_at base) (m_put_row base)
  have m_write_coil := fun base : Heap => cal_mk F_write_coil (PySem.W.mg_of X G a_write_coil) b_write_coil (O_write_coil base)
  have O_write_kept := fun base : Heap => ok_write_kept (P := P) (w := w) (base := base) F_write_kept T (m_number_at base) (m_put_row base)
  have m_write_kept := fun base : Heap => cal_mk F_write_kept (PySem.W.mg_of X G a_write_kept) b_write_kept (O_write_kept base)
  have O_read_status := fun base : Heap => ok_read_status (P := P) (w := w) (base := base) F_read_status T (m_row_at base)
  have m_read_status := fun base : Heap => cal_mk F_read_status (PySem.W.mg_of X G a_read_status) b_read_status (O_read_status base)
  have O_check_device := fun base : Heap => ok_check_device (P := P) (w := w) (base := base) F_check_device T (m_number_at base) (m_clear_tallies base) (m_bytes_of_numbers base)
  have m_check_device := fun base : Heap => cal_mk F_check_device (PySem.W.mg_of X G a_check_device) b_check_device (O_check_device base)
  have O_read_went_well := fun base : Heap => ok_read_went_well (P := P) (w := w) (base := base) F_read_went_well T (m_bytes_of_numbers base)
  have m_read_went_well := fun base : Heap => cal_mk F_read_went_well (PySem.W.mg_of X G a_read_went_well) b_read_went_well (O_read_went_well base)
  have O_bits_of_bytes := fun base : Heap => ok_bits_of_bytes (P := P) (w := w) (base := base) F_bits_of_bytes T 
  have m_bits_of_bytes := fun base : Heap => cal_mk F_bits_of_bytes (PySem.W.mg_of X G a_bits_of_bytes) b_bits_of_bytes (O_bits_of_bytes base)
  have O_write_coils := fun base : Heap => ok_write_coils (P := P) (w := w) (base := base) F_write_coils T (m_number_at base) (m_bits_of_bytes base) (m_put_row base)
  have m_write_coils := fun base : Heap => cal_mk F_write_coils (PySem.W.mg_of X G a_write_coils) b_write_coils (O_write_coils base)
  have O_numbers_of_bytes := fun base : Heap => ok_numbers_of_bytes (P := P) (w := w) (base := base) F_numbers_of_bytes T (m_number_at base)
  have m_numbers_of_bytes := fun base : Heap => cal_mk F_numbers_of_bytes (PySem.W.mg_of X G a_numbers_of_bytes) b_numbers_of_bytes (O_numbers_of_bytes base)
  have O_write_kept_row := fun base : Heap => ok_write_kept_row (P := P) (w := w) (base := base) F_write_kept_row T (m_number_at base) (m_numbers_of_bytes base) (m_put_row base)
  have m_write_kept_row := fun base : Heap => cal_mk F_write_kept_row (PySem.W.mg_of X G a_write_kept_row) b_write_kept_row (O_write_kept_row base)
  have O_mask_kept := fun base : Heap => ok_mask_kept (P := P) (w := w) (base := base) F_mask_kept T (m_number_at base) (m_get_value base) (m_put_row base)
  have m_mask_kept := fun base : Heap => cal_mk F_mask_kept (PySem.W.mg_of X G a_mask_kept) b_mask_kept (O_mask_kept base)
  have O_write_and_read := fun base : Heap => ok_write_and_read (P := P) (w := w) (base := base) F_write_and_read T (m_number_at base) (m_numbers_of_bytes base) (m_put_row base) (m_answer_with_numbers base)
  have m_write_and_read := fun base : Heap => cal_mk F_write_and_read (PySem.W.mg_of X G a_write_and_read) b_write_and_read (O_write_and_read base)
  have hC : ∀ base : Heap, HCarr P w K mg base A := fun base => { bits := held_up (held_mk F_read_bits b_read_bits (O_read_bits base)) (by decide), nums := held_up (held_mk F_read_numbers b_read_numbers (O_read_numbers base)) (by decide), coil := held_up (held_mk F_write_coil b_write_coil (O_write_coil base)) (by decide), kept := held_up (held_mk F_write_kept b_write_kept (O_write_kept base)) (by decide), status := held_up (held_mk F_read_status b_read_status (O_read_status base)) (by decide), check := held_up (held_mk F_check_device b_check_device (O_check_device base)) (by decide), went := held_up (held_mk F_read_went_well b_read_went_well (O_read_went_well base)) (by decide), coils := held_up (held_mk F_write_coils b_write_coils (O_write_coils base)) (by decide), row := held_up (held_mk F_write_kept_row b_write_kept_row (O_write_kept_row base)) (by decide), mask := held_up (held_mk F_mask_kept b_mask_kept (O_mask_kept base)) (by decide), both := held_up (held_mk F_write_and_read b_write_and_read (O_write_and_read base)) (by decide) }
  have O_is_read_of_bits := fun base : Heap => ok_is_read_of_bits (P := P) (w := w) (base := base) F_is_read_of_bits T (m_number_at base)
  have m_is_read_of_bits := fun base : Heap => cal_mk F_is_read_of_bits (PySem.W.mg_of X G a_is_read_of_bits) b_is_read_of_bits (O_is_read_of_bits base)
  have O_is_read_of_numbers := fun base : Heap => ok_is_read_of_numbers (P := P) (w := w) (base := base) F_is_read_of_numbers T (m_number_at base)
  have m_is_read_of_numbers := fun base : Heap => cal_mk F_is_read_of_numbers (PySem.W.mg_of X G a_is_read_of_numbers) b_is_read_of_numbers (O_is_read_of_numbers base)
  have O_is_write_of_coil := fun base : Heap => ok_is_write_of_coil (P := P) (w := w) (base := base) F_is_write_of_coil T (m_number_at base)
  have m_is_write_of_coil := fun base : Heap => cal_mk F_is_write_of_coil (PySem.W.mg_of X G a_is_write_of_coil) b_is_write_of_coil (O_is_write_of_coil base)
  have O_is_write_of_kept := fun base : Heap => ok_is_write_of_kept (P := P) (w := w) (base := base) F_is_write_of_kept T 
  have m_is_write_of_kept := fun base : Heap => cal_mk F_is_write_of_kept (PySem.W.mg_of X G a_is_write_of_kept) b_is_write_of_kept (O_is_write_of_kept base)
  have O_is_alone := fun base : Heap => ok_is_alone (P := P) (w := w) (base := base) F_is_alone T 
  have m_is_alone := fun base : Heap => cal_mk F_is_alone (PySem.W.mg_of X G a_is_alone) b_is_alone (O_is_alone base)
  have O_is_check := fun base : Heap => ok_is_check (P := P) (w := w) (base := base) F_is_check T (m_number_at base)
  have m_is_check := fun base : Heap => cal_mk F_is_check (PySem.W.mg_of X G a_is_check) b_is_check (O_is_check base)
  have O_ends_with_row := fun base : Heap => ok_ends_with_row (P := P) (w := w) (base := base) F_ends_with_row T 
  have m_ends_with_row := fun base : Heap => cal_mk F_ends_with_row (PySem.W.mg_of X G a_ends_with_row) b_ends_with_row (O_ends_with_row base)
  have O_is_write_of_coils := fun base : Heap => ok_is_write_of_coils (P := P) (w := w) (base := base) F_is_write_of_coils T (m_number_at base) (m_ends_with_row base) (m_bytes_for_bits base)
  have m_is_write_of_coils := fun base : Heap => cal_mk F_is_write_of_coils (PySem.W.mg_of X G a_is_write_of_coils) b_is_write_of_coils (O_is_write_of_coils base)
  have O_is_write_of_kept_row := fun base : Heap => ok_is_write_of_kept_row (P := P) (w := w) (base := base) F_is_write_of_kept_row T (m_number_at base) (m_ends_with_row base)
  have m_is_write_of_kept_row := fun base : Heap => cal_mk F_is_write_of_kept_row (PySem.W.mg_of X G a_is_write_of_kept_row) b_is_write_of_kept_row (O_is_write_of_kept_row base)
  have O_is_mask_of_kept := fun base : Heap => ok_is_mask_of_kept (P := P) (w := w) (base := base) F_is_mask_of_kept T 
  have m_is_mask_of_kept := fun base : Heap => cal_mk F_is_mask_of_kept (PySem.W.mg_of X G a_is_mask_of_kept) b_is_mask_of_kept (O_is_mask_of_kept base)
  have O_is_write_and_read := fun base : Heap => ok_is_write_and_read (P := P) (w := w) (base := base) F_is_write_and_read T (m_number_at base) (m_ends_with_row base)
  have m_is_write_and_read := fun base : Heap => cal_mk F_is_write_and_read (PySem.W.mg_of X G a_is_write_and_read) b_is_write_and_read (O_is_write_and_read base)
  have hF : ∀ base : Heap, HForms P w K mg base A := fun base => { bits := held_up (held_mk F_is_read_of_bits b_is_read_of_bits (O_is_read_of_bits base)) (by decide), nums := held_up (held_mk F_is_read_of_numbers b_is_read_of_numbers (O_is_read_of_numbers base)) (by decide), coil := held_up (held_mk F_is_write_of_coil b_is_write_of_coil (O_is_write_of_coil base)) (by decide), kept := held_up (held_mk F_is_write_of_kept b_is_write_of_kept (O_is_write_of_kept base)) (by decide), alone := held_up (held_mk F_is_alone b_is_alone (O_is_alone base)) (by decide), check := held_up (held_mk F_is_check b_is_check (O_is_check base)) (by decide), coils := held_up (held_mk F_is_write_of_coils b_is_write_of_coils (O_is_write_of_coils base)) (by decide), row := held_up (held_mk F_is_write_of_kept_row b_is_write_of_kept_row (O_is_write_of_kept_row base)) (by decide), mask := held_up (held_mk F_is_mask_of_kept b_is_mask_of_kept (O_is_mask_of_kept base)) (by decide), both := held_up (held_mk F_is_write_and_read b_is_write_and_read (O_is_write_and_read base)) (by decide) }
  have O_has_right_form := fun base : Heap => ok_has_right_form (P := P) (w := w) (base := base) F_has_right_form T (hF base)
  have m_has_right_form := fun base : Heap => cal_mk F_has_right_form (PySem.W.mg_of X G a_has_right_form) b_has_right_form (O_has_right_form base)
  have O_is_known_check := fun base : Heap => ok_is_known_check (P := P) (w := w) (base := base) F_is_known_check T 
  have m_is_known_check := fun base : Heap => cal_mk F_is_known_check (PySem.W.mg_of X G a_is_known_check) b_is_known_check (O_is_known_check base)
  have O_is_known := fun base : Heap => ok_is_known (P := P) (w := w) (base := base) F_is_known T (m_number_at base) (m_is_known_check base)
  have m_is_known := fun base : Heap => cal_mk F_is_known (PySem.W.mg_of X G a_is_known) b_is_known (O_is_known base)
  have O_spans_of := fun base : Heap => ok_spans_of (P := P) (w := w) (base := base) F_spans_of T (m_number_at base) (m_table_read_by base)
  have m_spans_of := fun base : Heap => cal_mk F_spans_of (PySem.W.mg_of X G a_spans_of) b_spans_of (O_spans_of base)
  have O_reason_against := fun base : Heap => ok_reason_against (P := P) (w := w) (base := base) F_reason_against T (m_has_right_form base) (m_is_known base) (m_spans_of base) (m_has_places base)
  have m_reason_against := fun base : Heap => cal_mk F_reason_against (PySem.W.mg_of X G a_reason_against) b_reason_against (O_reason_against base)
  have O_tally := fun base : Heap => ok_tally (P := P) (w := w) (base := base) F_tally T 
  have m_tally := fun base : Heap => met_mk (m := "tally") (q := "Device.tally") T.cl ⟨a_tally, i_tally, k_tally⟩ b_tally (O_tally base)
  have O_carry_out := fun base : Heap => ok_carry_out (P := P) (w := w) (base := base) F_carry_out T (hC base) (m_reason_against base) (m_tally base)
  have m_carry_out := fun base : Heap => cal_mk F_carry_out (PySem.W.mg_of X G a_carry_out) b_carry_out (O_carry_out base)
  have O_call_pdu := fun base : Heap => ok_call_pdu (P := P) (w := w) (base := base) F_call_pdu T (m_counted base) (m_carry_out base)
  have m_call_pdu := fun base : Heap => cal_mk F_call_pdu (PySem.W.mg_of X G a_call_pdu) b_call_pdu (O_call_pdu base)
  have O_crc := fun base : Heap => ok_crc (P := P) (w := w) (base := base) F_crc T 
  have m_crc := fun base : Heap => cal_mk F_crc (PySem.W.mg_of X G a_crc) b_crc (O_crc base)
  have O_crc_bytes := fun base : Heap => ok_crc_bytes (P := P) (w := w) (base := base) F_crc_bytes T (m_crc base) (m_bytes_of_numbers base)
  have m_crc_bytes := fun base : Heap => cal_mk F_crc_bytes (PySem.W.mg_of X G a_crc_bytes) b_crc_bytes (O_crc_bytes base)
  have O_is_rtu_frame := fun base : Heap => ok_is_rtu_frame (P := P) (w := w) (base := base) F_is_rtu_frame T (m_crc_bytes base)
  have m_is_rtu_frame := fun base : Heap => cal_mk F_is_rtu_frame (PySem.W.mg_of X G a_is_rtu_frame) b_is_rtu_frame (O_is_rtu_frame base)
  have O_take_request := fun base : Heap => ok_take_request (P := P) (w := w) (base := base) F_take_request T (m_tally base) (m_carry_out base)
  have m_take_request := fun base : Heap => cal_mk F_take_request (PySem.W.mg_of X G a_take_request) b_take_request (O_take_request base)
  have O_rtu_frame := fun base : Heap => ok_rtu_frame (P := P) (w := w) (base := base) F_rtu_frame T (m_crc_bytes base)
  have m_rtu_frame := fun base : Heap => cal_mk F_rtu_frame (PySem.W.mg_of X G a_rtu_frame) b_rtu_frame (O_rtu_frame base)
  have O_answer_rtu := fun base : Heap => ok_answer_rtu (P := P) (w := w) (base := base) F_answer_rtu T (m_is_rtu_frame base) (m_tally base) (m_take_request base) (m_rtu_frame base)
  have m_answer_rtu := fun base : Heap => cal_mk F_answer_rtu (PySem.W.mg_of X G a_answer_rtu) b_answer_rtu (O_answer_rtu base)
  have O_call_rtu := fun base : Heap => ok_call_rtu (P := P) (w := w) (base := base) F_call_rtu T (m_counted base) (m_answer_rtu base)
  have m_call_rtu := fun base : Heap => cal_mk F_call_rtu (PySem.W.mg_of X G a_call_rtu) b_call_rtu (O_call_rtu base)
  have O_digit_value := fun base : Heap => ok_digit_value (P := P) (w := w) (base := base) F_digit_value T 
  have m_digit_value := fun base : Heap => cal_mk F_digit_value (PySem.W.mg_of X G a_digit_value) b_digit_value (O_digit_value base)
  have O_bytes_of_digits := fun base : Heap => ok_bytes_of_digits (P := P) (w := w) (base := base) F_bytes_of_digits T (m_digit_value base)
  have m_bytes_of_digits := fun base : Heap => cal_mk F_bytes_of_digits (PySem.W.mg_of X G a_bytes_of_digits) b_bytes_of_digits (O_bytes_of_digits base)
  have O_bytes_of_line := fun base : Heap => ok_bytes_of_line (P := P) (w := w) (base := base) F_bytes_of_line T (m_bytes_of_digits base)
  have m_bytes_of_line := fun base : Heap => cal_mk F_bytes_of_line (PySem.W.mg_of X G a_bytes_of_line) b_bytes_of_line (O_bytes_of_line base)
  have O_lrc := fun base : Heap => ok_lrc (P := P) (w := w) (base := base) F_lrc T 
  have m_lrc := fun base : Heap => cal_mk F_lrc (PySem.W.mg_of X G a_lrc) b_lrc (O_lrc base)
  have O_digit_sign := fun base : Heap => ok_digit_sign (P := P) (w := w) (base := base) F_digit_sign T 
  have m_digit_sign := fun base : Heap => cal_mk F_digit_sign (PySem.W.mg_of X G a_digit_sign) b_digit_sign (O_digit_sign base)
  have O_ascii_frame := fun base : Heap => ok_ascii_frame (P := P) (w := w) (base := base) F_ascii_frame T (m_lrc base) (m_digit_sign base)
  have m_ascii_frame := fun base : Heap => cal_mk F_ascii_frame (PySem.W.mg_of X G a_ascii_frame) b_ascii_frame (O_ascii_frame base)
  have O_answer_ascii := fun base : Heap => ok_answer_ascii (P := P) (w := w) (base := base) F_answer_ascii T (m_bytes_of_line base) (m_lrc base) (m_tally base) (m_take_request base) (m_ascii_frame base)
  have m_answer_ascii := fun base : Heap => cal_mk F_answer_ascii (PySem.W.mg_of X G a_answer_ascii) b_answer_ascii (O_answer_ascii base)
  have O_call_ascii := fun base : Heap => ok_call_ascii (P := P) (w := w) (base := base) F_call_ascii T (m_counted base) (m_answer_ascii base)
  have m_call_ascii := fun base : Heap => cal_mk F_call_ascii (PySem.W.mg_of X G a_call_ascii) b_call_ascii (O_call_ascii base)
  have O_is_tcp_frame := fun base : Heap => ok_is_tcp_frame (P := P) (w := w) (base := base) F_is_tcp_frame T (m_number_at base)
  have m_is_tcp_frame := fun base : Heap => cal_mk F_is_tcp_frame (PySem.W.mg_of X G a_is_tcp_frame) b_is_tcp_frame (O_is_tcp_frame base)
  have O_answer_tcp := fun base : Heap => ok_answer_tcp (P := P) (w := w) (base := base) F_answer_tcp T (m_is_tcp_frame base) (m_tally base) (m_carry_out base) (m_bytes_of_numbers base)
  have m_answer_tcp := fun base : Heap => cal_mk F_answer_tcp (PySem.W.mg_of X G a_answer_tcp) b_answer_tcp (O_answer_tcp base)
  have O_call_tcp := fun base : Heap => ok_call_tcp (P := P) (w := w) (base := base) F_call_tcp T (m_counted base) (m_answer_tcp base)
  have m_call_tcp := fun base : Heap => cal_mk F_call_tcp (PySem.W.mg_of X G a_call_tcp) b_call_tcp (O_call_tcp base)
  have O_call_counts := fun base : Heap => ok_call_counts (P := P) (w := w) (base := base) F_call_counts T 
  have m_call_counts := fun base : Heap => cal_mk F_call_counts (PySem.W.mg_of X G a_call_counts) b_call_counts (O_call_counts base)
  have O_call_crc := fun base : Heap => ok_call_crc (P := P) (w := w) (base := base) F_call_crc T (m_crc base)
  have m_call_crc := fun base : Heap => cal_mk F_call_crc (PySem.W.mg_of X G a_call_crc) b_call_crc (O_call_crc base)
  have O_call_lrc := fun base : Heap => ok_call_lrc (P := P) (w := w) (base := base) F_call_lrc T (m_lrc base)
  have m_call_lrc := fun base : Heap => cal_mk F_call_lrc (PySem.W.mg_of X G a_call_lrc) b_call_lrc (O_call_lrc base)
  have O_count_bounds := fun base : Heap => ok_count_bounds (P := P) (w := w) (base := base) F_count_bounds T 
  have m_count_bounds := fun base : Heap => cal_mk F_count_bounds (PySem.W.mg_of X G a_count_bounds) b_count_bounds (O_count_bounds base)
  have O_places_reached := fun base : Heap => ok_places_reached (P := P) (w := w) (base := base) F_places_reached T 
  have m_places_reached := fun base : Heap => cal_mk F_places_reached (PySem.W.mg_of X G a_places_reached) b_places_reached (O_places_reached base)
  have O_may_be_asked := fun base : Heap => ok_may_be_asked (P := P) (w := w) (base := base) F_may_be_asked T (m_count_bounds base) (m_places_reached base)
  have m_may_be_asked := fun base : Heap => cal_mk F_may_be_asked (PySem.W.mg_of X G a_may_be_asked) b_may_be_asked (O_may_be_asked base)
  have O_numbers_behind_place := fun base : Heap => ok_numbers_behind_place (P := P) (w := w) (base := base) F_numbers_behind_place T 
  have m_numbers_behind_place := fun base : Heap => cal_mk F_numbers_behind_place (PySem.W.mg_of X G a_numbers_behind_place) b_numbers_behind_place (O_numbers_behind_place base)
  have O_row_behind_numbers := fun base : Heap => ok_row_behind_numbers (P := P) (w := w) (base := base) F_row_behind_numbers T (m_counted base) (m_bytes_of_bits base) (m_bytes_of_numbers base)
  have m_row_behind_numbers := fun base : Heap => cal_mk F_row_behind_numbers (PySem.W.mg_of X G a_row_behind_numbers) b_row_behind_numbers (O_row_behind_numbers base)
  have O_ask := fun base : Heap => ok_ask (P := P) (w := w) (base := base) F_ask T (m_may_be_asked base) (m_numbers_behind_place base) (m_row_behind_numbers base) (m_bytes_of_numbers base) (m_counted base)
  have m_ask := fun base : Heap => cal_mk F_ask (PySem.W.mg_of X G a_ask) b_ask (O_ask base)
  have O_call_ask := fun base : Heap => ok_call_ask (P := P) (w := w) (base := base) F_call_ask T (m_ask base)
  have m_call_ask := fun base : Heap => cal_mk F_call_ask (PySem.W.mg_of X G a_call_ask) b_call_ask (O_call_ask base)
  have O_tells_refusal := fun base : Heap => ok_tells_refusal (P := P) (w := w) (base := base) F_tells_refusal T 
  have m_tells_refusal := fun base : Heap => cal_mk F_tells_refusal (PySem.W.mg_of X G a_tells_refusal) b_tells_refusal (O_tells_refusal base)
  have O_read_values := fun base : Heap => ok_read_values (P := P) (w := w) (base := base) F_read_values T (m_has_right_form base) (m_number_at base) (m_bytes_for_bits base) (m_counted base) (m_bits_of_bytes base) (m_numbers_of_bytes base)
  have m_read_values := fun base : Heap => cal_mk F_read_values (PySem.W.mg_of X G a_read_values) b_read_values (O_read_values base)
  have O_is_confirmed := fun base : Heap => ok_is_confirmed (P := P) (w := w) (base := base) F_is_confirmed T 
  have m_is_confirmed := fun base : Heap => cal_mk F_is_confirmed (PySem.W.mg_of X G a_is_confirmed) b_is_confirmed (O_is_confirmed base)
  have O_read := fun base : Heap => ok_read (P := P) (w := w) (base := base) F_read T (m_tells_refusal base) (m_read_values base) (m_is_confirmed base)
  have m_read := fun base : Heap => cal_mk F_read (PySem.W.mg_of X G a_read) b_read (O_read base)
  have O_call_read := fun base : Heap => ok_call_read (P := P) (w := w) (base := base) F_call_read T (m_read base)
  have m_call_read := fun base : Heap => cal_mk F_call_read (PySem.W.mg_of X G a_call_read) b_call_read (O_call_read base)
  have hD : ∀ base : Heap, HDesk P w K mg base A := fun base => hdesk_mk T (held_up (held_mk F_call_begin b_call_begin (O_call_begin base)) (by decide)) (held_up (held_mk F_call_get b_call_get (O_call_get base)) (by decide)) (held_up (held_mk F_call_set b_call_set (O_call_set base)) (by decide)) (held_up (held_mk F_call_pdu b_call_pdu (O_call_pdu base)) (by decide)) (held_up (held_mk F_call_rtu b_call_rtu (O_call_rtu base)) (by decide)) (held_up (held_mk F_call_ascii b_call_ascii (O_call_ascii base)) (by decide)) (held_up (held_mk F_call_tcp b_call_tcp (O_call_tcp base)) (by decide)) (held_up (held_mk F_call_counts b_call_counts (O_call_counts base)) (by decide)) (held_up (held_mk F_call_crc b_call_crc (O_call_crc base)) (by decide)) (held_up (held_mk F_call_lrc b_call_lrc (O_call_lrc base)) (by decide)) (held_up (held_mk F_call_ask b_call_ask (O_call_ask base)) (by decide)) (held_up (held_mk F_call_read b_call_read (O_call_read base)) (by decide))
  have O___init__ := fun base : Heap => ok___init__ (P := P) (w := w) (base := base) F___init__ T 
  have m_Device := fun base : Heap => mak_mk (x := "Device") ⟨mk, a___init__, i___init__, kc⟩ T.g_Device b___init__ (O___init__ base)
  have O_rows_from := fun base : Heap => ok_rows_from (P := P) (w := w) (base := base) F_rows_from T 
  have m_rows_from := fun base : Heap => cal_mk F_rows_from (PySem.W.mg_of X G a_rows_from) b_rows_from (O_rows_from base)
  have O_answers := fun base : Heap => ok_answers (P := P) (w := w) (base := base) F_answers T (hD base) (m_Device base) (m_rows_from base) (m_counted base)
  have m_answers := fun base : Heap => cal_mk F_answers (PySem.W.mg_of X G a_answers) b_answers (O_answers base)
  exact ⟨_, fun s us hu => match us, hu with | [_], _ => .of_eq rfl, fun base _ _ => O_answers base⟩
end Bd
open PySem PySem.W PyProof.Rows
set_option maxRecDepth 100000 in
set_option maxHeartbeats 8000000 in
theorem PySem.Challenge.cw_bitdevice_s01_answers_holds : PySem.Challenge.rw_bitdevice_s01_answers.Holds := by
  w_on; k_headS; (case hw => exact ⟨[.list [.int 0, .int 1, .int 0, .int 0, .int 0, .int 0]], by decide +kernel, by decide +kernel⟩)
  k_fillS
  refine L2.walk_specK (r := PySem.Challenge.rw_bitdevice_s01_answers) (k := 9) (CX := L2.CX0) (ps := ["calls"]) (sp := Bd.sp_answers) (by decide +kernel) rfl rfl ⟨rfl, by decide, by decide⟩ (fun w h Y => PySem.W.kIn_of Y) ?F ?S (fun _ _ _ _ z => z)
  case F =>
    intro w mg fa h Y KX G hmg
    refine' Bd.all_mk KX G hmg ?aC ?pg ?hd ?po ?sa ?mk ?kc ?n_unit ?n_tables ?n_tallies ?a___init__ ?i___init__ ?l___init__ ?c___init__ ?k___init__ ?a_begin ?i_begin ?l_begin ?c_begin ?k_begin ?a_has_places ?i_has_places ?l_has_places ?c_has_places ?k_has_places ?a_set_value ?i_set_value ?l_set_value ?c_set_value ?k_set_value ?a_get_value ?i_get_value ?l_get_value ?c_get_value ?k_get_value ?a_row_at ?i_row_at ?l_row_at ?c_row_at ?k_row_at ?a_put_row ?i_put_row ?l_put_row ?c_put_row ?k_put_row ?a_tally ?i_tally ?l_tally ?c_tally ?k_tally ?a_clear_tallies ?i_clear_tallies ?l_clear_tallies ?c_clear_tallies ?k_clear_tallies ?a_number_at ?l_number_at ?c_number_at ?k_number_at ?a_bytes_of_numbers ?l_bytes_of_numbers ?c_bytes_of_numbers ?k_bytes_of_numbers ?a_numbers_of_bytes ?l_numbers_of_bytes ?c_numbers_of_bytes ?k_numbers_of_bytes ?a_counted ?l_counted ?c_counted ?k_counted ?a_bytes_for_bits ?l_bytes_for_bits ?c_bytes_for_bits ?k_bytes_for_bits ?a_bytes_of_bits ?l_bytes_of_bits ?c_bytes_of_bits ?k_bytes_of_bits ?a_bits_of_bytes ?l_bits_of_bytes ?c_bits_of_bytes ?k_bits_of_bytes ?a_is_read_of_bits ?l_is_read_of_bits ?c_is_read_of_bits ?k_is_read_of_bits ?a_is_read_of_numbers ?l_is_read_of_numbers ?c_is_read_of_numbers ?k_is_read_of_numbers ?a_is_write_of_coil ?l_is_write_of_coil ?c_is_write_of_coil ?k_is_write_of_coil ?a_is_write_of_kept ?l_is_write_of_kept ?c_is_write_of_kept ?k_is_write_of_kept ?a_is_mask_of_kept ?l_is_mask_of_kept ?c_is_mask_of_kept ?k_is_mask_of_kept ?a_is_alone ?l_is_alone ?c_is_alone ?k_is_alone ?a_ends_with_row ?l_ends_with_row ?c_ends_with_row ?k_ends_with_row ?a_is_write_of_coils ?l_is_write_of_coils ?c_is_write_of_coils ?k_is_write_of_coils ?a_is_write_of_kept_row ?l_is_write_of_kept_row ?c_is_write_of_kept_row ?k_is_write_of_kept_row ?a_is_write_and_read ?l_is_write_and_read ?c_is_write_and_read ?k_is_write_and_read ?a_is_known_check ?l_is_known_check ?c_is_known_check ?k_is_known_check ?a_is_check ?l_is_check ?c_is_check ?k_is_check ?a_is_known ?l_is_known ?c_is_known ?k_is_known ?a_has_right_form ?l_has_right_form ?c_has_right_form ?k_has_right_form ?a_table_read_by ?l_table_read_by ?c_table_read_by ?k_table_read_by ?a_spans_of ?l_spans_of ?c_spans_of ?k_spans_of ?a_reason_against ?l_reason_against ?c_reason_against ?k_reason_against ?a_count_bounds ?l_count_bounds ?c_count_bounds ?k_count_bounds ?a_places_reached ?l_places_reached ?c_places_reached ?k_places_reached ?a_may_be_asked ?l_may_be_asked ?c_may_be_asked ?k_may_be_asked ?a_numbers_behind_place ?l_numbers_behind_place ?c_numbers_behind_place ?k_numbers_behind_place ?a_row_behind_numbers ?l_row_behind_numbers ?c_row_behind_numbers ?k_row_behind_numbers ?a_ask ?l_ask ?c_ask ?k_ask ?a_tells_refusal ?l_tells_refusal ?c_tells_refusal ?k_tells_refusal ?a_read_values ?l_read_values ?c_read_values ?k_read_values ?a_is_confirmed ?l_is_confirmed ?c_is_confirmed ?k_is_confirmed ?a_read ?l_read ?c_read ?k_read ?a_read_bits ?l_read_bits ?c_read_bits ?k_read_bits ?a_answer_with_numbers ?l_answer_with_numbers ?c_answer_with_numbers ?k_answer_with_numbers ?a_read_numbers ?l_read_numbers ?c_read_numbers ?k_read_numbers ?a_write_coil ?l_write_coil ?c_write_coil ?k_write_coil ?a_write_kept ?l_write_kept ?c_write_kept ?k_write_kept ?a_mask_kept ?l_mask_kept ?c_mask_kept ?k_mask_kept ?a_write_coils ?l_write_coils ?c_write_coils ?k_write_coils ?a_write_kept_row ?l_write_kept_row ?c_write_kept_row ?k_write_kept_row ?a_write_and_read ?l_write_and_read ?c_write_and_read ?k_write_and_read ?a_read_status ?l_read_status ?c_read_status ?k_read_status ?a_read_went_well ?l_read_went_well ?c_read_went_well ?k_read_went_well ?a_check_device ?l_check_device ?c_check_device ?k_check_device ?a_carry_out ?l_carry_out ?c_carry_out ?k_carry_out ?a_crc ?l_crc ?c_crc ?k_crc ?a_lrc ?l_lrc ?c_lrc ?k_lrc ?a_take_request ?l_take_request ?c_take_request ?k_take_request ?a_crc_bytes ?l_crc_bytes ?c_crc_bytes ?k_crc_bytes ?a_rtu_frame ?l_rtu_frame ?c_rtu_frame ?k_rtu_frame ?a_is_rtu_frame ?l_is_rtu_frame ?c_is_rtu_frame ?k_is_rtu_frame ?a_answer_rtu ?l_answer_rtu ?c_answer_rtu ?k_answer_rtu ?a_digit_value ?l_digit_value ?c_digit_value ?k_digit_value ?a_digit_sign ?l_digit_sign ?c_digit_sign ?k_digit_sign ?a_ascii_frame ?l_ascii_frame ?c_ascii_frame ?k_ascii_frame ?a_bytes_of_digits ?l_bytes_of_digits ?c_bytes_of_digits ?k_bytes_of_digits ?a_bytes_of_line ?l_bytes_of_line ?c_bytes_of_line ?k_bytes_of_line ?a_answer_ascii ?l_answer_ascii ?c_answer_ascii ?k_answer_ascii ?a_is_tcp_frame ?l_is_tcp_frame ?c_is_tcp_frame ?k_is_tcp_frame ?a_answer_tcp ?l_answer_tcp ?c_answer_tcp ?k_answer_tcp ?a_call_begin ?l_call_begin ?c_call_begin ?k_call_begin ?a_call_set ?l_call_set ?c_call_set ?k_call_set ?a_call_get ?l_call_get ?c_call_get ?k_call_get ?a_call_pdu ?l_call_pdu ?c_call_pdu ?k_call_pdu ?a_call_rtu ?l_call_rtu ?c_call_rtu ?k_call_rtu ?a_call_ascii ?l_call_ascii ?c_call_ascii ?k_call_ascii ?a_call_tcp ?l_call_tcp ?c_call_tcp ?k_call_tcp ?a_call_counts ?l_call_counts ?c_call_counts ?k_call_counts ?a_call_crc ?l_call_crc ?c_call_crc ?k_call_crc ?a_call_lrc ?l_call_lrc ?c_call_lrc ?k_call_lrc ?a_call_ask ?l_call_ask ?c_call_ask ?k_call_ask ?a_call_read ?l_call_read ?c_call_read ?k_call_read ?a_rows_from ?l_rows_from ?c_rows_from ?k_rows_from ?a_answers ?l_answers ?c_answers ?k_answers ?a_OUT_OF_RANGE ?a_COILS ?a_INPUTS ?a_KEPT ?a_READ_ONLY ?a_GREATEST_VALUES ?l_GREATEST_VALUES ?v_GREATEST_VALUES ?z_GREATEST_VALUES ?a_GREATEST_SIZE ?a_FRAMES_RIGHT ?a_FRAMES_WRONG ?a_REFUSALS ?a_FRAMES_FOR_IT ?a_FRAMES_FOR_ALL ?a_WENT_WELL ?a_NO_REASON ?a_NO_SUCH_FUNCTION ?a_NO_SUCH_PLACE ?a_WRONG_FORM ?a_COIL_ON ?a_MOST_BITS_READ ?a_MOST_NUMBERS_READ ?a_MOST_COILS_WRITTEN ?a_MOST_KEPT_WRITTEN ?a_MOST_KEPT_WRITTEN_AND_READ ?a_ECHO ?a_CLEAR_COUNTS ?a_FIRST_COUNT ?a_LAST_COUNT ?a_FORMS ?l_FORMS ?t_FORMS ?w_FORMS ?a_UNFIT ?a_REFUSAL_TOLD ?a_GREATEST_PLACE ?a_UNCOUNTED ?l_UNCOUNTED ?v_UNCOUNTED ?z_UNCOUNTED ?a_CARRIERS ?l_CARRIERS ?t_CARRIERS ?w_CARRIERS ?a_FOR_ALL ?a_CARRIED_OUT_FOR_ALL ?l_CARRIED_OUT_FOR_ALL ?v_CARRIED_OUT_FOR_ALL ?z_CARRIED_OUT_FOR_ALL ?a_ANY_DEVICE ?l_ANY_DEVICE ?v_ANY_DEVICE ?z_ANY_DEVICE ?a_COLON ?a_LINE_END ?l_LINE_END ?v_LINE_END ?z_LINE_END ?a_NO_DIGIT ?a_MOST_SUMMED ?a_SHAPES ?l_SHAPES ?t_SHAPES ?w_SHAPES ?l_SHAPES_0 ?v_SHAPES_0 ?z_SHAPES_0 ?l_SHAPES_1 ?v_SHAPES_1 ?z_SHAPES_1 ?l_SHAPES_2 ?v_SHAPES_2 ?z_SHAPES_2 ?l_SHAPES_3 ?v_SHAPES_3 ?z_SHAPES_3 ?l_SHAPES_4 ?v_SHAPES_4 ?z_SHAPES_4 ?l_SHAPES_5 ?v_SHAPES_5 ?z_SHAPES_5 ?l_SHAPES_6 ?v_SHAPES_6 ?z_SHAPES_6 ?l_SHAPES_7 ?v_SHAPES_7 ?z_SHAPES_7 ?l_SHAPES_8 ?v_SHAPES_8 ?z_SHAPES_8 ?l_SHAPES_9 ?v_SHAPES_9 ?z_SHAPES_9 ?l_SHAPES_10 ?v_SHAPES_10 ?z_SHAPES_10 ?l_SHAPES_11 ?v_SHAPES_11 ?z_SHAPES_11 ?a_CALLS ?l_CALLS ?t_CALLS ?w_CALLS ?b_enumerate ?b_len ?b_list ?b_max ?b_min ?b_range ?b_reversed ?b_sum
    (case aC => k_is)
    (case pg => k_is)
    (case hd => k_is)
    (case po => k_is)
    (case sa => k_is)
    (case mk => k_is)
    (case kc => k_is)
    (case n_unit => k_is)
    (case n_tables => k_is)
    (case n_tallies => k_is)
    (case a___init__ => k_is)
    (case i___init__ => k_is)
    (case l___init__ => k_is)
    (case c___init__ => k_is)
    (case k___init__ => k_is)
    (case a_begin => k_is)
    (case i_begin => k_is)
    (case l_begin => k_is)
    (case c_begin => k_is)
    (case k_begin => k_is)
    (case a_has_places => k_is)
    (case i_has_places => k_is)
    (case l_has_places => k_is)
    (case c_has_places => k_is)
    (case k_has_places => k_is)
    (case a_set_value => k_is)
    (case i_set_value => k_is)
    (case l_set_value => k_is)
    (case c_set_value => k_is)
    (case k_set_value => k_is)
    (case a_get_value => k_is)
    (case i_get_value => k_is)
    (case l_get_value => k_is)
    (case c_get_value => k_is)
    (case k_get_value => k_is)
    (case a_row_at => k_is)
    (case i_row_at => k_is)
    (case l_row_at => k_is)
    (case c_row_at => k_is)
    (case k_row_at => k_is)
    (case a_put_row => k_is)
    (case i_put_row => k_is)
    (case l_put_row => k_is)
    (case c_put_row => k_is)
    (case k_put_row => k_is)
    (case a_tally => k_is)
    (case i_tally => k_is)
    (case l_tally => k_is)
    (case c_tally => k_is)
    (case k_tally => k_is)
    (case a_clear_tallies => k_is)
    (case i_clear_tallies => k_is)
    (case l_clear_tallies => k_is)
    (case c_clear_tallies => k_is)
    (case k_clear_tallies => k_is)
    (case a_number_at => k_is)
    (case l_number_at => k_is)
    (case c_number_at => k_is)
    (case k_number_at => k_is)
    (case a_bytes_of_numbers => k_is)
    (case l_bytes_of_numbers => k_is)
    (case c_bytes_of_numbers => k_is)
    (case k_bytes_of_numbers => k_is)
    (case a_numbers_of_bytes => k_is)
    (case l_numbers_of_bytes => k_is)
    (case c_numbers_of_bytes => k_is)
    (case k_numbers_of_bytes => k_is)
    (case a_counted => k_is)
    (case l_counted => k_is)
    (case c_counted => k_is)
    (case k_counted => k_is)
    (case a_bytes_for_bits => k_is)
    (case l_bytes_for_bits => k_is)
    (case c_bytes_for_bits => k_is)
    (case k_bytes_for_bits => k_is)
    (case a_bytes_of_bits => k_is)
    (case l_bytes_of_bits => k_is)
    (case c_bytes_of_bits => k_is)
    (case k_bytes_of_bits => k_is)
    (case a_bits_of_bytes => k_is)
    (case l_bits_of_bytes => k_is)
    (case c_bits_of_bytes => k_is)
    (case k_bits_of_bytes => k_is)
    (case a_is_read_of_bits => k_is)
    (case l_is_read_of_bits => k_is)
    (case c_is_read_of_bits => k_is)
    (case k_is_read_of_bits => k_is)
    (case a_is_read_of_numbers => k_is)
    (case l_is_read_of_numbers => k_is)
    (case c_is_read_of_numbers => k_is)
    (case k_is_read_of_numbers => k_is)
    (case a_is_write_of_coil => k_is)
    (case l_is_write_of_coil => k_is)
    (case c_is_write_of_coil => k_is)
    (case k_is_write_of_coil => k_is)
    (case a_is_write_of_kept => k_is)
    (case l_is_write_of_kept => k_is)
    (case c_is_write_of_kept => k_is)
    (case k_is_write_of_kept => k_is)
    (case a_is_mask_of_kept => k_is)
    (case l_is_mask_of_kept => k_is)
    (case c_is_mask_of_kept => k_is)
    (case k_is_mask_of_kept => k_is)
    (case a_is_alone => k_is)
    (case l_is_alone => k_is)
    (case c_is_alone => k_is)
    (case k_is_alone => k_is)
    (case a_ends_with_row => k_is)
    (case l_ends_with_row => k_is)
    (case c_ends_with_row => k_is)
    (case k_ends_with_row => k_is)
    (case a_is_write_of_coils => k_is)
    (case l_is_write_of_coils => k_is)
    (case c_is_write_of_coils => k_is)
    (case k_is_write_of_coils => k_is)
    (case a_is_write_of_kept_row => k_is)
    (case l_is_write_of_kept_row => k_is)
    (case c_is_write_of_kept_row => k_is)
    (case k_is_write_of_kept_row => k_is)
    (case a_is_write_and_read => k_is)
    (case l_is_write_and_read => k_is)
    (case c_is_write_and_read => k_is)
    (case k_is_write_and_read => k_is)
    (case a_is_known_check => k_is)
    (case l_is_known_check => k_is)
    (case c_is_known_check => k_is)
    (case k_is_known_check => k_is)
    (case a_is_check => k_is)
    (case l_is_check => k_is)
    (case c_is_check => k_is)
    (case k_is_check => k_is)
    (case a_is_known => k_is)
    (case l_is_known => k_is)
    (case c_is_known => k_is)
    (case k_is_known => k_is)
    (case a_has_right_form => k_is)
    (case l_has_right_form => k_is)
    (case c_has_right_form => k_is)
    (case k_has_right_form => k_is)
    (case a_table_read_by => k_is)
    (case l_table_read_by => k_is)
    (case c_table_read_by => k_is)
    (case k_table_read_by => k_is)
    (case a_spans_of => k_is)
    (case l_spans_of => k_is)
    (case c_spans_of => k_is)
    (case k_spans_of => k_is)
    (case a_reason_against => k_is)
    (case l_reason_against => k_is)
    (case c_reason_against => k_is)
    (case k_reason_against => k_is)
    (case a_count_bounds => k_is)
    (case l_count_bounds => k_is)
    (case c_count_bounds => k_is)
    (case k_count_bounds => k_is)
    (case a_places_reached => k_is)
    (case l_places_reached => k_is)
    (case c_places_reached => k_is)
    (case k_places_reached => k_is)
    (case a_may_be_asked => k_is)
    (case l_may_be_asked => k_is)
    (case c_may_be_asked => k_is)
    (case k_may_be_asked => k_is)
    (case a_numbers_behind_place => k_is)
    (case l_numbers_behind_place => k_is)
    (case c_numbers_behind_place => k_is)
    (case k_numbers_behind_place => k_is)
    (case a_row_behind_numbers => k_is)
    (case l_row_behind_numbers => k_is)
    (case c_row_behind_numbers => k_is)
    (case k_row_behind_numbers => k_is)
    (case a_ask => k_is)
    (case l_ask => k_is)
    (case c_ask => k_is)
    (case k_ask => k_is)
    (case a_tells_refusal => k_is)
    (case l_tells_refusal => k_is)
    (case c_tells_refusal => k_is)
    (case k_tells_refusal => k_is)
    (case a_read_values => k_is)
    (case l_read_values => k_is)
    (case c_read_values => k_is)
    (case k_read_values => k_is)
    (case a_is_confirmed => k_is)
    (case l_is_confirmed => k_is)
    (case c_is_confirmed => k_is)
    (case k_is_confirmed => k_is)
    (case a_read => k_is)
    (case l_read => k_is)
    (case c_read => k_is)
    (case k_read => k_is)
    (case a_read_bits => k_is)
    (case l_read_bits => k_is)
    (case c_read_bits => k_is)
    (case k_read_bits => k_is)
    (case a_answer_with_numbers => k_is)
    (case l_answer_with_numbers => k_is)
    (case c_answer_with_numbers => k_is)
    (case k_answer_with_numbers => k_is)
    (case a_read_numbers => k_is)
    (case l_read_numbers => k_is)
    (case c_read_numbers => k_is)
    (case k_read_numbers => k_is)
    (case a_write_coil => k_is)
    (case l_write_coil => k_is)
    (case c_write_coil => k_is)
    (case k_write_coil => k_is)
    (case a_write_kept => k_is)
    (case l_write_kept => k_is)
    (case c_write_kept => k_is)
    (case k_write_kept => k_is)
    (case a_mask_kept => k_is)
    (case l_mask_kept => k_is)
    (case c_mask_kept => k_is)
    (case k_mask_kept => k_is)
    (case a_write_coils => k_is)
    (case l_write_coils => k_is)
    (case c_write_coils => k_is)
    (case k_write_coils => k_is)
    (case a_write_kept_row => k_is)
    (case l_write_kept_row => k_is)
    (case c_write_kept_row => k_is)
    (case k_write_kept_row => k_is)
    (case a_write_and_read => k_is)
    (case l_write_and_read => k_is)
    (case c_write_and_read => k_is)
    (case k_write_and_read => k_is)
    (case a_read_status => k_is)
    (case l_read_status => k_is)
    (case c_read_status => k_is)
    (case k_read_status => k_is)
    (case a_read_went_well => k_is)
    (case l_read_went_well => k_is)
    (case c_read_went_well => k_is)
    (case k_read_went_well => k_is)
    (case a_check_device => k_is)
    (case l_check_device => k_is)
    (case c_check_device => k_is)
    (case k_check_device => k_is)
    (case a_carry_out => k_is)
    (case l_carry_out => k_is)
    (case c_carry_out => k_is)
    (case k_carry_out => k_is)
    (case a_crc => k_is)
    (case l_crc => k_is)
    (case c_crc => k_is)
    (case k_crc => k_is)
    (case a_lrc => k_is)
    (case l_lrc => k_is)
    (case c_lrc => k_is)
    (case k_lrc => k_is)
    (case a_take_request => k_is)
    (case l_take_request => k_is)
    (case c_take_request => k_is)
    (case k_take_request => k_is)
    (case a_crc_bytes => k_is)
    (case l_crc_bytes => k_is)
    (case c_crc_bytes => k_is)
    (case k_crc_bytes => k_is)
    (case a_rtu_frame => k_is)
    (case l_rtu_frame => k_is)
    (case c_rtu_frame => k_is)
    (case k_rtu_frame => k_is)
    (case a_is_rtu_frame => k_is)
    (case l_is_rtu_frame => k_is)
    (case c_is_rtu_frame => k_is)
    (case k_is_rtu_frame => k_is)
    (case a_answer_rtu => k_is)
    (case l_answer_rtu => k_is)
    (case c_answer_rtu => k_is)
    (case k_answer_rtu => k_is)
    (case a_digit_value => k_is)
    (case l_digit_value => k_is)
    (case c_digit_value => k_is)
    (case k_digit_value => k_is)
    (case a_digit_sign => k_is)
    (case l_digit_sign => k_is)
    (case c_digit_sign => k_is)
    (case k_digit_sign => k_is)
    (case a_ascii_frame => k_is)
    (case l_ascii_frame => k_is)
    (case c_ascii_frame => k_is)
    (case k_ascii_frame => k_is)
    (case a_bytes_of_digits => k_is)
    (case l_bytes_of_digits => k_is)
    (case c_bytes_of_digits => k_is)
    (case k_bytes_of_digits => k_is)
    (case a_bytes_of_line => k_is)
    (case l_bytes_of_line => k_is)
    (case c_bytes_of_line => k_is)
    (case k_bytes_of_line => k_is)
    (case a_answer_ascii => k_is)
    (case l_answer_ascii => k_is)
    (case c_answer_ascii => k_is)
    (case k_answer_ascii => k_is)
    (case a_is_tcp_frame => k_is)
    (case l_is_tcp_frame => k_is)
    (case c_is_tcp_frame => k_is)
    (case k_is_tcp_frame => k_is)
    (case a_answer_tcp => k_is)
    (case l_answer_tcp => k_is)
    (case c_answer_tcp => k_is)
    (case k_answer_tcp => k_is)
    (case a_call_begin => k_is)
    (case l_call_begin => k_is)
    (case c_call_begin => k_is)
    (case k_call_begin => k_is)
    (case a_call_set => k_is)
    (case l_call_set => k_is)
    (case c_call_set => k_is)
    (case k_call_set => k_is)
    (case a_call_get => k_is)
    (case l_call_get => k_is)
    (case c_call_get => k_is)
    (case k_call_get => k_is)
    (case a_call_pdu => k_is)
    (case l_call_pdu => k_is)
    (case c_call_pdu => k_is)
    (case k_call_pdu => k_is)
    (case a_call_rtu => k_is)
    (case l_call_rtu => k_is)
    (case c_call_rtu => k_is)
    (case k_call_rtu => k_is)
    (case a_call_ascii => k_is)
    (case l_call_ascii => k_is)
    (case c_call_ascii => k_is)
    (case k_call_ascii => k_is)
    (case a_call_tcp => k_is)
    (case l_call_tcp => k_is)
    (case c_call_tcp => k_is)
    (case k_call_tcp => k_is)
    (case a_call_counts => k_is)
    (case l_call_counts => k_is)
    (case c_call_counts => k_is)
    (case k_call_counts => k_is)
    (case a_call_crc => k_is)
    (case l_call_crc => k_is)
    (case c_call_crc => k_is)
    (case k_call_crc => k_is)
    (case a_call_lrc => k_is)
    (case l_call_lrc => k_is)
    (case c_call_lrc => k_is)
    (case k_call_lrc => k_is)
    (case a_call_ask => k_is)
    (case l_call_ask => k_is)
    (case c_call_ask => k_is)
    (case k_call_ask => k_is)
    (case a_call_read => k_is)
    (case l_call_read => k_is)
    (case c_call_read => k_is)
    (case k_call_read => k_is)
    (case a_rows_from => k_is)
    (case l_rows_from => k_is)
    (case c_rows_from => k_is)
    (case k_rows_from => k_is)
    (case a_answers => k_is)
    (case l_answers => k_is)
    (case c_answers => k_is)
    (case k_answers => k_is)
    (case a_OUT_OF_RANGE => k_is)
    (case a_COILS => k_is)
    (case a_INPUTS => k_is)
    (case a_KEPT => k_is)
    (case a_READ_ONLY => k_is)
    (case a_GREATEST_VALUES => k_is)
    (case l_GREATEST_VALUES => k_is)
    (case v_GREATEST_VALUES => exact .cons ⟨_, rfl⟩ (.cons ⟨_, rfl⟩ (.cons ⟨_, rfl⟩ (.cons ⟨_, rfl⟩ (.nil)))))
    (case z_GREATEST_VALUES => exact (by decide))
    (case a_GREATEST_SIZE => k_is)
    (case a_FRAMES_RIGHT => k_is)
    (case a_FRAMES_WRONG => k_is)
    (case a_REFUSALS => k_is)
    (case a_FRAMES_FOR_IT => k_is)
    (case a_FRAMES_FOR_ALL => k_is)
    (case a_WENT_WELL => k_is)
    (case a_NO_REASON => k_is)
    (case a_NO_SUCH_FUNCTION => k_is)
    (case a_NO_SUCH_PLACE => k_is)
    (case a_WRONG_FORM => k_is)
    (case a_COIL_ON => k_is)
    (case a_MOST_BITS_READ => k_is)
    (case a_MOST_NUMBERS_READ => k_is)
    (case a_MOST_COILS_WRITTEN => k_is)
    (case a_MOST_KEPT_WRITTEN => k_is)
    (case a_MOST_KEPT_WRITTEN_AND_READ => k_is)
    (case a_ECHO => k_is)
    (case a_CLEAR_COUNTS => k_is)
    (case a_FIRST_COUNT => k_is)
    (case a_LAST_COUNT => k_is)
    (case a_FORMS => k_is)
    (case l_FORMS => k_is)
    (case t_FORMS => exact rfl)
    (case w_FORMS => exact (by decide))
    (case a_UNFIT => k_is)
    (case a_REFUSAL_TOLD => k_is)
    (case a_GREATEST_PLACE => k_is)
    (case a_UNCOUNTED => k_is)
    (case l_UNCOUNTED => k_is)
    (case v_UNCOUNTED => exact .cons ⟨_, rfl⟩ (.cons ⟨_, rfl⟩ (.nil)))
    (case z_UNCOUNTED => exact (by decide))
    (case a_CARRIERS => k_is)
    (case l_CARRIERS => k_is)
    (case t_CARRIERS => exact rfl)
    (case w_CARRIERS => exact (by decide))
    (case a_FOR_ALL => k_is)
    (case a_CARRIED_OUT_FOR_ALL => k_is)
    (case l_CARRIED_OUT_FOR_ALL => k_is)
    (case v_CARRIED_OUT_FOR_ALL => exact .cons ⟨_, rfl⟩ (.cons ⟨_, rfl⟩ (.cons ⟨_, rfl⟩ (.cons ⟨_, rfl⟩ (.cons ⟨_, rfl⟩ (.nil))))))
    (case z_CARRIED_OUT_FOR_ALL => exact (by decide))
    (case a_ANY_DEVICE => k_is)
    (case l_ANY_DEVICE => k_is)
    (case v_ANY_DEVICE => exact .cons ⟨_, rfl⟩ (.cons ⟨_, rfl⟩ (.nil)))
    (case z_ANY_DEVICE => exact (by decide))
    (case a_COLON => k_is)
    (case a_LINE_END => k_is)
    (case l_LINE_END => k_is)
    (case v_LINE_END => exact .cons ⟨_, rfl⟩ (.cons ⟨_, rfl⟩ (.nil)))
    (case z_LINE_END => exact (by decide))
    (case a_NO_DIGIT => k_is)
    (case a_MOST_SUMMED => k_is)
    (case a_SHAPES => k_is)
    (case l_SHAPES => k_is)
    (case t_SHAPES => exact rfl)
    (case w_SHAPES => exact (by decide))
    (case l_SHAPES_0 => k_is)
    (case v_SHAPES_0 => exact .cons ⟨_, rfl⟩ (.cons ⟨_, rfl⟩ (.nil)))
    (case z_SHAPES_0 => exact (by decide))
    (case l_SHAPES_1 => k_is)
    (case v_SHAPES_1 => exact .cons ⟨_, rfl⟩ (.cons ⟨_, rfl⟩ (.nil)))
    (case z_SHAPES_1 => exact (by decide))
    (case l_SHAPES_2 => k_is)
    (case v_SHAPES_2 => exact .cons ⟨_, rfl⟩ (.cons ⟨_, rfl⟩ (.nil)))
    (case z_SHAPES_2 => exact (by decide))
    (case l_SHAPES_3 => k_is)
    (case v_SHAPES_3 => exact .cons ⟨_, rfl⟩ (.cons ⟨_, rfl⟩ (.nil)))
    (case z_SHAPES_3 => exact (by decide))
    (case l_SHAPES_4 => k_is)
    (case v_SHAPES_4 => exact .cons ⟨_, rfl⟩ (.cons ⟨_, rfl⟩ (.nil)))
    (case z_SHAPES_4 => exact (by decide))
    (case l_SHAPES_5 => k_is)
    (case v_SHAPES_5 => exact .cons ⟨_, rfl⟩ (.cons ⟨_, rfl⟩ (.nil)))
    (case z_SHAPES_5 => exact (by decide))
    (case l_SHAPES_6 => k_is)
    (case v_SHAPES_6 => exact .cons ⟨_, rfl⟩ (.cons ⟨_, rfl⟩ (.nil)))
    (case z_SHAPES_6 => exact (by decide))
    (case l_SHAPES_7 => k_is)
    (case v_SHAPES_7 => exact .cons ⟨_, rfl⟩ (.cons ⟨_, rfl⟩ (.nil)))
    (case z_SHAPES_7 => exact (by decide))
    (case l_SHAPES_8 => k_is)
    (case v_SHAPES_8 => exact .cons ⟨_, rfl⟩ (.cons ⟨_, rfl⟩ (.nil)))
    (case z_SHAPES_8 => exact (by decide))
    (case l_SHAPES_9 => k_is)
    (case v_SHAPES_9 => exact .cons ⟨_, rfl⟩ (.cons ⟨_, rfl⟩ (.nil)))
    (case z_SHAPES_9 => exact (by decide))
    (case l_SHAPES_10 => k_is)
    (case v_SHAPES_10 => exact .cons ⟨_, rfl⟩ (.cons ⟨_, rfl⟩ (.nil)))
    (case z_SHAPES_10 => exact (by decide))
    (case l_SHAPES_11 => k_is)
    (case v_SHAPES_11 => exact .cons ⟨_, rfl⟩ (.cons ⟨_, rfl⟩ (.nil)))
    (case z_SHAPES_11 => exact (by decide))
    (case a_CALLS => k_is)
    (case l_CALLS => k_is)
    (case t_CALLS => exact rfl)
    (case w_CALLS => exact (by decide))
    (case b_enumerate => k_is)
    (case b_len => k_is)
    (case b_list => k_is)
    (case b_max => k_is)
    (case b_min => k_is)
    (case b_range => k_is)
    (case b_reversed => k_is)
    (case b_sum => k_is)
  case S =>
    intro K H xs a hO hwi hask hx
    cases hx with
    | cons h1 h2 =>
      cases h2
      cases h1 with
      | lst hs ha =>
        have e := L2.ints_dw a.1 _ ha
        subst e
        have q : ((Codec.inLen 0 30000 a.1 && a.1.all (Codec.inInt (-2147483648) 2147483647)) && true) = true := hwi
        rw [Bool.and_eq_true, Bool.and_eq_true] at q
        obtain ⟨raw, h1, h2, h3, h4, h5⟩ := Bd.asked_good (l := a.1) hask
        refine ⟨_, a.1, rfl, hs, (Codec.inNat_iff.mp q.1.1).2, raw, h1, h2, h3, h4, fun H' p hp => ?_⟩
        refine .lst (L2.SqL.of hp) ?_
        rw [← h5]
        exact L2.dw_ints _
#print axioms PySem.Challenge.cw_bitdevice_s01_answers_holds

