import PyProof.Rows.All
import Wide.All
import OpenK.AllK
import Wide.FinOn
import HandS.ForExc
import HandS.Comp
import HandS.ExcCtx
import HandS.Hot
import HandS.HotCalls
import HandS.ExcIs
import HandS.ExcValue
import HandS.RaiseMore
import HandS.Small
import HandS.IsInst
import HandS.Flow
import HandS.WideBits
import HandS.ForMost
import HandS.TryMany
import PySem.Challenge.RW_giftstreams_k17_refusals_made
set_option Elab.async false
set_option linter.all false
set_option maxRecDepth 100000
set_option maxHeartbeats 4000000
/-! Walks of lists, unpacking of tuples and comprehensions, whether an exception is being handled or not. -/
namespace Hu
open PySem PySem.Spec PyProof.Rows L2 HotX

/-- nothing is handled, or one whose own context is None -/
def Cool (A : Around) (g : Heap) : Prop := A.handled = none ∨ ∃ y, HotAt A y g
theorem Cool.on {A B : Around} {g k : Heap} (c : Cool A g) (e : B.handled = A.handled) (st : ∀ b o, g.get? b = some o → k.get? b = some o) : Cool B k := by
  rcases c with c | ⟨y, c, o, us, h1, h2, h3⟩
  · exact .inl (e.trans c)
  · exact .inr ⟨y, e.trans c, o, us, st _ _ h1, h2, h3⟩
section
variable {prog : Program} {w : World} {A : Around} {E : Value → Shared → Prop} {s : Shared}
/-- a new exception record at a is thrown -/
theorem thrown {α : Type} {g : Heap} {a : Addr} {ob : Obj} {us : Array Value} {Q : α → Shared → Prop} (c : Cool A g)
    (st : ∀ b o, g.get? b = some o → s.heap.get? b = some o) (na : g.get? a = none)
    (ha : s.heap.get? a = some ob) (da : ob.data = .fields us) (big : 2 < us.size)
    (fin : ∀ k : Heap, (∀ b o, b ≠ a → s.heap.get? b = some o → k.get? b = some o) →
      (∃ o, k.get? a = some o ∧ o.cls = ob.cls) → E (.ref a) { s with heap := k }) :
    wpAny (model prog w) A (raiseNew (.ref a) : Sem α) Q E s := by
  rcases c with hh | ⟨y, hot⟩
  · simp only [raiseNew]
    refine wpAny_bind (wpAny_handled ?_)
    rw [hh]
    exact wpAny_bind (wpAny_pure (wpAny_throw (fin s.heap (fun _ _ _ q => q) ⟨ob, ha, rfl⟩)))
  · obtain ⟨hh, o1, v1, g1, d1, c1⟩ := hot
    have hne : y ≠ a := fun z => by
      rw [z, na] at g1
      cases g1
    refine raiseNew_hot ⟨hh, o1, v1, st _ _ g1, d1, c1⟩ hne ha da big (fin _ (fun b o nb q => ?_) ⟨_, Heap.get?_update_self _ ha (Obj.isFreed_of_fields (Obj.data_mapFields da _)), Obj.cls_mapFields ..⟩)
    rw [Heap.get?_update_other _ _ (Ne.symm nb)]
    exact q
/-- StopIteration made and thrown -/
theorem stopped {α : Type} {Q : α → Shared → Prop} {g : Heap} (c : Cool A g) (st : ∀ b o, g.get? b = some o → s.heap.get? b = some o)
    (fin : ∀ (k : Heap) (a : Addr), (∀ b o, s.heap.get? b = some o → k.get? b = some o) →
      (∃ o, k.get? a = some o ∧ o.cls = .type "StopIteration") → E (.ref a) { s with heap := k }) :
    wpAny (model prog w) A (newExc (.type "StopIteration") []) (fun e s1 => wpAny (model prog w) A (raiseNew e : Sem α) Q E s1) E s := by
  simp only [newExc, newTuple]
  refine wpAny_bind (wpAny_newObj_type ?_ (by size_fits))
  refine wpAny_bind (m := firstArgMember _ _) (wpAny_of_eq (a := Value.none)
    (by first | rfl | (simp only [firstArgMember]; rfl)) ?_)
  refine wpAny_newObj_type ?_ (by size_fits)
  have up : ∀ (o1 o2 : Obj) b o, s.heap.get? b = some o → ((s.heap.push o1).push o2).get? b = some o :=
    fun o1 o2 b o q => Heap.get?_push_of_some _ (Heap.get?_push_of_some _ q)
  have non : ∀ o1 : Obj, g.get? (s.heap.push o1).objs.size = none := fun o1 => by
    cases z : g.get? (s.heap.push o1).objs.size with
    | none => rfl
    | some o =>
      have q := Heap.lt_size (st _ _ z)
      rw [Heap.size_push] at q
      exact absurd (Nat.lt_of_succ_lt q) (Nat.lt_irrefl _)
  refine thrown c (fun b o q => up _ _ b o (st b o q)) (non _) (Heap.get?_push_size _ rfl) rfl
    (by first | (simp; done) | (simp; omega) | (simp only [Array.size_append]; simp; omega)) fun k keep there => fin k _ (fun b o q => ?_) there
  refine keep b o (fun z => ?_) (up _ _ b o q)
  have l := Heap.lt_size q
  rw [z, Heap.size_push] at l
  exact absurd (Nat.lt_of_succ_lt l) (Nat.lt_irrefl _)
/-- behind the last item of a list -/
theorem list_over {it l : Addr} {i : Nat} {items : Array Value} {Q : Option Value → Shared → Prop} (c : Cool A s.heap)
    (hI : s.heap.IsListIter it l i) (hl : s.heap.IsList l items) (hx : items[i]? = none)
    (hQ : ∀ k : Heap, (∀ b o, b ≠ it → s.heap.get? b = some o → k.get? b = some o) → Q none { s with heap := k }) :
    wpAny (model prog w) A (pyNext (.ref it)) Q E s := by
  obtain ⟨oi, gi, ci, di⟩ := id hI
  obtain ⟨ol, gl, _, nl, dl⟩ := hl
  unfold pyNext
  refine wpAny_bind (wpAny_attempt (wpAny_callSpecial?_slot
    (name := Str.ofString "__next__") hI.typeIs slot_listiter_next
    (wpAny_call_entry slot_listiter_next hI.typeIs
      entry_listiter_next ?_ (args_listiter_next _))))
  show wpAny _ _ (field (.ref it) 0 >>= _) _ _ _
  refine wpAny_bind (wpAny_field gi di (x := .ref l) rfl ?_)
  show wpAny _ _ (if (Value.ref l == Value.none) = true then _ else _) _ _ _
  rw [if_neg (fun z : (Value.ref l == Value.none) = true => Bool.false_ne_true z)]
  show wpAny _ _ (field (.ref it) 1 >>= _) _ _ _
  refine wpAny_bind (wpAny_field gi di (x := .int i 0) rfl ?_)
  show wpAny _ _ (seqItems? (.ref l) >>= _) _ _ _
  refine wpAny_bind (wpAny_seqItems gl dl ?_)
  simp only [Int.toNat_natCast, hx]
  refine wpAny_bind (wpAny_rule (wpAny_bind (wpAny_setField gi di (by simp) ?_)))
  have ot : ∀ (f : Obj → Obj) b o, b ≠ it → s.heap.get? b = some o → (s.heap.update it f).get? b = some o := fun f b o nb q => by
    rw [Heap.get?_update_other _ _ (Ne.symm nb)]
    exact q
  have c1 : ∀ f : Array Value → Array Value, Cool A.in1 (s.heap.update it (Obj.mapFields f)) := fun f => by
    rcases c with c | ⟨y, c, o, us, h1, h2, h3⟩
    · exact .inl c
    · by_cases hy : y = it
      · exfalso
        rw [hy, gi] at h1
        cases h1
        rw [di] at h2
        cases h2
        simp at h3
      · exact .inr ⟨y, c, o, us, ot _ _ _ hy h1, h2, h3⟩
  refine wpAny_bind (stopped (c1 _) (fun _ _ q => q) fun k a keep there => ?_)
  obtain ⟨o, ha, hc⟩ := there
  refine wpAny_bind (wpAny_isInstance (T := "StopIteration") (b := true) ⟨o, ha, hc⟩ isSubtype_stop ?_)
  exact wpAny_pure (hQ k fun b o nb q => keep b o (ot _ b o nb q))
/-- behind the last item of a tuple -/
theorem tup_over {it l : Addr} {i : Nat} {items : Array Value} {Q : Option Value → Shared → Prop} (c : Cool A s.heap)
    (hI : IsTupIter s.heap it l i) (hl : IsTup s.heap l items) (hx : items[i]? = none)
    (hQ : ∀ k : Heap, (∀ b o, b ≠ it → s.heap.get? b = some o → k.get? b = some o) → Q none { s with heap := k }) :
    wpAny (model prog w) A (pyNext (.ref it)) Q E s := by
  obtain ⟨oi, gi, ci, di⟩ := id hI
  obtain ⟨ol, gl, _, nl, dl⟩ := hl
  unfold pyNext
  refine wpAny_bind (wpAny_attempt (wpAny_callSpecial?_slot
    (name := Str.ofString "__next__") hI.typeIs slot_tupleiter_next
    (wpAny_call_entry slot_tupleiter_next hI.typeIs
      entry_tupleiter_next ?_ (args_tupleiter_next _))))
  show wpAny _ _ (field (.ref it) 0 >>= _) _ _ _
  refine wpAny_bind (wpAny_field gi di (x := .ref l) rfl ?_)
  show wpAny _ _ (if (Value.ref l == Value.none) = true then _ else _) _ _ _
  rw [if_neg (fun z : (Value.ref l == Value.none) = true => Bool.false_ne_true z)]
  show wpAny _ _ (field (.ref it) 1 >>= _) _ _ _
  refine wpAny_bind (wpAny_field gi di (x := .int i 0) rfl ?_)
  show wpAny _ _ (seqItems? (.ref l) >>= _) _ _ _
  refine wpAny_bind (wpAny_seqItems gl dl ?_)
  simp only [Int.toNat_natCast, hx]
  refine wpAny_bind (wpAny_rule (wpAny_bind (wpAny_setField gi di (by simp) ?_)))
  have ot : ∀ (f : Obj → Obj) b o, b ≠ it → s.heap.get? b = some o → (s.heap.update it f).get? b = some o := fun f b o nb q => by
    rw [Heap.get?_update_other _ _ (Ne.symm nb)]
    exact q
  have c1 : ∀ f : Array Value → Array Value, Cool A.in1 (s.heap.update it (Obj.mapFields f)) := fun f => by
    rcases c with c | ⟨y, c, o, us, h1, h2, h3⟩
    · exact .inl c
    · by_cases hy : y = it
      · exfalso
        rw [hy, gi] at h1
        cases h1
        rw [di] at h2
        cases h2
        simp at h3
      · exact .inr ⟨y, c, o, us, ot _ _ _ hy h1, h2, h3⟩
  refine wpAny_bind (stopped (c1 _) (fun _ _ q => q) fun k a keep there => ?_)
  obtain ⟨o, ha, hc⟩ := there
  refine wpAny_bind (wpAny_isInstance (T := "StopIteration") (b := true) ⟨o, ha, hc⟩ isSubtype_stop ?_)
  exact wpAny_pure (hQ k fun b o nb q => keep b o (ot _ b o nb q))
/-- a tuple's items to as many targets -/
theorem unpacked {env : Env} {elts : List Expr} {x1 : Nat} {pos : Pos} {t : Addr} {items : Array Value} {Q : Unit → Shared → Prop}
    (c : Cool A s.heap) (ht : IsTup s.heap t items) (hn : (assignEach elts env).length = items.size)
    (hst : (assignEach elts env).findIdx? (·.1) = none)
    (h : ∀ k : Heap, (∀ b o, s.heap.get? b = some o → k.get? b = some o) →
      wpAny (model prog w) A (assignInOrder ((assignEach elts env).map (·.2)) items.toList) Q E { s with heap := k }) :
    wpAny (model prog w) A (assign (.Tuple elts x1 pos) env (.ref t)) Q E s := by
  have nt : t ≠ s.heap.objs.size := by
    obtain ⟨o, e, _⟩ := ht
    exact Nat.ne_of_lt (Heap.lt_size e)
  rw [PyProof.Rows.assign_Tuple]
  refine wpAny_bind (wpAny_standAt ?_)
  unfold unpack
  rw [hn, hst]
  refine wpAny_bind (wpAny_holding ?_)
  unfold unpackItems notIterableAtAll
  refine wpAny_bind ?_
  refine wpAny_bind (wpAny_specialOf ht.typeIs slot_tuple_iter.lookup (wpAny_pure ?_))
  rw [if_neg (by simp)]
  refine wpAny_bind (wpAny_holding (iter_tuple ht (wpAny_bind (wpAny_holding ?_))))
  refine draw_tuple nt items.size 0 _ _ ⟨_, Heap.get?_push_size _ rfl, rfl, rfl⟩ (ht.push _) (by omega) fun k1 i1 sb => ?_
  have el : (items.toList.drop 0).take items.size = items.toList := by
    rw [List.drop_zero]
    exact List.take_of_length_le (by simp)
  rw [el, if_neg (by simp)]
  have up : ∀ b o, s.heap.get? b = some o → k1.get? b = some o := fun b o q => by
    have nb : b ≠ s.heap.objs.size := Nat.ne_of_lt (Heap.lt_size q)
    exact (sb.2 b nb).trans (Heap.get?_push_of_some _ q)
  have t1 : IsTup k1 t items := (ht.push _).extBut sb.extBut nt
  refine wpAny_bind (wpAny_holding (tup_over (c.on rfl up) i1 t1 (by simp) fun k2 keep => ?_))
  simp only [Option.isSome_none, Bool.false_eq_true, if_false]
  refine wpAny_pure (h k2 fun b o q => ?_)
  have nb : b ≠ s.heap.objs.size := Nat.ne_of_lt (Heap.lt_size q)
  exact keep b o nb (up b o q)
end
end Hu


set_option Elab.async false
set_option linter.all false
set_option maxRecDepth 100000
set_option maxHeartbeats 4000000
namespace Hu
open PySem PySem.Spec PyProof.Rows L2 HotX
abbrev St := L2.St
/-- nothing is handled, or the handled one is among the context's pins -/
def Free (X : Cx) : Prop := X.calm = true ∨ L2H.HotC X
def Cooled (X : Cx) : Prop := ∀ (pins : List (Addr × Obj)) (σ : L2.St) (H : Hp) (s : Shared), Inv X pins σ H s → Cool X.A s.heap
theorem Free.cooled {X : Cx} (f : Free X) : Cooled X := fun pins σ H s I => by
  rcases f with f | f
  · exact .inl (I.ok.hd f)
  · exact .inr (f.at I)
theorem Free.blk {X : Cx} (f : Free X) {pins : List (Addr × Obj)} {σ : L2.St} {H : Hp} {s : Shared} {scope : Scope} {ce : Env} {fp : List Addr}
    (I : Inv X pins σ H s) (hf : ∀ b ∈ fp, FpOk X pins H b) : Cooled (X.blk s H scope ce fp) := fun ps τ G s2 J => by
  rcases f with f | ⟨p, ⟨hh, us, e1, e2⟩, hp⟩
  · exact .inl (I.ok.hd f)
  · obtain ⟨g1, g2, g3, g4, _⟩ := I.pin p (List.mem_append_left _ hp)
    have ns : p.1 ∉ frs X.stack := fun z => (List.mem_cons.mp (I.stkSub _ z)).elim g3 g4
    have nf : p.1 ∉ fp := fun z => (hf _ z).2.2.2.2.2 p (List.mem_append_left _ hp) rfl
    exact .inr ⟨p.1, hh, p.2, us, J.base.keep p.1 p.2 g1 g2 ns nf, e1, e2⟩
section
variable {X : Cx}
/-- a, b = a tuple -/
theorem pg_tupU {es : List Expr} {k : Nat} {pos : Pos} {t : TGs} {n : Nat} (c : Cooled X) (h : PGs X es t)
    (hn : (assignEach es X.env).length = n := by rfl)
    (hst : (assignEach es X.env).findIdx? (·.1) = none := by rfl) : PG X (.Tuple es k pos) (gTup X.K n t) := by
  refine ⟨fun pins s σ H v u Q I r q => ?_⟩
  obtain ⟨a, xs, rfl, hq, hl, q⟩ := q
  obtain rfl : u = Value.ref a := r
  obtain ⟨its, rv, it, _⟩ := I.tuple hq
  have hs : (assignEach es X.env).length = its.toArray.size := by rw [hn, ← hl, rv.length, List.size_toArray]
  refine unpacked (c pins σ H s I) it hs hst fun k up => ?_
  exact h.run pins _ σ H xs _ Q (I.kept (t' := s.toks) up) (by simpa using rv) q
/-- the heart of a comprehension over a list -/
theorem lcU {pins : List (Addr × Obj)} {s : Shared} {σ : L2.St} {H : Hp} {Q : VK} {elt tg l : Expr} {ifs : List Expr} {scope : Scope}
    {own : List (Str × Nat)} {pos pos' : Pos} {tl : TE} {g : TG} {tt : TT} {te : TE} {use : Option (Value → Sem Unit)}
    {Qf : Value → Shared → Prop} (F : Free X) (nd : X.N.Nodup) (I : Inv X pins σ H s) (hl : PE X l tl)
    (ok : BlkOk X.N X.env.scope scope own)
    (hg : ∀ (s : Shared) (H : Hp) (C : Addr) (cl : List (Str × Addr)) (fp : List Addr),
      Cooled (X.blk s H scope (compEnvC scope cl C X.env) fp) → PG (X.blk s H scope (compEnvC scope cl C X.env) fp) tg g)
    (ht : ∀ (s : Shared) (H : Hp) (C : Addr) (cl : List (Str × Addr)) (fp : List Addr),
      PTs (X.blk s H scope (compEnvC scope cl C X.env) fp) ifs tt)
    (he : ∀ (s : Shared) (H : Hp) (C : Addr) (cl : List (Str × Addr)) (fp : List Addr),
      PE (X.blk s H scope (compEnvC scope cl C X.env) fp) elt te)
    (hs : ∀ x, foldedSetIterable l X.env x = pure x) (h : tLc (iList X.K tl) g tt te (own.map (·.2)) σ H Q)
    (back : ∀ D C s' m H', Inv X pins σ H' s' → Q (.ref D) H' → s'.heap.Ns C m → FpOk X pins H' C →
      compPost (model X.prog X.w) X.A X.xe use Qf (.ref D) C (.ok .next) s') :
    wpAny (model X.prog X.w) X.A (comprehension (.ListComp elt [⟨tg, l, ifs, 0⟩] scope pos) scope X.env pos' (newList []) false
      (eval l X.env) use) Qf X.xe s := by
  have caught : ∀ y ∈ scope.names, y.2 = .free → ∃ c, X.env.cells.lookup y.1 = some c := fun y hy e =>
    (ok.free y hy e).elim (fun k => I.ok.has _ (.inl k)) fun k => I.ok.has _ (.inr k)
  refine wpAny_comprehension_free (use := use) rfl hs (closure_ok caught) ok.kind
    (fun y hy e => by rw [ok.uniq y hy, e]) ?_
  -- the list, its iterator
  refine thn (hl.run pins s σ H _ I h) fun xv s1 hx => ?_
  obtain ⟨xval, H1, I1, r1, a, rfl, ⟨xs0, sq0⟩, q⟩ := hx
  obtain rfl : xv = Value.ref a := r1
  obtain ⟨its0, _, pl0, _⟩ := I1.list sq0
  refine wpAny_pyIter_list pl0.isList ?_
  generalize hit : s1.heap.objs.size = it
  generalize hs2 : ({ s1 with heap := s1.heap.push { cls := .type "list_iterator", data := .fields #[.ref a, .int 0 0] } } : Shared) = s2
  have h2 : s2.heap = s1.heap.push { cls := .type "list_iterator", data := .fields #[.ref a, .int 0 0] } := by rw [← hs2]
  have I2 : Inv X pins σ H1 s2 := by
    rw [← hs2]
    exact I1.kept (t' := s1.toks) fun b o e => Heap.get?_push_of_some _ e
  have gi : s2.heap.IsListIter it a 0 := by
    rw [h2, ← hit]
    exact ⟨_, Heap.get?_push_size _ rfl, rfl, rfl⟩
  have sz2 : s2.heap.objs.size = it + 1 := by rw [h2, Heap.size_push, hit]
  have fp2 : FpOk X pins H1 it := I1.fpOk (Nat.le_of_eq hit) (I1.hok.fresh (Nat.le_of_eq hit))
  refine wpAny_newObj_type (newEnv_comp ?_) (by show 0 ≤ sizeLine; decide)
  generalize hD : s2.heap.objs.size = D
  have nD : H1 D = none := I2.hok.fresh (Nat.le_of_eq hD)
  obtain ⟨W, ⟨m0, w0⟩, turn⟩ := q D nD
  generalize hs3 : ({ s2 with heap := s2.heap.push { cls := .type "list", data := .seq ([] : List Value).toArray } } : Shared) = s3
  have h3 : s3.heap = s2.heap.push { cls := .type "list", data := .seq ([] : List Value).toArray } := by rw [← hs3]
  have I3 : Inv X pins σ (upd H1 D (.lst [])) s3 := by
    rw [← hs3]
    refine I2.laid (t' := s2.toks) (fun b o e => Heap.get?_push_of_some _ e) (Nat.le_of_eq hD) ?_
    refine ⟨Nat.zero_le _, [], 0, .nil, ?_⟩
    rw [← hD]
    exact Heap.get?_push_size _ rfl
  have itD : it ≠ D := by rw [← hD, sz2]; exact Nat.ne_of_lt (Nat.lt_succ_self _)
  have f3 : ∀ b ∈ [it], FpOk X pins (upd H1 D (.lst [])) b ∧ b < s3.heap.objs.size := fun b hb => by
    obtain rfl : b = it := by simpa using hb
    refine ⟨⟨?_, fp2.2⟩, ?_⟩
    · rw [upd_ne itD]
      exact fp2.1
    · rw [h3, Heap.size_push, sz2]
      exact Nat.lt_succ_of_lt (Nat.lt_succ_self _)
  have gi3 : s3.heap.IsListIter it a 0 := by
    obtain ⟨o, e, r⟩ := gi
    exact ⟨o, by rw [h3]; exact Heap.get?_push_of_some _ e, r⟩
  have I4 := block_start I3 ok nd f3
  show codeAny _ _ (.compStart (.ListComp elt [⟨tg, l, ifs, 0⟩] scope pos) 0 (.ref it) (.ref D) (compEnvC scope (cellsFrom (s3.heap.objs.size + 1) scope.names (cloFrom X.env.cells scope.names [])) s3.heap.objs.size X.env))
    (compPost (model X.prog X.w) X.A X.xe use Qf (.ref D) s3.heap.objs.size)
    { s3 with heap := pushCells (s3.heap.push { cls := .type "dict", data := .dict #[] }) scope.names }
  generalize hH3 : upd H1 D (.lst []) = H3 at I3 I4 w0 f3
  generalize hcl : cellsFrom (s3.heap.objs.size + 1) scope.names (cloFrom X.env.cells scope.names []) = cl at I4 ⊢
  have cool : Cooled (X.blk s3 H3 scope (compEnvC scope cl s3.heap.objs.size X.env) [it]) := F.blk I3 fun b hb => (f3 b hb).1
  have pg := hg s3 H3 s3.heap.objs.size cl [it] cool
  have pt := ht s3 H3 s3.heap.objs.size cl [it]
  have pe := he s3 H3 s3.heap.objs.size cl [it]
  generalize hce : compEnvC scope cl s3.heap.objs.size X.env = ce at I4 pg pt pe cool ⊢
  have cL : ce.locals = s3.heap.objs.size := by subst hce; rfl
  generalize hs4 : ({ s3 with heap := pushCells (s3.heap.push { cls := .type "dict", data := .dict #[] }) scope.names } : Shared) = s4 at I4 ⊢
  have gi4 : s4.heap.IsListIter it a 0 := by
    obtain ⟨o, e, r⟩ := gi3
    refine ⟨o, ?_, r⟩
    rw [← hs4]
    exact pushCells_keeps _ _ _ _ (Heap.get?_push_of_some _ e)
  have ni4 : H3 it = none := (f3 it (by simp)).1.1
  -- the iterator's record as the block sees it
  have own_it : ∀ {τ : L2.St} {G : Hp} {t : Shared}, Inv (X.blk s3 H3 scope ce [it]) [] τ G t → G it = none → FpOk (X.blk s3 H3 scope ce [it]) [] G it :=
    fun {τ G t} J n => ⟨n, (J.ok.exf it (by simp)).1, J.ok.exfs it (by simp), .inl (by simp), fun x c e => (J.ok.exf it (by simp)).2 x c e,
      fun p hp => absurd (show p ∈ ([] : List (Addr × Obj)) ++ [] from hp) (by simp)⟩
  have turned : ∀ {τ : L2.St} {G : Hp} {t : Shared} {k : Heap}, Inv (X.blk s3 H3 scope ce [it]) [] τ G t → G it = none →
      (∀ b o, b ≠ it → t.heap.get? b = some o → k.get? b = some o) → Inv (X.blk s3 H3 scope ce [it]) [] τ G { t with heap := k } :=
    fun {τ G t k} J n up => by
      obtain ⟨f0, f1, f2, f3, f4, f5⟩ := own_it J n
      exact J.turned (t' := t.toks) up f0 f1 f3 f4 f5
  have loop : codeAny (model X.prog X.w) X.A (.compLoop (.ListComp elt [⟨tg, l, ifs, 0⟩] scope pos) 0 (.ref it) (.ref D) ce)
      (compPost (model X.prog X.w) X.A X.xe use Qf (.ref D) s3.heap.objs.size) s4 := by
    refine compLoop_any (fun n t => ∃ i G, Inv (X.blk s3 H3 scope ce [it]) [] (wipe σ (own.map (·.2))) G t ∧ t.heap.IsListIter it a i ∧ G it = none ∧ W i n G) ?_ m0 ⟨0, H3, I4, gi4, ni4, w0⟩
    rintro n t ⟨i, G, J, gt, nt, wt⟩
    rcases turn i n G wt with ⟨⟨ys, sq, hi⟩, fin⟩ | ⟨⟨ys, y, sq, hy⟩, Nx, hNx, step⟩
    · -- behind the last one
      obtain ⟨its, rv, pl, _⟩ := J.list sq
      have hx : its.toArray[i]? = none := by
        have := rv.length
        simp
        omega
      refine thnF (list_over (Q := fun r t2 => r = none ∧ ∃ k : Heap, t2 = { t with heap := k } ∧ ∀ b o, b ≠ it → t.heap.get? b = some o → k.get? b = some o) (cool _ _ _ _ J) gt pl.isList hx fun k up => ⟨rfl, k, rfl, up⟩) fun r t2 z => ?_
      obtain ⟨rfl, k, rfl, up⟩ := z
      have J2 := turned J nt up
      have B : Inv X pins σ G { t with heap := k } := I3.call' (ch := [it]) J2.os J2.base J2.hok J2.bare fun b hb =>
        ⟨(f3 b hb).1.2.2.2.1, (f3 b hb).1.2.1, (f3 b hb).1.2.2.2.2.1, (f3 b hb).1.2.2.2.2.2⟩
      have nC : G s3.heap.objs.size = none := by
        have z : G ce.locals = none := J2.free
        rw [cL] at z
        exact z
      obtain ⟨m, hn, _⟩ := J2.loc
      have hn : Heap.Ns k ce.locals m := hn
      rw [cL] at hn
      exact back D s3.heap.objs.size _ m G B fin hn (I3.fpOk (Nat.le_refl _) nC)
    · -- one more
      obtain ⟨its, rv, pl, _⟩ := J.list sq
      obtain ⟨u, hu, ru⟩ := rv.get hy
      refine thnF (wpAny_pyNext_list_item (E := fun _ _ => False) (Q := fun r t2 => r = some u ∧ ∃ k : Heap, t2 = { t with heap := k } ∧ k.IsListIter it a (i + 1) ∧ ∀ b o, b ≠ it → t.heap.get? b = some o → k.get? b = some o)
        gt pl.isList (x := u) (by simpa using hu) fun k gk sb => ⟨rfl, k, rfl, gk, fun b o nb e => (sb.2 b nb).trans e⟩) fun r t2 z => ?_
      obtain ⟨rfl, k, rfl, gk, up⟩ := z
      have J2 := turned J nt up
      obtain ⟨oi, ei, ci, di⟩ := id gk
      refine go_of (s := { t with heap := k }) ei ci di (by decide) ?_
      have J3 : Inv (X.blk s3 H3 scope ce [it]) ([] ++ pinsAt [it] k) (wipe σ (own.map (·.2))) G { t with heap := k } := by
        refine J2.pinned (fun b hb => ?_) fun b hb => ?_
        · obtain rfl : b = it := by simpa using hb
          exact own_it J2 nt
        · obtain rfl : b = it := by simpa using hb
          exact ⟨oi, ei, fun v z => by rw [di] at z; cases z⟩
      refine thnF (pg.run _ _ _ G y u _ J3 ru (step y G ⟨rfl, fun zs hz => by rw [J.list_inj hz sq]; exact hy⟩)) fun _ t4 ⟨τ4, G4, J4, hw4, q4⟩ => ?_
      refine thnF (pt.run _ t4 τ4 G4 _ J4 q4) fun b t5 ⟨G5, J5, q5⟩ => ?_
      have again : ∀ {t' : Shared} {G' : Hp}, Inv (X.blk s3 H3 scope ce [it]) ([] ++ pinsAt [it] k) τ4 G' t' → Nx G' →
          ∃ m, m < n ∧ ∃ i G, Inv (X.blk s3 H3 scope ce [it]) [] (wipe σ (own.map (·.2))) G t' ∧ t'.heap.IsListIter it a i ∧ G it = none ∧ W i m G := fun {t' G'} J' nx => by
        obtain ⟨m', lt, w'⟩ := hNx G' nx
        have z := J'.pin (it, oi) (List.mem_append_right _ (List.mem_append_right _ (mem_pinsAt (by simp) ei)))
        have ll : (wipe σ (own.map (·.2))).length = τ4.length := by rw [← hw4, wipe_length]
        refine ⟨m', lt, i + 1, G', (J'.unpinned (pins := [])).weak ll fun j v e => ?_, ⟨oi, z.1, ci, di⟩, z.2.1, w'⟩
        rw [← hw4] at e
        exact (wipe_some e).1
      cases b with
      | false =>
        simp only [Bool.false_eq_true, if_false] at q5 ⊢
        exact again J5 q5
      | true =>
        simp only [if_true] at q5 ⊢
        refine thnF (pe.run _ t5 τ4 G5 _ J5 q5) fun z t6 ⟨yv, G6, J6, r6, acc, hD6, hz6, nx⟩ => ?_
        exact app_ok (X := X.blk s3 H3 scope ce [it]) J6 hD6 hz6 r6 fun t7 J7 => again J7 nx
  exact codeAny_compStart_list loop (wpAny_pyIter_listiter gi4 loop)
end
end Hu


set_option Elab.async false
set_option linter.all false
set_option maxRecDepth 100000
set_option maxHeartbeats 4000000
namespace Hu
open PySem PySem.Spec PyProof.Rows L2 HotX
section
variable {X : Cx}
/-- a comprehension over a list, as a value -/
theorem pe_lcU {elt tg l : Expr} {ifs : List Expr} {scope : Scope} {own : List (Str × Nat)} {pos : Pos} {tl : TE} {g : TG} {tt : TT} {te : TE}
    (F : Free X) (nd : X.N.Nodup) (hl : PE X l tl) (ok : BlkOk X.N X.env.scope scope own)
    (hg : ∀ (s : Shared) (H : Hp) (C : Addr) (cl : List (Str × Addr)) (fp : List Addr),
      Cooled (X.blk s H scope (compEnvC scope cl C X.env) fp) → PG (X.blk s H scope (compEnvC scope cl C X.env) fp) tg g)
    (ht : ∀ (s : Shared) (H : Hp) (C : Addr) (cl : List (Str × Addr)) (fp : List Addr),
      PTs (X.blk s H scope (compEnvC scope cl C X.env) fp) ifs tt)
    (he : ∀ (s : Shared) (H : Hp) (C : Addr) (cl : List (Str × Addr)) (fp : List Addr),
      PE (X.blk s H scope (compEnvC scope cl C X.env) fp) elt te)
    (hs : ∀ x, foldedSetIterable l X.env x = pure x := by intro _; rfl) :
    PE X (.ListComp elt [⟨tg, l, ifs, 0⟩] scope pos) (tLc (iList X.K tl) g tt te (own.map (·.2))) := by
  refine ⟨fun pins s σ H Q I h => ?_⟩
  rw [eval_ListComp]
  refine lcU F nd I hl ok hg ht he hs h fun D C s2 m G J q hn f => ?_
  obtain ⟨f0, f1, f2, f3, f4, f5⟩ := f
  exact ⟨m, hn, fun k sb => ⟨.ref D, G, J.turned (t' := s2.toks) (fun b o hb e => (sb.2 b hb).trans e) f0 f1 f3 f4 f5, rfl, q⟩⟩
/-- .. given to a local on the same row -/
theorem ps_lcU {i : Nat} {y : Str} {py : Pos} {elt tg l : Expr} {ifs : List Expr} {scope : Scope} {own : List (Str × Nat)} {pos spos : Pos}
    {tl : TE} {g : TG} {tt : TT} {te : TE} (F : Free X) (nd : X.N.Nodup) (hy : X.N[i]? = some y) (loc : X.env.scope.names.lookup y = some .local)
    (sw : swapsWith (.ListComp elt [⟨tg, l, ifs, 0⟩] scope pos) (some (.Name y py)) spos.line X.env = pure true)
    (hl : PE X l tl) (ok : BlkOk X.N X.env.scope scope own)
    (hg : ∀ (s : Shared) (H : Hp) (C : Addr) (cl : List (Str × Addr)) (fp : List Addr),
      Cooled (X.blk s H scope (compEnvC scope cl C X.env) fp) → PG (X.blk s H scope (compEnvC scope cl C X.env) fp) tg g)
    (ht : ∀ (s : Shared) (H : Hp) (C : Addr) (cl : List (Str × Addr)) (fp : List Addr),
      PTs (X.blk s H scope (compEnvC scope cl C X.env) fp) ifs tt)
    (he : ∀ (s : Shared) (H : Hp) (C : Addr) (cl : List (Str × Addr)) (fp : List Addr),
      PE (X.blk s H scope (compEnvC scope cl C X.env) fp) elt te)
    (hs : ∀ x, foldedSetIterable l X.env x = pure x := by intro _; rfl) :
    PS X (.Assign [.Name y py] (.ListComp elt [⟨tg, l, ifs, 0⟩] scope pos) spos) (tAsg (tLc (iList X.K tl) g tt te (own.map (·.2))) (gName i)) := by
  refine ⟨fun pins s σ H D I h => ?_⟩
  rw [exec_Assign_Name_used _ _ _ _ sw]
  refine wpAny_bind (wpAny_standAt (wpAny_bind ?_))
  have h1 : tLc (iList X.K tl) g tt te (own.map (·.2)) σ H (fun x G => gName i x σ G D.nx) := h
  show wpAny _ X.A (do
    let _ ← comprehension (.ListComp elt [⟨tg, l, ifs, 0⟩] scope pos) scope X.env (firstIterPos [⟨tg, l, ifs, 0⟩] pos) (newList []) false (eval l X.env) (some (assign (.Name y py) X.env))) _ _ s
  refine wpAny_bind (thn (lcU (Qf := fun _ s2 => SP X pins D .next s2) F nd I hl ok hg ht he hs h1 fun L C s2 m G J q hn f => ?_)
    fun _ s2 hq => wpAny_pure (wpAny_pure hq))
  show wpAny _ _ (assign (.Name y py) X.env (.ref L)) _ _ _
  obtain ⟨f0, f1, f2, f3, f4, f5⟩ := f
  refine wpAny_assign_Name (store_ok2 (v := V.ref L) J nd hy (.inl loc) rfl (fun s3 J3 z => ?_) (.inr loc))
  obtain ⟨a, sb, ha⟩ := z
  have nC : C ≠ a := by
    rcases ha with z | z
    · rw [z]
      exact f1
    · exact fun e => f4 y a z e.symm
  exact ⟨m, hn.sameBut sb nC, fun k sk => ⟨_, G, J3.turned (t' := s3.toks) (fun b o hb e => (sk.2 b hb).trans e) f0 f1 f3 f4 f5, q⟩⟩
end

/-! ### defs called while the exception p is handled, which they are told of -/
structure FnU (P : Program) (w : World) (K : PySem.W.Frag) (mg : Str → Option Value) (base : Heap) (k : Nat) (f : Addr) (fd : FuncData)
    (ps : List Str) (Z : Addr × Obj → List V → Prop) (sp : Sp) : Prop where
  len : ∀ vs H Q E, sp vs H Q E → vs.length = ps.length
  run : ∀ (A : Around) (outer : List Env) (s : Shared) (H : Hp) (args : Args) (us : List Value) (vs : List V) (Q : VK) (E : XK) (p : Addr × Obj),
    L2H.RoomH k A → L2H.Hot1 A p → L2H.PinOk outer H s p → Z p vs → Env0 P w K mg base A outer s H → BindsTo s fd args (ps.zip us) →
    Vals vs us → sp vs H Q E → codeAny (model P w) A (.call (.ref f) args) (CR CX0 outer P w H s Q E) s
section
variable {P : Program} {w : World} {K : PySem.W.Frag} {mg : Str → Option Value} {base : Heap}
theorem fn_ofU {k : Nat} {x qual : Str} {st : Stmt} {f : Addr} {fd : FuncData} {N ps : List Str} {Z : Addr × Obj → List V → Prop} {sp : Sp}
    (F : Fun K x qual st f fd) (S : FnScope N ps (defScope st)) (len : ∀ vs H Q E, sp vs H Q E → vs.length = ps.length)
    (hbody : ∀ (cdv : Value) (A : Around) (outer : List Env) (s : Shared) (H : Hp) (vs : List V) (Q : VK) (E : XK) (p : Addr × Obj),
      L2H.Hot1 A p → L2H.RoomH k (A.deeper (envOfC qual (defScope st) s.heap.objs.size f cdv)) → Z p vs → sp vs H Q E →
      ∃ t, PSs (L2H.cxH CX0 P w K mg base N qual (defScope st) f cdv A outer s H E p).nox (defBody st) t ∧
        t { nx := fun _ H' => Q .non H', rt := Q } (L2.start N vs) H) : FnU P w K mg base (k + 1) f fd ps Z sp := by
  obtain ⟨oc, od, kV, doc, pm, an, cdv, ct, osl, rfl, lk, hcd⟩ := F.ex
  refine ⟨len, fun A outer s H args us vs Q E p room hot pin z e0 hb r hsp => ?_⟩
  have hl := len _ _ _ _ hsp
  have kin : K.In s.heap := e0.mod.kin.keeps fun b o e => (e0.bs b o e).1
  have lim : s.heap.NoLimit := e0.mod.nolimit.keeps fun b o e => (e0.bs b o e).1
  have kinds : ∀ y ∈ ps.zip us, (defScope st).names.lookup y.1 = some .local ∨
      ((defScope st).names.lookup y.1 = some .cell ∧ ((cellsFrom (s.heap.objs.size + 1) (defScope st).names []).lookup y.1).isSome = true) := by
    rintro ⟨n, v⟩ hy
    rcases S.par n (List.of_mem_zip hy).1 with q | q
    · exact .inl q
    · exact .inr ⟨q, PySem.W.cellsFrom_some _ _ _ (.inl q)⟩
  refine codeAny_call_function room.depth (kin _ _ lk) rfl S.co S.gen rfl (PySem.W.codeRec_of kin hcd) (hb _ _ _ _ ?_)
  refine wpAny_newFunctionEnv_cells S.kind kinds fun env he s1 x => ?_
  subst he
  refine ⟨lim.keeps x.toInCall.keep, codeAny_func ?_⟩
  obtain ⟨t, ht, hq⟩ := hbody cdv A outer s H vs Q E p hot (room.deeper _) z hsp
  have I : Inv (L2H.cxH CX0 P w K mg base N qual (defScope st) f cdv A outer s H E p) [] (L2.start N vs) H s1 := L2H.inv_startH S pin e0 hl r x
  refine wpAny_mono (ht.nox.run [] s1 (L2.start N vs) H _ I hq) (fun fl s2 q => ?_) fun e s2 q => q
  cases fl with
  | next =>
    obtain ⟨σ2, H2, J, q⟩ := q
    exact ⟨.non, H2, J.os, J.bare, J.base, J.hok, rfl, q⟩
  | ret u =>
    obtain ⟨v, σ2, H2, J, rv, q⟩ := q
    exact ⟨v, H2, J.os, J.bare, J.base, J.hok, rv, q⟩
  | brk => obtain ⟨_, _, _, q⟩ := q; exact False.elim q
  | cont => obtain ⟨_, _, _, q⟩ := q; exact False.elim q
end
section
variable {X : Cx} {k : Nat} {f : Addr} {fd : FuncData} {ps : List Str} {Z : Addr × Obj → List V → Prop} {sp : Sp} {x : Str} {q pos : Pos} {e : Expr} {es : List Expr} {t : TA}
/-- such a call -/
def tCallU (a : Addr) (Y : Addr → List V → Prop) (sp : Sp) (t : TA) : TE := fun σ H Q => t σ H fun vs H1 => Y a vs ∧ sp vs H1 Q E0
theorem pe_callU {p : Addr × Obj} {Y : Addr → List V → Prop} (hZ : ∀ vs, Y p.1 vs → Z p vs) (F : FnU X.prog X.w X.K X.mg X.base k f fd ps Z sp) (hr : L2H.RoomH k X.A) (hot : L2H.Hot1 X.A p) (hp : p ∈ X.pn)
    (hg : Gl X x) (hm : X.mg x = some (.ref f)) (hk : PySem.W.keepIn X.K (.ref f) = true) (hb : Binds X.K fd ps []) (ha : PA X (e :: es) t)
    (hdb : (x == ("__debug__" : Str)) = false := by decide) (he : starEach (e :: es) X.env = (false, eval e X.env) :: starEach es X.env := by rfl)
    (hpl : (backTo pos (starEach es X.env)).any (·.1) = false := by rfl) : PE X (.Call (.Name x q) (e :: es) [] pos) (tCallU p.1 Y sp t) := by
  refine ⟨fun pins s σ H Q I h => ?_⟩
  refine wpAny_Call_Name_kw (ld_glob I hg hm ?_ hdb)
  refine PySem.W.callWith_K (h₀ := X.base) I.ok.mod.kin hk (thn (ha.run pos pins s σ H _ I h) fun us s1 ⟨vs, H1, I1, r, z, hsp⟩ => ⟨I1.kIn, ?_⟩) he hpl
  have hl : us.length = ps.length := by rw [← r.length]; exact F.len _ _ _ _ hsp
  have b := hb s1 us I1.kIn (by rw [List.append_nil]; exact hl)
  rw [List.append_nil] at b
  obtain ⟨g1, g2, g3, g4, g5⟩ := I1.pin p (List.mem_append_left _ hp)
  have pin : L2H.PinOk X.stack H1 s1 p := ⟨g1, g2, fun hm => (List.mem_cons.mp (I1.stkSub p.1 hm)).elim g3 g4, g5⟩
  refine wpAny_call (codeAny_mono (F.run X.A X.stack s1 H1 ⟨us, []⟩ us vs Q E0 p hr hot pin (hZ vs z) I1.env0 b r hsp) fun r s2 hq => ?_)
  cases r with
  | error e => exact False.elim hq
  | ok fl =>
    cases fl with
    | ret u => exact I1.after hq
    | next => exact False.elim hq
    | brk => exact False.elim hq
    | cont => exact False.elim hq
end

/-! ### isinstance(e, C), e an exception of the own class D at a -/
def rIsG (K : PySem.W.Frag) (D a : Addr) (Hk : Hp → Prop) : List V → Hp → VK → Prop := fun xs H Q =>
  ∃ (c : V) (cv : Value) (b : Bool), xs = [.ref a, c] ∧ Hk H ∧ (∀ u, RelV c u → u = cv) ∧ PySem.W.kitOne K (.ref D) cv = some b ∧ Q (.bl b) H
theorem isG {X : Cx} {a D : Addr} {Hk : Hp → Prop} (C : ExcC X.K D)
    (st : ∀ (pins : List (Addr × Obj)) (σ : L2.St) (H : Hp) (s : Shared), Inv X pins σ H s → Hk H → ∃ oe, PySem.W.InstAt s.heap a oe D none) :
    CallR X (.builtin "isinstance") (rIsG X.K D a Hk) := by
  intro pins s σ H xs us Q I r h
  obtain ⟨c, cv, b, rfl, hk, hcv, e, q⟩ := h
  obtain ⟨u1, u2, rfl, r1, r2⟩ := vals2 r
  obtain rfl : u1 = Value.ref a := r1
  obtain rfl := hcv _ r2
  obtain ⟨oe, J⟩ := st pins σ H s I hk
  exact PySem.W.kia_one (PySem.W.handS_kitx_exc C.hg C.hk C.hs C.hd C.ha C.hn C.ht C.hm) I.kIn J e (fun z => nomatch z) fun tk =>
    ⟨.bl b, H, I.kept (t' := tk) fun _ _ z => z, rfl, q⟩
theorem inst_of {h : Heap} {a D : Addr} {oe : Obj} (g : h.get? a = some oe) (z : Zc (.ref D) none oe) (f : ∃ vs, oe.data = .fields vs) : PySem.W.InstAt h a oe D none := by
  obtain ⟨oc, od, dt, sl⟩ := oe
  obtain ⟨h1, h2⟩ := z
  obtain ⟨vs, h3⟩ := f
  dsimp only at h1 h2 h3
  subst h1 h2 h3
  exact ⟨g, rfl, rfl, trivial⟩
/-- the exception is the context's pin -/
theorem isPin {X : Cx} {D : Addr} {p : Addr × Obj} (C : ExcC X.K D) (hp : p ∈ X.pn) (z : Zc (.ref D) none p.2) (f : ∃ vs, p.2.data = .fields vs) :
    CallR X (.builtin "isinstance") (rIsG X.K D p.1 fun _ => True) :=
  isG C fun pins σ H s I _ => ⟨p.2, inst_of (I.pin p (List.mem_append_left _ hp)).1 z f⟩
/-- the exception is tracked -/
theorem isExO {X : Cx} {D a : Addr} (C : ExcC X.K D) : CallR X (.builtin "isinstance") (rIsG X.K D a fun H => H a = some (ExO (.ref D) a)) :=
  isG C fun pins σ H s I e => by
    obtain ⟨⟨oe, vs, g, z, d, _⟩, _, _⟩ := I.hok a _ e
    exact ⟨oe, inst_of g z ⟨vs, d⟩⟩
end Hu


set_option Elab.async false
set_option linter.all false
set_option maxRecDepth 100000
set_option maxHeartbeats 4000000
namespace Hu
open PySem PySem.Spec PyProof.Rows L2
/-! ### defs of the module -/
structure GD (P : Program) (w : World) (K : PySem.W.Frag) (mg : Str → Option Value) (base : Heap) (CX : CXT) (x : Str) (ps : List Str) (k : Nat) (sp : Sp) : Prop where
  ex : ∃ f fd, FnOk P w K mg base CX k f fd ps sp ∧ mg x = some (.ref f) ∧ PySem.W.keepIn K (.ref f) = true ∧ Binds K fd ps []
section
variable {X : Cx} {CX : CXT} {x : Str} {ps : List Str} {k : Nat} {sp : Sp} {E : XK} {q pos : Pos} {e : Expr} {es : List Expr} {t : TA}
theorem pe_gd (D : GD X.prog X.w X.K X.mg X.base CX x ps k sp) (hr : Room k X.A) (hg : Gl X x) (hx : Passes CX X E) (ha : PA X (e :: es) t)
    (hdb : (x == ("__debug__" : Str)) = false := by decide) (he : starEach (e :: es) X.env = (false, eval e X.env) :: starEach es X.env := by rfl)
    (hpl : (backTo pos (starEach es X.env)).any (·.1) = false := by rfl) : PE X (.Call (.Name x q) (e :: es) [] pos) (tCall sp [] E t) := by
  obtain ⟨f, fd, G, hm, hk, b⟩ := D.ex
  exact pe_call G hr hg hm hk b .nil hx ha hdb he hpl
theorem pe_gd0 (D : GD X.prog X.w X.K X.mg X.base CX x ps k sp) (hr : Room k X.A) (hg : Gl X x) (hx : Passes CX X E)
    (hdb : (x == ("__debug__" : Str)) = false := by decide) : PE X (.Call (.Name x q) [] [] pos) (tCall sp [] E tNil) := by
  obtain ⟨f, fd, G, hm, hk, b⟩ := D.ex
  exact pe_call0 G hr hg hm hk b .nil hx hdb
theorem pe_gdS {E : L2.St → XK} (D : GD X.prog X.w X.K X.mg X.base CX x ps k sp) (hr : Room k X.A) (hg : Gl X x) (hx : ∀ σ, PassesAt CX X σ (E σ)) (ha : PA X (e :: es) t)
    (hdb : (x == ("__debug__" : Str)) = false := by decide) (he : starEach (e :: es) X.env = (false, eval e X.env) :: starEach es X.env := by rfl)
    (hpl : (backTo pos (starEach es X.env)).any (·.1) = false := by rfl) : PE X (.Call (.Name x q) (e :: es) [] pos) (tCallS sp E t) := by
  obtain ⟨f, fd, G, hm, hk, b⟩ := D.ex
  exact pe_callS G hr hg hm hk b hx ha hdb he hpl
end
/-- all that was tracked but p is as it was -/
def But (p : Addr) (H H' : Hp) : Prop := ∀ b o, H b = some o → b ≠ p → H' b = some o
theorem But.of {p : Addr} {H H' : Hp} (s : Same H H') : But p H H' := fun b o e _ => s b o e
theorem But.trans {p : Addr} {H H1 H2 : Hp} (a : But p H H1) (b : But p H1 H2) : But p H H2 := fun c o e n => b c o (a c o e n) n
theorem But.upd {p : Addr} {H H' : Hp} {o : HO} (a : But p H H') : But p H (L2.upd H' p o) := fun c u e n => by
  rw [upd_ne n]
  exact a c u e n
theorem Same.new {H : Hp} {p : Addr} {o : HO} (n : H p = none) : Same H (L2.upd H p o) := fun b u e => by
  rw [upd_ne (ne_of_none e n)]
  exact e
/-- a pot: two numbers, the first not below 0 -/
def Pot (H : Hp) (p : Addr) : Prop := ∃ x y : Int, H p = some (.lst [.int x, .int y]) ∧ 0 ≤ x
theorem at_ofN {xs : List Nat} {z : Int} {v : Nat} (h0 : 0 ≤ z) (h : xs[z.toNat]? = some v) : atI xs z = some v := by
  have e : z = (z.toNat : Int) := by omega
  rw [e]
  exact atI_nat (by simpa using h)
theorem len_app (a b : Str) : (a ++ b).length = a.length + b.length := by
  show (a.cps ++ b.cps).size = a.cps.size + b.cps.size
  exact Array.size_append
end Hu

namespace K17
open PySem PySem.Spec PyProof.Rows L2 Hu
def top (i : Nat) : Stmt := PySem.Challenge.pw_giftstreams_k17_refusals_made.main.body.getD i (.Pass ⟨0, 0, 0, 0⟩)
abbrev sPot : Stmt := top 24
abbrev sDigit : Stmt := top 25
abbrev sText : Stmt := top 27
/-- names of Python's own that the module doesn't give away -/
structure Blt (mg : Str → Option Value) : Prop where
  len : mg "len" = none
  divmod : mg "divmod" = none
  range : mg "range" = none
  isinstance : mg "isinstance" = none
  max : mg "max" = none
  min : mg "min" = none
  list : mg "list" = none
  all : mg "all" = none
  any : mg "any" = none
  valueError : mg "ValueError" = none
def spPot (K : PySem.W.Frag) : Sp := fun vs H Q _ => ∃ (a : Addr) (ns : List Int) (k : Int), vs = [.ref a, .int k] ∧ SqL K H a (ns.map V.int) ∧ 0 ≤ k ∧ k ≤ 63 ∧
  ∀ p H', H p = none → Same H H' → Pot H' p → Q (.ref p) H'
def spDigit : Sp := fun vs H Q _ => ∃ (p : Addr) (m : Int), vs = [.ref p, .int m] ∧ Pot H p ∧ 0 < m ∧ m < 2 ^ 64 ∧
  ∀ (d : Int) (H' : Hp), 0 ≤ d → d < m → Pot H' p → But p H H' → Q (.int d) H'
section
variable {P : Program} {w : World} {K : PySem.W.Frag} {mg : Str → Option Value} {base : Heap}
theorem scPot : FnScope ["_law_script", "_law_k", "_law_cell"] ["_law_script", "_law_k"] (defScope sPot) := ⟨rfl, rfl, rfl, by decide +kernel, rfl, by decide +kernel, by decide +kernel⟩
theorem ok_pot {f : Addr} {fd : FuncData} (F : Fun K "_law_pot" "_law_pot" sPot f fd) (B : Blt mg) : FnOk P w K mg base CX0 1 f fd ["_law_script", "_law_k"] (spPot K) := by
  refine F.ok scPot (fun vs H Q E h => ?_) (fun cdv A outer s H vs Q E hr h => ?_)
  · obtain ⟨a, ns, k, rfl, _⟩ := h
    rfl
  · obtain ⟨a, ns, k, rfl, sq, h0, h63, fin⟩ := h
    refine ⟨_, pss_cons (ps_set (i := 2) scPot.nd rfl (Or.inl rfl) (pe_ifExp (pt_cmpR op_lt (pv 1) (pe_callB call_len_seq (by rfl) B.len boot_len (pa_cons (pv 0) pa_nil)) (nomark _)) (pe_ix ix_list (pv 0) (pv 1) (fun _ _ => rfl)) pe_int))
      (pss_cons (ps_if (pt_cmpR op_ge (pv 2) (pe_op op_pow pe_int pe_int) (nomark _))
        (pss_one (ps_ret (pe_lst (pa_cons (pe_op op_sub (pv 2) (pe_op op_pow pe_int pe_int)) (pa_cons (pe_op op_add (pe_op op_add (pe_op op_mod (pv 2) pe_int) (pe_op op_mul pe_int (pv 1))) pe_int) pa_nil)))))
        pss_nil)
      (pss_one (ps_ret (pe_lst (pa_cons pe_int (pa_cons (pe_op op_add (pe_op op_add (pe_op op_mod (pv 2) pe_int) (pe_op op_mul pe_int (pv 1))) pe_int) pa_nil)))))), ?_⟩
    refine ⟨_, rfl, _, rfl, a, _, rfl, .inl sq, _, _, rfl, rfl, _, rfl, ite2 (fun hk => ?_) (fun hk => ?_)⟩
    · have hk : k < ((ns.map V.int).length : Nat) := of_decide_eq_true hk
      rw [List.length_map] at hk
      obtain ⟨z, hz⟩ : ∃ z, ns[k.toNat]? = some z := ⟨ns[k.toNat]'(by omega), List.getElem?_eq_getElem (by omega)⟩
      refine ⟨_, rfl, _, rfl, a, _, k, .int z, rfl, rfl, sq, at_of (j := k.toNat) (by omega) (by simp [hz]), ?_⟩
      revert z
      intro z _
      refine ⟨_, rfl, _, _, rfl, rfl, ⟨by decide, by decide, by decide⟩, _, _, rfl, rfl, _, rfl, ite2 (fun hz => ?_) (fun hz => ?_)⟩
      · have hz : (10 : Int) ^ (18 : Int).toNat ≤ z := of_decide_eq_true hz
        refine ⟨_, rfl, _, _, rfl, rfl, ⟨by decide, by decide, by decide⟩, _, _, rfl, rfl, _, rfl, _, _, rfl, rfl, (by show (0 : Int) < 2147483629; decide), _, rfl, _, _, rfl, rfl, .inl ⟨by decide, by decide⟩, _, _, rfl, rfl, _, _, rfl, rfl,
          (by show 2 ≤ sizeLine; decide), fun p np => ?_⟩
        exact fin p _ np (Same.new np) ⟨_, _, upd_same, by omega⟩
      · refine ⟨_, rfl, _, _, rfl, rfl, (by show (0 : Int) < 2147483629; decide), _, rfl, _, _, rfl, rfl, .inl ⟨by decide, by decide⟩, _, _, rfl, rfl, _, _, rfl, rfl,
          (by show 2 ≤ sizeLine; decide), fun p np => ?_⟩
        exact fin p _ np (Same.new np) ⟨_, _, upd_same, by decide⟩
    · refine ⟨_, rfl, _, _, rfl, rfl, ⟨by decide, by decide, by decide⟩, _, _, rfl, rfl, _, rfl, ite2 (fun hz => ?_) (fun hz => ?_)⟩
      · have hz : (10 : Int) ^ (18 : Int).toNat ≤ 0 := of_decide_eq_true hz
        exact absurd hz (by decide)
      · refine ⟨_, rfl, _, _, rfl, rfl, (by show (0 : Int) < 2147483629; decide), _, rfl, _, _, rfl, rfl, .inl ⟨by decide, by decide⟩, _, _, rfl, rfl, _, _, rfl, rfl,
          (by show 2 ≤ sizeLine; decide), fun p np => ?_⟩
        exact fin p _ np (Same.new np) ⟨_, _, upd_same, by decide⟩
theorem scDigit : FnScope ["_law_pot_here", "_law_many", "_law_digit_here"] ["_law_pot_here", "_law_many"] (defScope sDigit) := ⟨rfl, rfl, rfl, by decide +kernel, rfl, by decide +kernel, by decide +kernel⟩
theorem divP {i j : Int} (h0 : 0 < j) (h : j < 2 ^ 64) : CDivP i j := by
  refine ⟨h0, ?_⟩
  show (decide ((if j == 0 then 0 else j.natAbs.log2 / 30 + 1) > 300) && _) = false
  have n0 : ¬ (j == 0) = true := by simp; omega
  rw [if_neg n0]
  have l : j.natAbs.log2 < 64 := by
    refine (Nat.log2_lt (by omega)).mpr ?_
    omega
  rw [decide_eq_false (by omega), Bool.false_and]
theorem ok_digit {f : Addr} {fd : FuncData} (F : Fun K "_law_digit" "_law_digit" sDigit f fd) (B : Blt mg) : FnOk P w K mg base CX0 1 f fd ["_law_pot_here", "_law_many"] spDigit := by
  refine F.ok scDigit (fun vs H Q E h => ?_) (fun cdv A outer s H vs Q E hr h => ?_)
  · obtain ⟨p, m, rfl, _⟩ := h
    rfl
  · obtain ⟨p, m, rfl, ⟨x, y, hp, hx⟩, hm, hm2, fin⟩ := h
    refine ⟨_, pss_cons (ps_if (pt_cmpR op_gt (pe_ix ix_list (pv 0) pe_int (fun _ _ => rfl)) pe_int (nomark _))
        (pss_cons (ps_asg (pe_callB call_divmodW (by rfl) B.divmod boot_divmod (pa_cons (pe_ix ix_list (pv 0) pe_int (fun _ _ => rfl)) (pa_cons (pv 1) pa_nil)))
          (pg_tup rfl (pgs_cons (pg_sub (pv 0) pe_int set_list) (pgs_cons (pg_name (i := 2) scDigit.nd rfl (.inl rfl)) pgs_nil))))
          (pss_one (ps_ret (pv 2))))
        pss_nil)
      (pss_cons (ps_asg (pe_op op_mod (pe_op op_add (pe_op op_mul (pe_ix ix_list (pv 0) pe_int (fun _ _ => rfl)) pe_int) pe_int) pe_int) (pg_sub (pv 0) pe_int set_list))
      (pss_one (ps_ret (pe_op op_mod (pe_op op_fdiv (pe_op op_mod (pe_op op_mul (pe_ix ix_list (pv 0) pe_int (fun _ _ => rfl)) (pe_ix ix_list (pv 0) pe_int (fun _ _ => rfl))) pe_int) pe_int) (pv 1))))), ?_⟩
    refine ⟨_, rfl, p, _, _, _, rfl, rfl, SqL.of hp, rfl, _, _, rfl, rfl, _, rfl, ite2 (fun h0 => ?_) (fun h0 => ?_)⟩
    · refine ⟨_, rfl, p, _, _, _, rfl, rfl, SqL.of hp, rfl, _, rfl, _, _, rfl, divP hm hm2, fun t nt => ?_⟩
      have npt : p ≠ t := ne_of_none hp nt
      refine ⟨t, _, rfl, SqT.of upd_same, rfl, _, _, rfl, ⟨_, rfl, p, _, _, 0, rfl, rfl, (by rw [upd_ne npt]; exact hp), rfl, _, _, rfl, rfl, _, rfl, ?_⟩⟩
      refine fin _ _ (Int.emod_nonneg _ (by omega)) (Int.emod_lt_of_pos _ hm) ⟨_, _, upd_same, Int.ediv_nonneg hx (by omega)⟩ ?_
      exact (But.of (Same.new nt)).upd
    · refine ⟨_, rfl, p, _, _, _, rfl, rfl, SqL.of hp, rfl, _, _, rfl, rfl, .inr ⟨by decide, by decide⟩, _, _, rfl, rfl, _, _, rfl, rfl, (by show (0 : Int) < 2147483647; decide), _, rfl, p, _, _, 1, rfl, rfl, hp, rfl, ?_⟩
      have b1 : 0 ≤ (y * 48271 + 12345) % 2147483647 := Int.emod_nonneg _ (by decide)
      have b2 : (y * 48271 + 12345) % 2147483647 < 2147483647 := Int.emod_lt_of_pos _ (by decide)
      refine ⟨_, rfl, p, _, _, _, rfl, rfl, SqL.of upd_same, rfl, _, rfl, p, _, _, _, rfl, rfl, SqL.of upd_same, rfl, _, _, rfl, rfl, .inl ⟨by omega, by omega⟩, _, _, rfl, rfl, (by show (0 : Int) < 2147483629; decide), _, _, rfl, rfl, ⟨by decide, by decide⟩,
        _, rfl, _, _, rfl, rfl, hm, ?_⟩
      exact fin _ _ (Int.emod_nonneg _ (by omega)) (Int.emod_lt_of_pos _ hm) ⟨_, _, upd_same, hx⟩ ((But.of (Same.refl H)).upd)
def signs : Str := match defBody sText with
  | .Assign _ (.Constant (.str x) _ _) _ :: _ => x
  | _ => ""
theorem signs_len : signs.length = 90 := by decide +kernel
def spText : Sp := fun vs H Q _ => ∃ p : Addr, vs = [.ref p] ∧ Pot H p ∧
  ∀ (z : Str) (H' : Hp), z.length ≤ 40 → Pot H' p → But p H H' → Q (.str z) H'
theorem scText : FnScope ["_law_pot_here", "_law_signs", "_law_text_here", "_law_k"] ["_law_pot_here"] (defScope sText) := ⟨rfl, rfl, rfl, by decide +kernel, rfl, by decide +kernel, by decide +kernel⟩
theorem ok_text {f : Addr} {fd : FuncData} (F : Fun K "_law_text" "_law_text" sText f fd) (B : Blt mg)
    (D : GD P w K mg base CX0 "_law_digit" ["_law_pot_here", "_law_many"] 1 spDigit) : FnOk P w K mg base CX0 2 f fd ["_law_pot_here"] spText := by
  refine F.ok scText (fun vs H Q E h => ?_) (fun cdv A outer s H vs Q E hr h => ?_)
  · obtain ⟨p, rfl, _⟩ := h
    rfl
  · obtain ⟨p, rfl, hp, fin⟩ := h
    refine ⟨_, pss_cons (ps_set (i := 1) scText.nd rfl (.inl rfl) pe_str)
      (pss_cons (ps_set (i := 2) scText.nd rfl (.inl rfl) pe_str)
      (pss_cons (ps_for PassesOwn.never rfl (pi_range1 rfl B.range (pa_cons (pe_gd D hr rfl pass0 (pa_cons (pv 0) (pa_cons pe_int pa_nil))) pa_nil)) (pg_name (i := 3) scText.nd rfl (.inl rfl))
        (pss_one (ps_set (i := 2) scText.nd rfl (.inl rfl) (pe_op op_add_str (pv 2) (pe_ix ix_str (pv 1) (pe_gd D hr rfl pass0 (pa_cons (pv 0) (pa_cons (pe_callB call_len_str (by rfl) B.len boot_len (pa_cons (pv 1) pa_nil)) pa_nil))) (fun _ _ => rfl))))))
      (pss_one (ps_ret (pv 2))))), ?_⟩
    refine ⟨_, rfl, p, 41, rfl, hp, by decide, by decide, fun d H1 d0 d1 p1 b1 => ?_⟩
    refine ⟨d, rfl, by omega, by omega, for_range (lo := 0) (n := d.toNat) (fun i σ G => ∃ (z : Str) (v : Option V), σ = [some (.ref p), some (.str signs), some (.str z), v] ∧ z.length ≤ i ∧ Pot G p ∧ But p H G)
      ⟨_, _, rfl, (by decide), p1, b1⟩ ?_ ?_⟩
    · rintro i σ G hi ⟨z, v, rfl, hz, pg, bg⟩
      refine ⟨_, rfl, _, rfl, _, rfl, _, rfl, signs, rfl, (by rw [signs_len]; decide), p, _, rfl, pg, (by rw [signs_len]; decide), (by rw [signs_len]; decide), fun e G2 e0 e1 p2 b2 => ?_⟩
      rw [signs_len] at e1
      obtain ⟨c, hc⟩ : ∃ c, signs.cps.toList[e.toNat]? = some c := by
        have l : signs.cps.toList.length = 90 := by decide +kernel
        exact ⟨signs.cps.toList[e.toNat]'(by omega), by simp⟩
      refine ⟨signs, e, c, rfl, rfl, (by rw [signs_len]; decide), at_ofN (by omega) hc, z, _, rfl, rfl, ?_, ⟨_, _, rfl, ?_, p2, bg.trans b2⟩⟩
      · show z.length + 1 ≤ sizeLine
        rw [sizeLine_eq]
        omega
      · rw [len_app]
        show z.length + 1 ≤ i + 1
        omega
    · rintro σ G ⟨z, v, rfl, hz, pg, bg⟩
      exact ⟨_, rfl, fin z G (by omega) pg bg⟩
end
end K17


set_option Elab.async false
set_option linter.all false
set_option maxRecDepth 100000
set_option maxHeartbeats 4000000
namespace Hu
open PySem PySem.Spec PyProof.Rows L2
/-! ### exceptions of own classes -/
section
variable {X : Cx} {C : Addr} {bmB : List Value} {B newId initId : String} {x : Str} {e : Expr} {ta : TE} {p pos : Pos}
/-- raise C(e): the exception's own context is None -/
theorem mk_excN (F : ExcBaseFacts B newId initId bmB) (q : PySem.W.excIn X.K C bmB newId = true) (gC : X.mg x = some (.ref C))
    (kC : PySem.W.keepIn X.K (.ref C) = true) (r : Raises X (.ref C)) (hg : Gl X x) (he : PE X e ta)
    (hs : starEach [e] X.env = (false, eval e X.env) :: starEach [] X.env := by rfl) (hdb : (x == ("__debug__" : Str)) = false := by decide) :
    L2N.PMk X (.Call (.Name x p) [e] [] pos) (fun σ H Q => ta σ H fun _ H1 => Q (.ref C) none H1) := by
  intro pins s σ H Q I h
  refine wpAny_Call_Name_kw (ld_glob I hg gC ?_ hdb)
  refine PySem.W.callWith_K (h₀ := X.base) I.ok.mod.kin kC ?_ hs (by rfl)
  rw [hs]
  refine Calls.spliced_cons (thn (he.run pins s σ H _ I h) fun u s1 z => Calls.spliced_nil ?_)
  obtain ⟨v, H1, I1, _, q1⟩ := z
  refine ⟨I1.kIn, ?_⟩
  obtain ⟨_, _, _, _, _, _, _, _, _, _, _, _, _, _, _, _, _, hC, hN, hni, T⟩ := exc_obj I1.kIn q
  exact wpAny_call_exc_subT F T hC hN hni (fun k a hm => L2N.mk_of I1 hm r q1 (I1.hok.gone hm.new)) (by show 1 ≤ sizeLine; rw [sizeLine_eq]; omega)
/-- C(), as a value -/
theorem pe_exc0 (F : ExcBaseFacts B newId initId bmB) (q : PySem.W.excIn X.K C bmB newId = true) (gC : X.mg x = some (.ref C))
    (kC : PySem.W.keepIn X.K (.ref C) = true) (hg : Gl X x) (hdb : (x == ("__debug__" : Str)) = false := by decide) :
    PE X (.Call (.Name x p) [] [] pos) (fun _ H Q => ∀ a, H a = none → Q (.ref a) (upd H a (ExO (.ref C) a))) := by
  refine ⟨fun pins s σ H Q I h => ?_⟩
  refine wpAny_Call_Name_kw (ld_glob I hg gC ?_ hdb)
  refine PySem.W.callWith_K0 I.kIn kC ?_
  obtain ⟨_, _, _, _, _, _, _, _, _, _, _, _, _, _, _, _, _, hC, hN, hni, T⟩ := exc_obj I.kIn q
  refine wpAny_call_exc_subT F T hC hN hni (fun k a hm => ?_) (by show 0 ≤ sizeLine; exact Nat.zero_le _)
  have hn : H a = none := I.hok.gone hm.new
  obtain ⟨t, ht, _, _⟩ := hm.there
  exact ⟨.ref a, upd H a (ExO (.ref C) a), I.laidN hm.keeps hm.new hn (exO_ok ht ⟨rfl, rfl⟩ rfl rfl rfl (show 4 < 6 by decide)), rfl, h a hn⟩
end
/-- a reading that leaves open which of several it is -/
theorem pss_ex {X : Cx} {st : List Stmt} {ι : Type} {C : ι → Prop} {t : ι → TS} (h : ∀ j, C j → PSs X st (t j)) : PSs X st (fun D σ H => ∃ j, C j ∧ t j D σ H) :=
  ⟨fun pins s σ H D I q => by
    obtain ⟨j, c, q⟩ := q
    exact (h j c).run pins s σ H D I q⟩
/-- what a class of exceptions is known by -/
structure ExcT (K : PySem.W.Frag) (mg : Str → Option Value) (x : Str) (C G : Addr) : Prop where
  mg_ : mg x = some (.ref C)
  exc : PySem.W.excIn K C [.type "ValueError", .type "Exception", .type "BaseException", .type "object"] "ValueError.__new__" = true
  kp : PySem.W.keepIn K (.ref C) = true
  ty : PySem.W.typeIn K (.ref C) = some (.type "type")
  c : ExcC K C
  ve : PySem.W.kitOne K (.ref C) (.type "ValueError") = some true
  up : PySem.W.kitOne K (.ref C) (.ref G) = some true
theorem ExcT.raises {X : Cx} {x : Str} {C G : Addr} (T : ExcT X.K X.mg x C G) : Raises X (.ref C) := raises_own T.c.hs T.ty
/-- isinstance(e, C) of tracked exceptions -/
def rIsO (K : PySem.W.Frag) : List V → Hp → VK → Prop := fun xs H Q =>
  ∃ (a D : Addr) (c : V) (cv : Value) (b : Bool), xs = [.ref a, c] ∧ ExcC K D ∧ H a = some (ExO (.ref D) a) ∧ (∀ u, RelV c u → u = cv) ∧ PySem.W.kitOne K (.ref D) cv = some b ∧ Q (.bl b) H
theorem isO {X : Cx} : CallR X (.builtin "isinstance") (rIsO X.K) := by
  intro pins s σ H xs us Q I r h
  obtain ⟨a, D, c, cv, b, e, hC, ha, hcv, hk, q⟩ := h
  exact isExO (a := a) hC pins s σ H xs us Q I r ⟨c, cv, b, e, ha, hcv, hk, q⟩
/-! ### rows of pairs (a text, a truth) -/
def Tups (H : Hp) (ts : List Addr) (xs : List (Str × Bool)) : Prop := Paired (fun t x => H t = some (.tup [.str x.1, .bl x.2])) ts xs
theorem Tups.same {H H' : Hp} (s : Same H H') : ∀ {ts : List Addr} {xs : List (Str × Bool)}, Tups H ts xs → Tups H' ts xs
  | _, _, .nil => .nil
  | _, _, .cons a b => .cons (s _ _ a) (Tups.same s b)
theorem Tups.app {H : Hp} : ∀ {ts us : List Addr} {xs ys : List (Str × Bool)}, Tups H ts xs → Tups H us ys → Tups H (ts ++ us) (xs ++ ys)
  | _, _, _, _, .nil, b => b
  | _, _, _, _, .cons a r, b => .cons a (Tups.app r b)
theorem Tups.len {H : Hp} {ts : List Addr} {xs : List (Str × Bool)} (h : Tups H ts xs) : ts.length = xs.length := Paired.length h
theorem Tups.at_ {H : Hp} : ∀ {ts : List Addr} {xs : List (Str × Bool)} {i : Nat} {t : Addr}, Tups H ts xs → ts[i]? = some t → ∃ x, xs[i]? = some x ∧ H t = some (.tup [.str x.1, .bl x.2])
  | _, _, _, _, .nil, e => by simp at e
  | _, _, 0, _, .cons a _, e => by
    simp at e
    subst e
    exact ⟨_, rfl, a⟩
  | _, _, i + 1, _, .cons _ r, e => by
    obtain ⟨x, h1, h2⟩ := Tups.at_ (i := i) r (by simpa using e)
    exact ⟨x, by simpa using h1, h2⟩
/-- the list at l holds them -/
def Some2 (H : Hp) (l : Addr) (xs : List (Str × Bool)) : Prop := ∃ ts : List Addr, H l = some (.lst (ts.map V.ref)) ∧ Tups H ts xs
theorem Some2.same {H H' : Hp} {l : Addr} {xs : List (Str × Bool)} (s : Same H H') (h : Some2 H l xs) : Some2 H' l xs := by
  obtain ⟨ts, a, b⟩ := h
  exact ⟨ts, s _ _ a, b.same s⟩
/-- arguments that make such pairs -/
def Makes (Hk : Hp → Prop) (σ : L2.St) (tA : TA) (xs : List (Str × Bool)) : Prop := ∀ (H : Hp) (Q : List V → Hp → Prop), Hk H →
  (∀ ts H', Same H H' → Hk H' → Tups H' ts xs → Q (ts.map V.ref) H') → tA σ H Q
theorem makes_nil {Hk : Hp → Prop} {σ : L2.St} : Makes Hk σ tNil [] := fun H Q hk k => k [] H (Same.refl H) hk .nil
/-- how isinstance is asked of the exception at a, of class D -/
def Asks (K : PySem.W.Frag) (D a : Addr) (Hk : Hp → Prop) (r : List V → Hp → VK → Prop) : Prop := ∀ (H : Hp) (Q : VK) (c : V) (cv : Value) (b : Bool),
  Hk H → (∀ u, RelV c u → u = cv) → PySem.W.kitOne K (.ref D) cv = some b → Q (.bl b) H → r [.ref a, c] H Q
theorem makes_cons {K : PySem.W.Frag} {D a C : Addr} {Hk : Hp → Prop} {r : List V → Hp → VK → Prop} {σ : L2.St} {n : Str} {b : Bool} {tr : TA} {xs : List (Str × Bool)} (R : Asks K D a Hk r)
    (st : ∀ H H', Same H H' → Hk H → Hk H') (hσ : σ[0]? = some (some (.ref a))) (e : PySem.W.kitOne K (.ref D) (.ref C) = some b) (m : Makes Hk σ tr xs) :
    Makes Hk σ (tCons (tTup (tCons (tC (.str n)) (tCons (tCB r (tCons (tVar 0) (tCons (tC (.ref C)) tNil))) tNil))) tr) ((n, b) :: xs) := fun H Q hk k => by
  refine ⟨_, hσ, R H _ _ _ b hk (fun u q => q) e ?_⟩
  refine ⟨(by show 2 ≤ sizeLine; decide), fun p np => m _ _ (st _ _ (Same.new np) hk) fun ts H' s hk' tt => ?_⟩
  exact k (p :: ts) H' (fun c o z => s _ _ (Same.new np c o z)) hk' (.cons (s _ _ upd_same) tt)
theorem q_first {Hk : Hp → Prop} {σ : L2.St} {tA : TA} {xs : List (Str × Bool)} {u : TS} {D : Ends} {H : Hp} (st : ∀ H H', Same H H' → Hk H → Hk H') (m : Makes Hk σ tA xs) (hk : Hk H) (hl : xs.length ≤ 100)
    (k : ∀ l H', Same H H' → Hk H' → Some2 H' l xs → u D (σ.set 1 (some (.ref l))) H') : tSeq (tAsg (tLst tA) (gName 1)) u D σ H :=
  m H _ hk fun ts H' s hk' tt => ⟨by
    rw [List.length_map, tt.len, sizeLine_eq]
    omega, fun l hl => k l _ (fun c o z => Same.new hl _ _ (s c o z)) (st _ _ (Same.new hl) hk') ⟨ts, upd_same, tt.same (Same.new hl)⟩⟩
theorem q_more {Hk : Hp → Prop} {σ : L2.St} {tA : TA} {l : Addr} {xs ys : List (Str × Bool)} {u : TS} {D : Ends} {H : Hp} (st : ∀ H H', Same H H' → Hk H → Hk H') (m : Makes Hk σ tA ys) (hk : Hk H)
    (hσ : σ[1]? = some (some (.ref l))) (hL : Some2 H l xs) (hl : xs.length + ys.length ≤ 100)
    (k : ∀ l' H', Same H H' → Hk H' → Some2 H' l' (xs ++ ys) → u D (σ.set 1 (some (.ref l'))) H') : tSeq (tAsg (tOp rCat (tVar 1) (tLst tA)) (gName 1)) u D σ H := by
  refine ⟨_, hσ, m H _ hk fun ts H1 s hk1 tt => ⟨by
    rw [List.length_map, tt.len, sizeLine_eq]
    omega, fun l2 n2 => ?_⟩⟩
  obtain ⟨us, hu, tu⟩ := hL
  refine ⟨l, l2, _, _, rfl, rfl, Same.new n2 _ _ (s _ _ hu), upd_same, (by rw [List.length_map, List.length_map, tt.len, tu.len, sizeLine_eq]; omega), fun p np => ?_⟩
  have s2 : Same H (upd H1 l2 (.lst (ts.map V.ref))) := fun c o z => Same.new n2 _ _ (s c o z)
  refine k p _ (fun c o z => Same.new np _ _ (s2 c o z)) (st _ _ (Same.new np) (st _ _ (Same.new n2) hk1)) ⟨us ++ ts, ?_, ?_⟩
  · rw [upd_same, List.map_append]
  · exact ((tu.same s2).same (Same.new np)).app ((tt.same (Same.new n2)).same (Same.new np))
/-- the texts whose truth holds -/
def kept (xs : List (Str × Bool)) : List Str := (xs.filter (·.2)).map (·.1)
theorem kept_take {xs : List (Str × Bool)} {i : Nat} {x : Str × Bool} (h : xs[i]? = some x) : kept (xs.take (i + 1)) = kept (xs.take i) ++ (if x.2 = true then [x.1] else []) := by
  unfold kept
  have e : xs.take (i + 1) = xs.take i ++ [x] := by
    obtain ⟨hi, e⟩ := List.getElem?_eq_some_iff.mp h
    rw [List.take_succ_eq_append_getElem hi, e]
  rw [e, List.filter_append, List.map_append]
  cases hx : x.2 <;> simp [hx]
theorem kept_len (xs : List (Str × Bool)) : (kept xs).length ≤ xs.length := by
  unfold kept
  rw [List.length_map]
  exact List.length_filter_le _ _
/-- words = [w for w, t in some if t] -/
theorem q_words {K : PySem.W.Frag} {Hk : Hp → Prop} {σ : L2.St} {l : Addr} {xs : List (Str × Bool)} {u : TS} {D : Ends} {H : Hp} (st : ∀ H H', Same H H' → Hk H → Hk H') (hk : Hk H) (hs : σ.length = 5)
    (hσ : σ[1]? = some (some (.ref l))) (hL : Some2 H l xs) (hl : xs.length ≤ 100)
    (k : ∀ d H', Same H H' → Hk H' → H' d = some (.lst ((kept xs).map V.str)) → u D (σ.set 2 (some (.ref d))) H') :
    tSeq (tAsg (tLc (iList K (tVar 1)) (gTup K 2 (gCons (gName 3) (gCons (gName 4) gNil))) (tB (tVar 4)) (tVar 3) [3, 4]) (gName 2)) u D σ H := by
  obtain ⟨ts, hts, tt⟩ := hL
  have h3 : ∀ v, ((wipe σ [3, 4]).set 3 (some v))[3]? = some (some v) := fun v => by
    rw [List.getElem?_set_self]
    rw [wipe_length, hs]
    decide
  refine ⟨_, hσ, l, rfl, ⟨_, SqL.of hts⟩, fun d nd => ?_⟩
  refine lc_list (K := K) (a := l) (xs := ts.map V.ref) (fun i G => Same H G ∧ Hk G ∧ G d = some (.lst ((kept (xs.take i)).map V.str))) ⟨Same.new nd, st _ _ (Same.new nd) hk, upd_same⟩
    (fun i G _ q => SqL.of (q.1 _ _ hts)) ?_ ?_
  · rintro i x G hi ⟨sG, kG, dG⟩
    obtain ⟨t, ht, rfl⟩ : ∃ t, ts[i]? = some t ∧ x = V.ref t := by
      rw [List.getElem?_map] at hi
      cases e : ts[i]? with
      | none => rw [e] at hi; cases hi
      | some t => rw [e] at hi; exact ⟨t, rfl, (Option.some.inj hi).symm⟩
    obtain ⟨y, hy, hH⟩ := tt.at_ ht
    refine ⟨t, _, rfl, SqT.of (sG _ _ hH), rfl, _, _, rfl, _, _, rfl, rfl, ?_⟩
    have w3 : (((wipe σ [3, 4]).set 3 (some (V.str y.1))).set 4 (some (V.bl y.2)))[4]? = some (some (V.bl y.2)) := by
      rw [List.getElem?_set_self]
      rw [List.length_set, wipe_length, hs]
      decide
    have w4 : ∀ b, (((wipe σ [3, 4]).set 3 (some (V.str y.1))).set 4 (some (V.bl b)))[3]? = some (some (V.str y.1)) := fun b => by
      rw [List.getElem?_set_ne (by decide)]
      exact h3 _
    refine ⟨?_, _, w3, _, rfl, ?_⟩
    · match σ, hs with
      | [a, b, c, e, f], _ => rfl
    · have kt := kept_take hy
      cases hb : y.2 with
      | true =>
        rw [hb] at kt
        refine iteT ⟨_, w4 _, _, dG, ?_, ?_⟩
        · rw [List.length_map, sizeLine_eq]
          have h1 := kept_len (xs.take i)
          have h2 : (xs.take i).length ≤ xs.length := List.length_take_le' i xs
          omega
        · have sN : Same H (upd G d (.lst ((kept (xs.take i)).map V.str ++ [V.str y.1]))) := fun c o z => by
            rw [upd_ne (ne_of_none z nd)]
            exact sG _ _ z
          refine ⟨sN, st _ _ sN hk, ?_⟩
          rw [upd_same, kt, List.map_append]
          rfl
      | false =>
        rw [hb] at kt
        refine iteF ⟨sG, kG, ?_⟩
        rw [kt]
        simpa using dG
  · rintro G ⟨sG, kG, dG⟩
    have el : xs.take (ts.map V.ref).length = xs := by
      rw [List.length_map, tt.len]
      exact List.take_of_length_le (Nat.le_refl _)
    rw [el] at dG
    exact k d G sG kG dG
end Hu


set_option Elab.async false
set_option linter.all false
set_option maxRecDepth 100000
set_option maxHeartbeats 8000000
namespace K17
open PySem PySem.Spec PyProof.Rows L2 Hu
abbrev sWant : Stmt := top 17
abbrev sFree : Stmt := top 18
abbrev sWord : Stmt := top 26
abbrev sRows : Stmt := top 28
abbrev sPlans : Stmt := top 29
abbrev sTaken : Stmt := top 30
abbrev sNothing : Stmt := top 31
abbrev sLaw : Stmt := top 32
def wds : List Str := ["row", "held", "closed", "numbers", "number", "count", "group", "copy", "text", "plan", "step", "say", "name", "kind"]
def nms : List Str := ["NoRow", "Held", "Closed", "NoNumbers", "NoNumber", "NoCount", "NoGroup", "NoCopy", "NoText", "NoPlan", "NoStep", "NoSay", "NoName", "NoKind"]
def wd (j : Nat) : Str := wds.getD j ""
def nm (j : Nat) : Str := nms.getD j ""
/-- the fourteen classes: C j by its number, G above them, R the class of rows -/
structure Cls14 (K : PySem.W.Frag) (mg : Str → Option Value) (C : Nat → Addr) (G R : Addr) : Prop where
  T : ∀ j, j < 14 → ExcT K mg (nm j) (C j) G
  M : ∀ i j, i < 14 → j < 14 → PySem.W.kitOne K (.ref (C i)) (.ref (C j)) = some (decide (i = j))
  gift : mg "GiftError" = some (.ref G)
  giftX : ∀ j, j < 14 → PySem.W.exmOne K (.ref (C j)) (.ref G) = some true
  row : mg "Row" = some (.ref R)
  strRow : PySem.W.kitOne K (.type "str") (.ref R) = some false

/-- the truths of the pairs, the exception being of the class number D -/
def flags (D : Nat) : List (Str × Bool) := (List.range 14).map fun i => (wd i, decide (D = i))
theorem kept_flags : ∀ D, D < 14 → kept (flags D) = [wd D] := by decide +kernel
theorem wd_eq : ∀ D, D < 14 → ((kept (flags D)).map V.str) = [V.str (wd D)] := fun D h => by rw [kept_flags D h]; rfl
abbrev nWord : List Str := ["_law_e", "_law_some", "_law_words", "_law_word", "_law_truth"]
theorem scWord : FnScope nWord ["_law_e"] (defScope sWord) := ⟨rfl, rfl, rfl, by decide +kernel, rfl, by decide +kernel, by decide +kernel⟩
section
variable {P : Program} {w : World} {K : PySem.W.Frag} {mg : Str → Option Value} {base : Heap} {C : Nat → Addr} {G RR : Addr}
theorem isi_go {r : List V → Hp → VK → Prop} {a : Addr} {c : V} {σ : L2.St} {H : Hp} {Q : VK} (hσ : σ[0]? = some (some (.ref a))) (h : r [.ref a, c] H Q) :
    tCB r (tCons (tVar 0) (tCons (tC c) tNil)) σ H Q := ⟨_, hσ, h⟩
/-- what the exception's object is told by, to a def called while it is handled -/
def ZW (C : Nat → Addr) (j : Nat) (p : Addr × Obj) (vs : List V) : Prop := vs = [.ref p.1] ∧ Zc (.ref (C j)) none p.2 ∧ ∃ us, p.2.data = .fields us
def spWordU (j : Nat) : Sp := fun vs H Q _ => vs.length = 1 ∧ ∀ H', Same H H' → Q (.str (wd j)) H'
def spWord (C : Nat → Addr) : Sp := fun vs H Q _ => ∃ (j : Nat) (a : Addr), j < 14 ∧ vs = [.ref a] ∧ H a = some (ExO (.ref (C j)) a) ∧ ∀ H', Same H H' → Q (.str (wd j)) H'

theorem ok_wordU {f : Addr} {fd : FuncData} (F : Fun K "_law_word_of" "_law_word_of" sWord f fd) (B : Blt mg) (K14 : Cls14 K mg C G RR) (D : Nat) (hD : D < 14) :
    FnU P w K mg base 1 f fd ["_law_e"] (ZW C D) (spWordU D) := by
  refine fn_ofU F scWord (fun vs H Q E h => h.1) (fun cdv A outer s H vs Q E p hot hr z h => ?_)
  · obtain ⟨rfl, z1, z2⟩ := z
    obtain ⟨_, fin⟩ := h
    have hp : p ∈ (L2H.cxH CX0 P w K mg base nWord "_law_word_of" (defScope sWord) f cdv A outer s H E p).nox.pn := List.mem_singleton.mpr rfl
    have free : Free (L2H.cxH CX0 P w K mg base nWord "_law_word_of" (defScope sWord) f cdv A outer s H E p).nox := .inr ⟨p, ⟨hot.1, hot.2⟩, hp⟩
    have isi : CallR (L2H.cxH CX0 P w K mg base nWord "_law_word_of" (defScope sWord) f cdv A outer s H E p).nox (.builtin "isinstance") (rIsG K (C D) p.1 fun _ => True) := isPin (K14.T D hD).c hp z1 z2
    generalize hA : p.1 = a at isi
    refine ⟨_, pss_cons (ps_set (i := 1) scWord.nd rfl (.inl rfl) (pe_lst (pa_cons (pe_tup (pa_cons pe_str (pa_cons (pe_callB isi (by rfl) B.isinstance boot_isinstance (pa_cons (pv 0) (pa_cons (pe_glob (v := .ref (C 0)) rfl (K14.T 0 (by decide)).mg_ rfl) pa_nil))) pa_nil))) (pa_cons (pe_tup (pa_cons pe_str (pa_cons (pe_callB isi (by rfl) B.isinstance boot_isinstance (pa_cons (pv 0) (pa_cons (pe_glob (v := .ref (C 1)) rfl (K14.T 1 (by decide)).mg_ rfl) pa_nil))) pa_nil))) (pa_cons (pe_tup (pa_cons pe_str (pa_cons (pe_callB isi (by rfl) B.isinstance boot_isinstance (pa_cons (pv 0) (pa_cons (pe_glob (v := .ref (C 2)) rfl (K14.T 2 (by decide)).mg_ rfl) pa_nil))) pa_nil))) pa_nil)))))
      (pss_cons (ps_set (i := 1) scWord.nd rfl (.inl rfl) (pe_op op_cat (pv 1) (pe_lst (pa_cons (pe_tup (pa_cons pe_str (pa_cons (pe_callB isi (by rfl) B.isinstance boot_isinstance (pa_cons (pv 0) (pa_cons (pe_glob (v := .ref (C 3)) rfl (K14.T 3 (by decide)).mg_ rfl) pa_nil))) pa_nil))) (pa_cons (pe_tup (pa_cons pe_str (pa_cons (pe_callB isi (by rfl) B.isinstance boot_isinstance (pa_cons (pv 0) (pa_cons (pe_glob (v := .ref (C 4)) rfl (K14.T 4 (by decide)).mg_ rfl) pa_nil))) pa_nil))) pa_nil)))))
      (pss_cons (ps_set (i := 1) scWord.nd rfl (.inl rfl) (pe_op op_cat (pv 1) (pe_lst (pa_cons (pe_tup (pa_cons pe_str (pa_cons (pe_callB isi (by rfl) B.isinstance boot_isinstance (pa_cons (pv 0) (pa_cons (pe_glob (v := .ref (C 5)) rfl (K14.T 5 (by decide)).mg_ rfl) pa_nil))) pa_nil))) (pa_cons (pe_tup (pa_cons pe_str (pa_cons (pe_callB isi (by rfl) B.isinstance boot_isinstance (pa_cons (pv 0) (pa_cons (pe_glob (v := .ref (C 6)) rfl (K14.T 6 (by decide)).mg_ rfl) pa_nil))) pa_nil))) pa_nil)))))
      (pss_cons (ps_set (i := 1) scWord.nd rfl (.inl rfl) (pe_op op_cat (pv 1) (pe_lst (pa_cons (pe_tup (pa_cons pe_str (pa_cons (pe_callB isi (by rfl) B.isinstance boot_isinstance (pa_cons (pv 0) (pa_cons (pe_glob (v := .ref (C 7)) rfl (K14.T 7 (by decide)).mg_ rfl) pa_nil))) pa_nil))) (pa_cons (pe_tup (pa_cons pe_str (pa_cons (pe_callB isi (by rfl) B.isinstance boot_isinstance (pa_cons (pv 0) (pa_cons (pe_glob (v := .ref (C 8)) rfl (K14.T 8 (by decide)).mg_ rfl) pa_nil))) pa_nil))) (pa_cons (pe_tup (pa_cons pe_str (pa_cons (pe_callB isi (by rfl) B.isinstance boot_isinstance (pa_cons (pv 0) (pa_cons (pe_glob (v := .ref (C 9)) rfl (K14.T 9 (by decide)).mg_ rfl) pa_nil))) pa_nil))) pa_nil))))))
      (pss_cons (ps_set (i := 1) scWord.nd rfl (.inl rfl) (pe_op op_cat (pv 1) (pe_lst (pa_cons (pe_tup (pa_cons pe_str (pa_cons (pe_callB isi (by rfl) B.isinstance boot_isinstance (pa_cons (pv 0) (pa_cons (pe_glob (v := .ref (C 10)) rfl (K14.T 10 (by decide)).mg_ rfl) pa_nil))) pa_nil))) (pa_cons (pe_tup (pa_cons pe_str (pa_cons (pe_callB isi (by rfl) B.isinstance boot_isinstance (pa_cons (pv 0) (pa_cons (pe_glob (v := .ref (C 11)) rfl (K14.T 11 (by decide)).mg_ rfl) pa_nil))) pa_nil))) (pa_cons (pe_tup (pa_cons pe_str (pa_cons (pe_callB isi (by rfl) B.isinstance boot_isinstance (pa_cons (pv 0) (pa_cons (pe_glob (v := .ref (C 12)) rfl (K14.T 12 (by decide)).mg_ rfl) pa_nil))) pa_nil))) pa_nil))))))
      (pss_cons (ps_set (i := 1) scWord.nd rfl (.inl rfl) (pe_op op_cat (pv 1) (pe_lst (pa_cons (pe_tup (pa_cons pe_str (pa_cons (pe_callB isi (by rfl) B.isinstance boot_isinstance (pa_cons (pv 0) (pa_cons (pe_glob (v := .ref (C 13)) rfl (K14.T 13 (by decide)).mg_ rfl) pa_nil))) pa_nil))) pa_nil))))
      (pss_cons (ps_lcU (i := 2) (g := gTup K 2 (gCons (gName 3) (gCons (gName 4) gNil))) (own := [("_law_word", 3), ("_law_truth", 4)]) free scWord.nd rfl rfl (sw_true rfl rfl rfl (by decide +kernel)) (pv 1) (blkOk_by (N := nWord) (sc := defScope sWord) (by decide +kernel))
          (fun _ _ _ _ _ c => pg_tupU (n := 2) c (pgs_cons (pg_name (i := 3) scWord.nd rfl (.inl rfl)) (pgs_cons (pg_name (i := 4) scWord.nd rfl (.inl rfl)) pgs_nil)))
          (fun _ _ _ _ _ => pts_one (pt_val (pv 4))) (fun _ _ _ _ _ => pv 3))
      (pss_cons (ps_if (PW.pt (pw_or (pt_cmpR op_ne (pe_callB call_len_seq (by rfl) B.len boot_len (pa_cons (pv 2) pa_nil)) pe_int (nomark _))
          (pw_or1 (pt_not (pt_val (pe_callB isi (by rfl) B.isinstance boot_isinstance (pa_cons (pv 0) (pa_cons (pe_bltn (v := .ty "ValueError") (by rfl) B.valueError (by decide +kernel) rfl) pa_nil))))))))
        (pss_one (ps_ret pe_str)) pss_nil)
      (pss_one (ps_ret (pe_ix ix_list (pv 2) pe_int (fun _ _ => rfl))))))))))), ?_⟩
    have R : Asks K (C D) a (fun _ => True) (rIsG K (C D) a fun _ => True) := fun H Q c cv b hk hc e q => ⟨c, cv, b, rfl, hk, hc, e, q⟩
    have hk : True := trivial
    show tSeq _ _ _ [some (.ref a), none, none, none, none] H
    have st : ∀ H H' : Hp, Same H H' → (fun _ : Hp => True) H → (fun _ : Hp => True) H' := fun _ _ _ _ => trivial
    have hσ0 : ∀ x y : Option V, ([some (.ref a), x, y, none, none] : L2.St)[0]? = some (some (.ref a)) := fun _ _ => rfl
    refine q_first (Hk := (fun _ : Hp => True)) st (makes_cons R st (hσ0 _ _) (K14.M D 0 hD (by decide)) (makes_cons R st (hσ0 _ _) (K14.M D 1 hD (by decide)) (makes_cons R st (hσ0 _ _) (K14.M D 2 hD (by decide)) makes_nil))) hk (by simp) fun l1 H1 s1 k1 L1 => ?_
    refine q_more (Hk := (fun _ : Hp => True)) st (makes_cons R st (hσ0 _ _) (K14.M D 3 hD (by decide)) (makes_cons R st (hσ0 _ _) (K14.M D 4 hD (by decide)) makes_nil)) k1 rfl L1 (by simp) fun l2 H2 s2 k2 L2' => ?_
    refine q_more (Hk := (fun _ : Hp => True)) st (makes_cons R st (hσ0 _ _) (K14.M D 5 hD (by decide)) (makes_cons R st (hσ0 _ _) (K14.M D 6 hD (by decide)) makes_nil)) k2 rfl L2' (by simp) fun l3 H3 s3 k3 L3 => ?_
    refine q_more (Hk := (fun _ : Hp => True)) st (makes_cons R st (hσ0 _ _) (K14.M D 7 hD (by decide)) (makes_cons R st (hσ0 _ _) (K14.M D 8 hD (by decide)) (makes_cons R st (hσ0 _ _) (K14.M D 9 hD (by decide)) makes_nil))) k3 rfl L3 (by simp) fun l4 H4 s4 k4 L4 => ?_
    refine q_more (Hk := (fun _ : Hp => True)) st (makes_cons R st (hσ0 _ _) (K14.M D 10 hD (by decide)) (makes_cons R st (hσ0 _ _) (K14.M D 11 hD (by decide)) (makes_cons R st (hσ0 _ _) (K14.M D 12 hD (by decide)) makes_nil))) k4 rfl L4 (by simp) fun l5 H5 s5 k5 L5 => ?_
    refine q_more (Hk := (fun _ : Hp => True)) st (makes_cons R st (hσ0 _ _) (K14.M D 13 hD (by decide)) makes_nil) k5 rfl L5 (by simp) fun l6 H6 s6 k6 L6 => ?_
    refine q_words (Hk := (fun _ : Hp => True)) st k6 rfl rfl L6 (by simp) fun d H7 s7 k7 L7 => ?_
    have L7 : H7 d = some (.lst [.str (wd D)]) := by
      rw [L7]
      exact congrArg (fun z => some (HO.lst z)) (wd_eq D hD)
    have sA : Same H H7 := ((((((s1.trans s2).trans s3).trans s4).trans s5).trans s6).trans s7)
    refine ⟨_, rfl, d, _, rfl, .inl (SqL.of L7), rfl, _, rfl, ?_⟩
    refine iteNS rfl ?_
    refine isi_go (r := rIsG K (C D) a (fun _ => True)) (a := a) rfl (R _ _ (.ty "ValueError") (.type "ValueError") true k7 (fun u q => q) (K14.T D hD).ve ⟨true, rfl, ?_⟩)
    exact iteF ⟨_, rfl, d, _, 0, _, rfl, rfl, SqL.of L7, rfl, fin H7 sA⟩

theorem ok_word {f : Addr} {fd : FuncData} (F : Fun K "_law_word_of" "_law_word_of" sWord f fd) (B : Blt mg) (K14 : Cls14 K mg C G RR) :
    FnOk P w K mg base CX0 1 f fd ["_law_e"] (spWord C) := by
  refine F.ok scWord (fun vs H Q E h => ?_) (fun cdv A outer s H vs Q E hr h => ?_)
  · obtain ⟨j, a, _, rfl, _⟩ := h
    rfl
  · obtain ⟨D, a, hD, rfl, hk, fin⟩ := h
    refine ⟨_, pss_cons (ps_set (i := 1) scWord.nd rfl (.inl rfl) (pe_lst (pa_cons (pe_tup (pa_cons pe_str (pa_cons (pe_callB isO (by rfl) B.isinstance boot_isinstance (pa_cons (pv 0) (pa_cons (pe_glob (v := .ref (C 0)) rfl (K14.T 0 (by decide)).mg_ rfl) pa_nil))) pa_nil))) (pa_cons (pe_tup (pa_cons pe_str (pa_cons (pe_callB isO (by rfl) B.isinstance boot_isinstance (pa_cons (pv 0) (pa_cons (pe_glob (v := .ref (C 1)) rfl (K14.T 1 (by decide)).mg_ rfl) pa_nil))) pa_nil))) (pa_cons (pe_tup (pa_cons pe_str (pa_cons (pe_callB isO (by rfl) B.isinstance boot_isinstance (pa_cons (pv 0) (pa_cons (pe_glob (v := .ref (C 2)) rfl (K14.T 2 (by decide)).mg_ rfl) pa_nil))) pa_nil))) pa_nil)))))
      (pss_cons (ps_set (i := 1) scWord.nd rfl (.inl rfl) (pe_op op_cat (pv 1) (pe_lst (pa_cons (pe_tup (pa_cons pe_str (pa_cons (pe_callB isO (by rfl) B.isinstance boot_isinstance (pa_cons (pv 0) (pa_cons (pe_glob (v := .ref (C 3)) rfl (K14.T 3 (by decide)).mg_ rfl) pa_nil))) pa_nil))) (pa_cons (pe_tup (pa_cons pe_str (pa_cons (pe_callB isO (by rfl) B.isinstance boot_isinstance (pa_cons (pv 0) (pa_cons (pe_glob (v := .ref (C 4)) rfl (K14.T 4 (by decide)).mg_ rfl) pa_nil))) pa_nil))) pa_nil)))))
      (pss_cons (ps_set (i := 1) scWord.nd rfl (.inl rfl) (pe_op op_cat (pv 1) (pe_lst (pa_cons (pe_tup (pa_cons pe_str (pa_cons (pe_callB isO (by rfl) B.isinstance boot_isinstance (pa_cons (pv 0) (pa_cons (pe_glob (v := .ref (C 5)) rfl (K14.T 5 (by decide)).mg_ rfl) pa_nil))) pa_nil))) (pa_cons (pe_tup (pa_cons pe_str (pa_cons (pe_callB isO (by rfl) B.isinstance boot_isinstance (pa_cons (pv 0) (pa_cons (pe_glob (v := .ref (C 6)) rfl (K14.T 6 (by decide)).mg_ rfl) pa_nil))) pa_nil))) pa_nil)))))
      (pss_cons (ps_set (i := 1) scWord.nd rfl (.inl rfl) (pe_op op_cat (pv 1) (pe_lst (pa_cons (pe_tup (pa_cons pe_str (pa_cons (pe_callB isO (by rfl) B.isinstance boot_isinstance (pa_cons (pv 0) (pa_cons (pe_glob (v := .ref (C 7)) rfl (K14.T 7 (by decide)).mg_ rfl) pa_nil))) pa_nil))) (pa_cons (pe_tup (pa_cons pe_str (pa_cons (pe_callB isO (by rfl) B.isinstance boot_isinstance (pa_cons (pv 0) (pa_cons (pe_glob (v := .ref (C 8)) rfl (K14.T 8 (by decide)).mg_ rfl) pa_nil))) pa_nil))) (pa_cons (pe_tup (pa_cons pe_str (pa_cons (pe_callB isO (by rfl) B.isinstance boot_isinstance (pa_cons (pv 0) (pa_cons (pe_glob (v := .ref (C 9)) rfl (K14.T 9 (by decide)).mg_ rfl) pa_nil))) pa_nil))) pa_nil))))))
      (pss_cons (ps_set (i := 1) scWord.nd rfl (.inl rfl) (pe_op op_cat (pv 1) (pe_lst (pa_cons (pe_tup (pa_cons pe_str (pa_cons (pe_callB isO (by rfl) B.isinstance boot_isinstance (pa_cons (pv 0) (pa_cons (pe_glob (v := .ref (C 10)) rfl (K14.T 10 (by decide)).mg_ rfl) pa_nil))) pa_nil))) (pa_cons (pe_tup (pa_cons pe_str (pa_cons (pe_callB isO (by rfl) B.isinstance boot_isinstance (pa_cons (pv 0) (pa_cons (pe_glob (v := .ref (C 11)) rfl (K14.T 11 (by decide)).mg_ rfl) pa_nil))) pa_nil))) (pa_cons (pe_tup (pa_cons pe_str (pa_cons (pe_callB isO (by rfl) B.isinstance boot_isinstance (pa_cons (pv 0) (pa_cons (pe_glob (v := .ref (C 12)) rfl (K14.T 12 (by decide)).mg_ rfl) pa_nil))) pa_nil))) pa_nil))))))
      (pss_cons (ps_set (i := 1) scWord.nd rfl (.inl rfl) (pe_op op_cat (pv 1) (pe_lst (pa_cons (pe_tup (pa_cons pe_str (pa_cons (pe_callB isO (by rfl) B.isinstance boot_isinstance (pa_cons (pv 0) (pa_cons (pe_glob (v := .ref (C 13)) rfl (K14.T 13 (by decide)).mg_ rfl) pa_nil))) pa_nil))) pa_nil))))
      (pss_cons (ps_lcU (i := 2) (g := gTup K 2 (gCons (gName 3) (gCons (gName 4) gNil))) (own := [("_law_word", 3), ("_law_truth", 4)]) (.inl rfl) scWord.nd rfl rfl (sw_true rfl rfl rfl (by decide +kernel)) (pv 1) (blkOk_by (N := nWord) (sc := defScope sWord) (by decide +kernel))
          (fun _ _ _ _ _ c => pg_tupU (n := 2) c (pgs_cons (pg_name (i := 3) scWord.nd rfl (.inl rfl)) (pgs_cons (pg_name (i := 4) scWord.nd rfl (.inl rfl)) pgs_nil)))
          (fun _ _ _ _ _ => pts_one (pt_val (pv 4))) (fun _ _ _ _ _ => pv 3))
      (pss_cons (ps_if (PW.pt (pw_or (pt_cmpR op_ne (pe_callB call_len_seq (by rfl) B.len boot_len (pa_cons (pv 2) pa_nil)) pe_int (nomark _))
          (pw_or1 (pt_not (pt_val (pe_callB isO (by rfl) B.isinstance boot_isinstance (pa_cons (pv 0) (pa_cons (pe_bltn (v := .ty "ValueError") (by rfl) B.valueError (by decide +kernel) rfl) pa_nil))))))))
        (pss_one (ps_ret pe_str)) pss_nil)
      (pss_one (ps_ret (pe_ix ix_list (pv 2) pe_int (fun _ _ => rfl))))))))))), ?_⟩
    have R : Asks K (C D) a (fun H => H a = some (ExO (.ref (C D)) a)) (rIsO K) := fun H Q c cv b hk hc e q => ⟨a, C D, c, cv, b, rfl, (K14.T D hD).c, hk, hc, e, q⟩
    show tSeq _ _ _ [some (.ref a), none, none, none, none] H
    have st : ∀ H H' : Hp, Same H H' → (fun H : Hp => H a = some (ExO (.ref (C D)) a)) H → (fun H : Hp => H a = some (ExO (.ref (C D)) a)) H' := fun _ _ s h => s _ _ h
    have hσ0 : ∀ x y : Option V, ([some (.ref a), x, y, none, none] : L2.St)[0]? = some (some (.ref a)) := fun _ _ => rfl
    refine q_first (Hk := (fun H : Hp => H a = some (ExO (.ref (C D)) a))) st (makes_cons R st (hσ0 _ _) (K14.M D 0 hD (by decide)) (makes_cons R st (hσ0 _ _) (K14.M D 1 hD (by decide)) (makes_cons R st (hσ0 _ _) (K14.M D 2 hD (by decide)) makes_nil))) hk (by simp) fun l1 H1 s1 k1 L1 => ?_
    refine q_more (Hk := (fun H : Hp => H a = some (ExO (.ref (C D)) a))) st (makes_cons R st (hσ0 _ _) (K14.M D 3 hD (by decide)) (makes_cons R st (hσ0 _ _) (K14.M D 4 hD (by decide)) makes_nil)) k1 rfl L1 (by simp) fun l2 H2 s2 k2 L2' => ?_
    refine q_more (Hk := (fun H : Hp => H a = some (ExO (.ref (C D)) a))) st (makes_cons R st (hσ0 _ _) (K14.M D 5 hD (by decide)) (makes_cons R st (hσ0 _ _) (K14.M D 6 hD (by decide)) makes_nil)) k2 rfl L2' (by simp) fun l3 H3 s3 k3 L3 => ?_
    refine q_more (Hk := (fun H : Hp => H a = some (ExO (.ref (C D)) a))) st (makes_cons R st (hσ0 _ _) (K14.M D 7 hD (by decide)) (makes_cons R st (hσ0 _ _) (K14.M D 8 hD (by decide)) (makes_cons R st (hσ0 _ _) (K14.M D 9 hD (by decide)) makes_nil))) k3 rfl L3 (by simp) fun l4 H4 s4 k4 L4 => ?_
    refine q_more (Hk := (fun H : Hp => H a = some (ExO (.ref (C D)) a))) st (makes_cons R st (hσ0 _ _) (K14.M D 10 hD (by decide)) (makes_cons R st (hσ0 _ _) (K14.M D 11 hD (by decide)) (makes_cons R st (hσ0 _ _) (K14.M D 12 hD (by decide)) makes_nil))) k4 rfl L4 (by simp) fun l5 H5 s5 k5 L5 => ?_
    refine q_more (Hk := (fun H : Hp => H a = some (ExO (.ref (C D)) a))) st (makes_cons R st (hσ0 _ _) (K14.M D 13 hD (by decide)) makes_nil) k5 rfl L5 (by simp) fun l6 H6 s6 k6 L6 => ?_
    refine q_words (Hk := (fun H : Hp => H a = some (ExO (.ref (C D)) a))) st k6 rfl rfl L6 (by simp) fun d H7 s7 k7 L7 => ?_
    have L7 : H7 d = some (.lst [.str (wd D)]) := by
      rw [L7]
      exact congrArg (fun z => some (HO.lst z)) (wd_eq D hD)
    have sA : Same H H7 := ((((((s1.trans s2).trans s3).trans s4).trans s5).trans s6).trans s7)
    refine ⟨_, rfl, d, _, rfl, .inl (SqL.of L7), rfl, _, rfl, ?_⟩
    refine iteNS rfl ?_
    refine isi_go (r := rIsO K) (a := a) rfl (R _ _ (.ty "ValueError") (.type "ValueError") true k7 (fun u q => q) (K14.T D hD).ve ⟨true, rfl, ?_⟩)
    exact iteF ⟨_, rfl, d, _, 0, _, rfl, rfl, SqL.of L7, rfl, fin H7 sA⟩

theorem iteY {c : Bool} {A B : Prop} (h : c = true) (a : A) : if c = true then A else B := by
  rw [if_pos h]
  exact a
theorem iteN {c : Bool} {A B : Prop} (h : c = false) (b : B) : if c = true then A else B := by
  rw [h]
  exact iteF b
theorem okN {x qual : Str} {st : Stmt} {f : Addr} {fd : FuncData} {N ps : List Str} {k : Nat} {sp : Sp} (F : Fun K x qual st f fd) (S : FnScope N ps (defScope st))
    (len : ∀ vs H Q E, sp vs H Q E → vs.length = ps.length)
    (hbody : ∀ (cdv : Value) (A : Around) (outer : List Env) (s : Shared) (H : Hp) (vs : List V) (Q : VK) (E : XK),
      Room k (A.deeper (envOfC qual (defScope st) s.heap.objs.size f cdv)) → sp vs H Q E →
      ∃ t, PSs (cxOf (L2N.CX P w) P w K mg base N qual (defScope st) f cdv A outer s H E) (defBody st) t ∧ t { nx := fun _ H' => Q .non H', rt := Q } (start N vs) H) :
    FnOk P w K mg base (L2N.CX P w) (k + 1) f fd ps sp := by
  obtain ⟨_, _, _, _, _, _, cdv, _, _, rfl, lk, hcd⟩ := F.ex
  exact fn_of lk hcd S len fun A outer s H vs Q E hr hsp => hbody cdv A outer s H vs Q E hr hsp
theorem takesN0 {X : Cx} : L2N.Takes X (fun _ _ _ _ => False) := fun u s x => by
  obtain ⟨_, _, _, _, _, _, _, _, _, _, _, _, _, _, _, _, z⟩ := x
  exact z.elim

def spRows (C : Nat → Addr) : Sp := fun vs H _ E => ∃ (j : Nat) (z : Str), 0 ≤ j ∧ j < 8 ∧ vs = [.str (wd j), .str z] ∧ E (.ref (C j)) none H
theorem scRows : FnScope ["_law_word", "_law_text_here"] ["_law_word", "_law_text_here"] (defScope sRows) := ⟨rfl, rfl, rfl, by decide +kernel, rfl, by decide +kernel, by decide +kernel⟩
theorem ok_rows {f : Addr} {fd : FuncData} (F : Fun K "_law_rows" "_law_rows" sRows f fd) (K14 : Cls14 K mg C G RR) : FnOk P w K mg base (L2N.CX P w) 1 f fd ["_law_word", "_law_text_here"] (spRows C) := by
  refine okN F scRows (fun vs H Q E h => ?_) (fun cdv A outer s H vs Q E hr h => ?_)
  · obtain ⟨j, z, _, _, rfl, _⟩ := h
    rfl
  · obtain ⟨j, z, j0, j1, rfl, fin⟩ := h
    refine ⟨_, pss_cons (ps_if (pt_cmpR op_eq (pv 0) pe_str (nomark _)) (pss_one (L2N.ps_raise rfl (L2N.takes_of rfl rfl rfl rfl) (mk_excN PySem.F.excBase_ValueError (K14.T 0 (by decide)).exc (K14.T 0 (by decide)).mg_ (K14.T 0 (by decide)).kp (K14.T 0 (by decide)).raises rfl (pv 1)))) pss_nil)
      (pss_cons (ps_if (pt_cmpR op_eq (pv 0) pe_str (nomark _)) (pss_one (L2N.ps_raise rfl (L2N.takes_of rfl rfl rfl rfl) (mk_excN PySem.F.excBase_ValueError (K14.T 1 (by decide)).exc (K14.T 1 (by decide)).mg_ (K14.T 1 (by decide)).kp (K14.T 1 (by decide)).raises rfl (pv 1)))) pss_nil)
      (pss_cons (ps_if (pt_cmpR op_eq (pv 0) pe_str (nomark _)) (pss_one (L2N.ps_raise rfl (L2N.takes_of rfl rfl rfl rfl) (mk_excN PySem.F.excBase_ValueError (K14.T 2 (by decide)).exc (K14.T 2 (by decide)).mg_ (K14.T 2 (by decide)).kp (K14.T 2 (by decide)).raises rfl (pv 1)))) pss_nil)
      (pss_cons (ps_if (pt_cmpR op_eq (pv 0) pe_str (nomark _)) (pss_one (L2N.ps_raise rfl (L2N.takes_of rfl rfl rfl rfl) (mk_excN PySem.F.excBase_ValueError (K14.T 3 (by decide)).exc (K14.T 3 (by decide)).mg_ (K14.T 3 (by decide)).kp (K14.T 3 (by decide)).raises rfl (pv 1)))) pss_nil)
      (pss_cons (ps_if (pt_cmpR op_eq (pv 0) pe_str (nomark _)) (pss_one (L2N.ps_raise rfl (L2N.takes_of rfl rfl rfl rfl) (mk_excN PySem.F.excBase_ValueError (K14.T 4 (by decide)).exc (K14.T 4 (by decide)).mg_ (K14.T 4 (by decide)).kp (K14.T 4 (by decide)).raises rfl (pv 1)))) pss_nil)
      (pss_cons (ps_if (pt_cmpR op_eq (pv 0) pe_str (nomark _)) (pss_one (L2N.ps_raise rfl (L2N.takes_of rfl rfl rfl rfl) (mk_excN PySem.F.excBase_ValueError (K14.T 5 (by decide)).exc (K14.T 5 (by decide)).mg_ (K14.T 5 (by decide)).kp (K14.T 5 (by decide)).raises rfl (pv 1)))) pss_nil)
      (pss_cons (ps_if (pt_cmpR op_eq (pv 0) pe_str (nomark _)) (pss_one (L2N.ps_raise rfl (L2N.takes_of rfl rfl rfl rfl) (mk_excN PySem.F.excBase_ValueError (K14.T 6 (by decide)).exc (K14.T 6 (by decide)).mg_ (K14.T 6 (by decide)).kp (K14.T 6 (by decide)).raises rfl (pv 1)))) pss_nil)
      (pss_one (L2N.ps_raise rfl (L2N.takes_of rfl rfl rfl rfl) (mk_excN PySem.F.excBase_ValueError (K14.T 7 (by decide)).exc (K14.T 7 (by decide)).mg_ (K14.T 7 (by decide)).kp (K14.T 7 (by decide)).raises rfl (pv 1)))))))))), ?_⟩
    have hj : j = 0 ∨ j = 1 ∨ j = 2 ∨ j = 3 ∨ j = 4 ∨ j = 5 ∨ j = 6 ∨ j = 7 := by omega
    rcases hj with rfl | rfl | rfl | rfl | rfl | rfl | rfl | rfl
    · refine ⟨_, rfl, rfl, _, rfl, iteY (by decide +kernel) ?_⟩
      exact ⟨_, rfl, fin⟩
    · refine ⟨_, rfl, rfl, _, rfl, iteN (by decide +kernel) ?_⟩
      refine ⟨_, rfl, rfl, _, rfl, iteY (by decide +kernel) ?_⟩
      exact ⟨_, rfl, fin⟩
    · refine ⟨_, rfl, rfl, _, rfl, iteN (by decide +kernel) ?_⟩
      refine ⟨_, rfl, rfl, _, rfl, iteN (by decide +kernel) ?_⟩
      refine ⟨_, rfl, rfl, _, rfl, iteY (by decide +kernel) ?_⟩
      exact ⟨_, rfl, fin⟩
    · refine ⟨_, rfl, rfl, _, rfl, iteN (by decide +kernel) ?_⟩
      refine ⟨_, rfl, rfl, _, rfl, iteN (by decide +kernel) ?_⟩
      refine ⟨_, rfl, rfl, _, rfl, iteN (by decide +kernel) ?_⟩
      refine ⟨_, rfl, rfl, _, rfl, iteY (by decide +kernel) ?_⟩
      exact ⟨_, rfl, fin⟩
    · refine ⟨_, rfl, rfl, _, rfl, iteN (by decide +kernel) ?_⟩
      refine ⟨_, rfl, rfl, _, rfl, iteN (by decide +kernel) ?_⟩
      refine ⟨_, rfl, rfl, _, rfl, iteN (by decide +kernel) ?_⟩
      refine ⟨_, rfl, rfl, _, rfl, iteN (by decide +kernel) ?_⟩
      refine ⟨_, rfl, rfl, _, rfl, iteY (by decide +kernel) ?_⟩
      exact ⟨_, rfl, fin⟩
    · refine ⟨_, rfl, rfl, _, rfl, iteN (by decide +kernel) ?_⟩
      refine ⟨_, rfl, rfl, _, rfl, iteN (by decide +kernel) ?_⟩
      refine ⟨_, rfl, rfl, _, rfl, iteN (by decide +kernel) ?_⟩
      refine ⟨_, rfl, rfl, _, rfl, iteN (by decide +kernel) ?_⟩
      refine ⟨_, rfl, rfl, _, rfl, iteN (by decide +kernel) ?_⟩
      refine ⟨_, rfl, rfl, _, rfl, iteY (by decide +kernel) ?_⟩
      exact ⟨_, rfl, fin⟩
    · refine ⟨_, rfl, rfl, _, rfl, iteN (by decide +kernel) ?_⟩
      refine ⟨_, rfl, rfl, _, rfl, iteN (by decide +kernel) ?_⟩
      refine ⟨_, rfl, rfl, _, rfl, iteN (by decide +kernel) ?_⟩
      refine ⟨_, rfl, rfl, _, rfl, iteN (by decide +kernel) ?_⟩
      refine ⟨_, rfl, rfl, _, rfl, iteN (by decide +kernel) ?_⟩
      refine ⟨_, rfl, rfl, _, rfl, iteN (by decide +kernel) ?_⟩
      refine ⟨_, rfl, rfl, _, rfl, iteY (by decide +kernel) ?_⟩
      exact ⟨_, rfl, fin⟩
    · refine ⟨_, rfl, rfl, _, rfl, iteN (by decide +kernel) ?_⟩
      refine ⟨_, rfl, rfl, _, rfl, iteN (by decide +kernel) ?_⟩
      refine ⟨_, rfl, rfl, _, rfl, iteN (by decide +kernel) ?_⟩
      refine ⟨_, rfl, rfl, _, rfl, iteN (by decide +kernel) ?_⟩
      refine ⟨_, rfl, rfl, _, rfl, iteN (by decide +kernel) ?_⟩
      refine ⟨_, rfl, rfl, _, rfl, iteN (by decide +kernel) ?_⟩
      refine ⟨_, rfl, rfl, _, rfl, iteN (by decide +kernel) ?_⟩
      exact ⟨_, rfl, fin⟩
def spPlans (C : Nat → Addr) : Sp := fun vs H _ E => ∃ (j : Nat) (z : Str), 8 ≤ j ∧ j < 14 ∧ vs = [.str (wd j), .str z] ∧ E (.ref (C j)) none H
theorem scPlans : FnScope ["_law_word", "_law_text_here"] ["_law_word", "_law_text_here"] (defScope sPlans) := ⟨rfl, rfl, rfl, by decide +kernel, rfl, by decide +kernel, by decide +kernel⟩
theorem ok_plans {f : Addr} {fd : FuncData} (F : Fun K "_law_plans" "_law_plans" sPlans f fd) (K14 : Cls14 K mg C G RR) : FnOk P w K mg base (L2N.CX P w) 1 f fd ["_law_word", "_law_text_here"] (spPlans C) := by
  refine okN F scPlans (fun vs H Q E h => ?_) (fun cdv A outer s H vs Q E hr h => ?_)
  · obtain ⟨j, z, _, _, rfl, _⟩ := h
    rfl
  · obtain ⟨j, z, j0, j1, rfl, fin⟩ := h
    refine ⟨_, pss_cons (ps_if (pt_cmpR op_eq (pv 0) pe_str (nomark _)) (pss_one (L2N.ps_raise rfl (L2N.takes_of rfl rfl rfl rfl) (mk_excN PySem.F.excBase_ValueError (K14.T 8 (by decide)).exc (K14.T 8 (by decide)).mg_ (K14.T 8 (by decide)).kp (K14.T 8 (by decide)).raises rfl (pv 1)))) pss_nil)
      (pss_cons (ps_if (pt_cmpR op_eq (pv 0) pe_str (nomark _)) (pss_one (L2N.ps_raise rfl (L2N.takes_of rfl rfl rfl rfl) (mk_excN PySem.F.excBase_ValueError (K14.T 9 (by decide)).exc (K14.T 9 (by decide)).mg_ (K14.T 9 (by decide)).kp (K14.T 9 (by decide)).raises rfl (pv 1)))) pss_nil)
      (pss_cons (ps_if (pt_cmpR op_eq (pv 0) pe_str (nomark _)) (pss_one (L2N.ps_raise rfl (L2N.takes_of rfl rfl rfl rfl) (mk_excN PySem.F.excBase_ValueError (K14.T 10 (by decide)).exc (K14.T 10 (by decide)).mg_ (K14.T 10 (by decide)).kp (K14.T 10 (by decide)).raises rfl (pv 1)))) pss_nil)
      (pss_cons (ps_if (pt_cmpR op_eq (pv 0) pe_str (nomark _)) (pss_one (L2N.ps_raise rfl (L2N.takes_of rfl rfl rfl rfl) (mk_excN PySem.F.excBase_ValueError (K14.T 11 (by decide)).exc (K14.T 11 (by decide)).mg_ (K14.T 11 (by decide)).kp (K14.T 11 (by decide)).raises rfl (pv 1)))) pss_nil)
      (pss_cons (ps_if (pt_cmpR op_eq (pv 0) pe_str (nomark _)) (pss_one (L2N.ps_raise rfl (L2N.takes_of rfl rfl rfl rfl) (mk_excN PySem.F.excBase_ValueError (K14.T 12 (by decide)).exc (K14.T 12 (by decide)).mg_ (K14.T 12 (by decide)).kp (K14.T 12 (by decide)).raises rfl (pv 1)))) pss_nil)
      (pss_one (L2N.ps_raise rfl (L2N.takes_of rfl rfl rfl rfl) (mk_excN PySem.F.excBase_ValueError (K14.T 13 (by decide)).exc (K14.T 13 (by decide)).mg_ (K14.T 13 (by decide)).kp (K14.T 13 (by decide)).raises rfl (pv 1)))))))), ?_⟩
    have hj : j = 8 ∨ j = 9 ∨ j = 10 ∨ j = 11 ∨ j = 12 ∨ j = 13 := by omega
    rcases hj with rfl | rfl | rfl | rfl | rfl | rfl
    · refine ⟨_, rfl, rfl, _, rfl, iteY (by decide +kernel) ?_⟩
      exact ⟨_, rfl, fin⟩
    · refine ⟨_, rfl, rfl, _, rfl, iteN (by decide +kernel) ?_⟩
      refine ⟨_, rfl, rfl, _, rfl, iteY (by decide +kernel) ?_⟩
      exact ⟨_, rfl, fin⟩
    · refine ⟨_, rfl, rfl, _, rfl, iteN (by decide +kernel) ?_⟩
      refine ⟨_, rfl, rfl, _, rfl, iteN (by decide +kernel) ?_⟩
      refine ⟨_, rfl, rfl, _, rfl, iteY (by decide +kernel) ?_⟩
      exact ⟨_, rfl, fin⟩
    · refine ⟨_, rfl, rfl, _, rfl, iteN (by decide +kernel) ?_⟩
      refine ⟨_, rfl, rfl, _, rfl, iteN (by decide +kernel) ?_⟩
      refine ⟨_, rfl, rfl, _, rfl, iteN (by decide +kernel) ?_⟩
      refine ⟨_, rfl, rfl, _, rfl, iteY (by decide +kernel) ?_⟩
      exact ⟨_, rfl, fin⟩
    · refine ⟨_, rfl, rfl, _, rfl, iteN (by decide +kernel) ?_⟩
      refine ⟨_, rfl, rfl, _, rfl, iteN (by decide +kernel) ?_⟩
      refine ⟨_, rfl, rfl, _, rfl, iteN (by decide +kernel) ?_⟩
      refine ⟨_, rfl, rfl, _, rfl, iteN (by decide +kernel) ?_⟩
      refine ⟨_, rfl, rfl, _, rfl, iteY (by decide +kernel) ?_⟩
      exact ⟨_, rfl, fin⟩
    · refine ⟨_, rfl, rfl, _, rfl, iteN (by decide +kernel) ?_⟩
      refine ⟨_, rfl, rfl, _, rfl, iteN (by decide +kernel) ?_⟩
      refine ⟨_, rfl, rfl, _, rfl, iteN (by decide +kernel) ?_⟩
      refine ⟨_, rfl, rfl, _, rfl, iteN (by decide +kernel) ?_⟩
      refine ⟨_, rfl, rfl, _, rfl, iteN (by decide +kernel) ?_⟩
      exact ⟨_, rfl, fin⟩
def spWant (C : Nat → Addr) : Sp := fun vs H _ E => ∃ (l : Addr) (z : Str), vs = [.ref l] ∧ H l = some (.lst [.str z]) ∧ ∀ H', Same H H' → E (.ref (C 0)) none H'
abbrev nWant : List Str := ["rows", "row"]
theorem scWant : FnScope nWant ["rows"] (defScope sWant) := ⟨rfl, rfl, rfl, by decide +kernel, rfl, by decide +kernel, by decide +kernel⟩
theorem ok_want {f : Addr} {fd : FuncData} (F : Fun K "want_rows" "want_rows" sWant f fd) (B : Blt mg) (K14 : Cls14 K mg C G RR) : FnOk P w K mg base (L2N.CX P w) 1 f fd ["rows"] (spWant C) := by
  refine okN F scWant (fun vs H Q E h => ?_) (fun cdv A outer s H vs Q E hr h => ?_)
  · obtain ⟨l, z, rfl, _⟩ := h
    rfl
  · obtain ⟨l, z, rfl, hl, fin⟩ := h
    refine ⟨_, pss_one (ps_if (PW.pt (pw_or (pt_not (pt_val (pe_callB call_isi (by rfl) B.isinstance boot_isinstance (pa_cons (pv 0) (pa_cons (pe_bltn (v := .ty "list") (by rfl) B.list (by decide +kernel) rfl) pa_nil)))))
        (pw_or1 (pt_not (pt_val (pe_callB (cr_all rfl) (by rfl) B.all boot_all (pa_cons
          (pe_lc (own := [("row", 1)]) (g := gName 1) (tt := tYes) (te := tCB (rIsi K) (tCons (tVar 1) (tCons (tC (.ref RR)) tNil))) rfl scWant.nd (pi_list (pv 0)) (blkOk_by (N := nWant) (sc := defScope sWant) (by decide +kernel)) (fun _ _ _ _ _ => pg_name (i := 1) scWant.nd rfl (.inl rfl)) (fun _ _ _ _ _ => pts_nil)
            (fun _ _ _ _ _ => pe_callB call_isi (by rfl) B.isinstance boot_isinstance (pa_cons (pv 1) (pa_cons (pe_glob (v := .ref RR) rfl K14.row rfl) pa_nil)))) pa_nil)))))))
        (pss_one (L2N.ps_raise rfl (L2N.takes_of rfl rfl rfl rfl) (L2N.pmk_own PySem.F.excBase_ValueError (K14.T 0 (by decide)).exc (K14.T 0 (by decide)).mg_ (K14.T 0 (by decide)).kp (K14.T 0 (by decide)).raises rfl))) pss_nil), ?_⟩
    refine ⟨_, rfl, .ref l, .ty "list", .type "list", .type "list", true, rfl, .ty _, .base (.lst hl), kit_ty (by decide +kernel), _, rfl, iteF ?_⟩
    refine ⟨_, rfl, l, rfl, ⟨_, SqL.of hl⟩, fun d nd => ?_⟩
    refine lc_list (K := K) (a := l) (xs := [.str z]) (fun i G => Same H G ∧ G d = some (.lst (List.replicate i (V.bl false)))) ⟨Same.new nd, upd_same⟩ (fun i G _ q => SqL.of (q.1 _ _ hl)) ?_ ?_
    · rintro i x G hi ⟨sG, dG⟩
      obtain ⟨rfl, rfl⟩ : i = 0 ∧ x = .str z := by
        match i, hi with
        | 0, hi => exact ⟨rfl, (Option.some.inj hi).symm⟩
        | i + 1, hi => simp at hi
      refine ⟨rfl, ?_⟩
      refine ⟨_, rfl, .str z, .ref RR, .type "str", .ref RR, false, rfl, .own _, .base (.str _), K14.strRow, _, dG, by decide, fun c o e => ?_, upd_same⟩
      rw [upd_ne (ne_of_none e nd)]
      exact sG _ _ e
    · rintro G ⟨sG, dG⟩
      refine ⟨d, [false], rfl, SqL.of dG, _, rfl, iteT ?_⟩
      exact fin G sG

abbrev spFree1 (C : Nat → Addr) : Sp := spWant C
abbrev nFree : List Str := ["rows", "row"]
theorem scFree : FnScope nFree ["rows"] (defScope sFree) := ⟨rfl, rfl, rfl, by decide +kernel, rfl, by decide +kernel, by decide +kernel⟩
theorem ok_free {f : Addr} {fd : FuncData} (F : Fun K "want_free" "want_free" sFree f fd) (DW : GD P w K mg base (L2N.CX P w) "want_rows" ["rows"] 1 (spWant C)) : FnOk P w K mg base (L2N.CX P w) 2 f fd ["rows"] (spFree1 C) := by
  refine okN F scFree (fun vs H Q E h => ?_) (fun cdv A outer s H vs Q E hr h => ?_)
  · obtain ⟨l, z, rfl, _⟩ := h
    rfl
  · obtain ⟨l, z, rfl, hl, fin⟩ := h
    refine ⟨_, pss_cons (ps_expr (pe_gdS DW hr rfl (fun σ => L2N.passAt (L2N.takes_of rfl rfl rfl rfl) σ) (pa_cons (pv 0) pa_nil))) pss_never, ?_⟩
    exact ⟨_, rfl, l, z, rfl, hl, fin⟩

end
end K17


set_option Elab.async false
set_option linter.all false
set_option maxRecDepth 100000
set_option maxHeartbeats 8000000
namespace K17
open PySem PySem.Spec PyProof.Rows L2 Hu
section
variable {P : Program} {w : World} {K : PySem.W.Frag} {mg : Str → Option Value} {base : Heap} {C : Nat → Addr} {G RR : Addr}
/-- word_of as it is called while an exception is handled -/
def WU (P : Program) (w : World) (K : PySem.W.Frag) (mg : Str → Option Value) (base : Heap) (C : Nat → Addr) : Prop :=
  ∃ f fd, (∀ j, j < 14 → FnU P w K mg base 1 f fd ["_law_e"] (ZW C j) (spWordU j)) ∧ mg "_law_word_of" = some (.ref f) ∧ PySem.W.keepIn K (.ref f) = true ∧ Binds K fd ["_law_e"] []
abbrev nTaken : List Str := ["_law_way", "_law_word", "_law_text_here", "_law_found", "_law_e"]
theorem scTaken : FnScope nTaken ["_law_way", "_law_word", "_law_text_here"] (defScope sTaken) := ⟨rfl, rfl, rfl, by decide +kernel, rfl, by decide +kernel, by decide +kernel⟩
def spTaken : Sp := fun vs H Q _ => ∃ (i : Int) (x z : Str) (j : Nat), vs = [.int i, .str x, .str z] ∧
  ((i = 0 ∧ x = wd j ∧ j < 8) ∨ (i = 1 ∧ x = wd j ∧ 8 ≤ j ∧ j < 14) ∨ (i = 2 ∧ j = 0)) ∧ ∀ H', Same H H' → Q (.str (wd j)) H'
theorem ok_taken {f : Addr} {fd : FuncData} (F : Fun K "_law_taken" "_law_taken" sTaken f fd) (K14 : Cls14 K mg C G RR)
    (DR : GD P w K mg base (L2N.CX P w) "_law_rows" ["_law_word", "_law_text_here"] 1 (spRows C)) (DP : GD P w K mg base (L2N.CX P w) "_law_plans" ["_law_word", "_law_text_here"] 1 (spPlans C))
    (DF : GD P w K mg base (L2N.CX P w) "want_free" ["rows"] 2 (spFree1 C)) (DW : WU P w K mg base C) : FnOk P w K mg base CX0 3 f fd ["_law_way", "_law_word", "_law_text_here"] spTaken := by
  obtain ⟨fW, fdW, FW, mW, kW, bW⟩ := DW
  refine F.ok scTaken (fun vs H Q E h => ?_) (fun cdv A outer s H vs Q E hr h => ?_)
  · obtain ⟨i, x, z, j, rfl, _⟩ := h
    rfl
  · obtain ⟨i, x, z, j, rfl, hw, fin⟩ := h
    have hr1 := hr.mono (show 1 ≤ 2 by decide)
    refine ⟨_, pss_cons (ps_set (i := 3) scTaken.nd rfl (.inl rfl) pe_str)
      (pss_cons (L2N.ps_try_as (i := 4) (Wout := fun _ _ _ _ => False) (ts := fun a cls d => fun D σ H => ∃ j, (j < 14 ∧ cls = .ref (C j) ∧ d = none) ∧ tAsg (tCallU a (fun b vs => vs = [.ref b]) (spWordU j) (tCons (tVar 4) tNil)) (gName 3) D σ H)
          rfl rfl scTaken.nd rfl rfl ⟨rfl, by decide, .inl K14.gift⟩ takesN0
        (fun W pn xe tk _ => pss_one (ps_if (pt_cmpR op_eq (pv 0) pe_int (nomark _)) (pss_one (ps_expr (pe_gdS DR hr1 rfl (fun σ => L2N.passAt tk σ) (pa_cons (pv 1) (pa_cons (pv 2) pa_nil)))))
          (pss_one (ps_if (pt_cmpR op_eq (pv 0) pe_int (nomark _)) (pss_one (ps_expr (pe_gdS DP hr1 rfl (fun σ => L2N.passAt tk σ) (pa_cons (pv 1) (pa_cons (pv 2) pa_nil)))))
            (pss_one (ps_expr (pe_gdS DF hr rfl (fun σ => L2N.passAt tk σ) (pa_cons (pe_lst (pa_cons (pv 2) pa_nil)) pa_nil))))))))
        (fun a oe cls d pn hz hf => pss_ex fun j hj => pss_one (ps_set (i := 3) scTaken.nd rfl (.inl rfl)
          (pe_callU (p := (a, oe)) (fun vs e => ⟨e, by
              have z := hz.zc
              rw [hj.2.1, hj.2.2] at z
              exact z, hf⟩) (FW j hj.1) ⟨(L2H.roomH_of hr1).dp, (L2H.roomH_of hr1).un⟩ (by
              obtain ⟨us, e⟩ := hf
              exact ⟨rfl, us, e, hz.2.2 us e⟩) List.mem_cons_self rfl mW kW bW (pa_cons (pv 4) pa_nil)))))
      (pss_one (ps_ret (pv 3)))), ?_⟩
    -- what the suite does of an exception of the class number j
    have caught : ∀ (D : Ends) (H1 : Hp) (a : Addr), Same H H1 → j < 14 → (∀ H', Same H H' → D.nx ([some (.int i), some (.str x), some (.str z), some (.str (wd j)), some (.ref a)] : L2.St) H') →
        ∃ l, (l < 14 ∧ Value.ref (C j) = .ref (C l) ∧ (none : Option Addr) = none) ∧ tAsg (tCallU a (fun b vs => vs = [.ref b]) (spWordU l) (tCons (tVar 4) tNil)) (gName 3) D ([some (.int i), some (.str x), some (.str z), some (.str "none"), some (.ref a)] : L2.St) H1 :=
      fun D H1 a s hj k => ⟨j, ⟨hj, rfl, rfl⟩, ⟨_, rfl, rfl, rfl, fun H' s2 => k H' (s.trans s2)⟩⟩
    rcases hw with ⟨rfl, rfl, hj⟩ | ⟨rfl, rfl, h8, hj⟩ | ⟨rfl, rfl⟩
    · refine ⟨_, rfl, rfl, _, rfl, iteY (by decide) ?_⟩
      refine ⟨_, rfl, _, rfl, j, z, by omega, by omega, rfl, true, K14.giftX j (by omega), fun _ a na => ?_, fun q => nomatch q⟩
      exact caught _ H a (Same.refl H) (by omega) fun H' s => ⟨_, rfl, fin H' s⟩
    · refine ⟨_, rfl, rfl, _, rfl, iteN (by decide) ?_⟩
      refine ⟨_, rfl, rfl, _, rfl, iteY (by decide) ?_⟩
      refine ⟨_, rfl, _, rfl, j, z, by omega, by omega, rfl, true, K14.giftX j (by omega), fun _ a na => ?_, fun q => nomatch q⟩
      exact caught _ H a (Same.refl H) (by omega) fun H' s => ⟨_, rfl, fin H' s⟩
    · refine ⟨_, rfl, rfl, _, rfl, iteN (by decide) ?_⟩
      refine ⟨_, rfl, rfl, _, rfl, iteN (by decide) ?_⟩
      refine ⟨_, rfl, (by show 1 ≤ sizeLine; decide), fun l nl => ⟨l, z, rfl, upd_same, fun H1 s1 => ?_⟩⟩
      refine ⟨true, K14.giftX 0 (by omega), fun _ a na => ?_, fun q => nomatch q⟩
      exact caught _ H1 a (fun c o e => s1 _ _ (Same.new nl c o e)) (by omega) fun H' s => ⟨_, rfl, fin H' s⟩

end
end K17


set_option Elab.async false
set_option linter.all false
set_option maxRecDepth 100000
set_option maxHeartbeats 8000000
namespace K17
open PySem PySem.Spec PyProof.Rows L2 Hu
section
variable {P : Program} {w : World} {K : PySem.W.Frag} {mg : Str → Option Value} {base : Heap} {C : Nat → Addr} {G RR : Addr}
/-- objects of the classes of these numbers -/
def Exs (C : Nat → Addr) (H : Hp) (ts : List Addr) (js : List Nat) : Prop := Paired (fun t j => H t = some (ExO (.ref (C j)) t)) ts js
theorem Exs.same {H H' : Hp} (s : Same H H') : ∀ {ts : List Addr} {js : List Nat}, Exs C H ts js → Exs C H' ts js
  | _, _, .nil => .nil
  | _, _, .cons a b => .cons (s _ _ a) (Exs.same s b)
theorem Exs.app {H : Hp} : ∀ {ts us : List Addr} {xs ys : List Nat}, Exs C H ts xs → Exs C H us ys → Exs C H (ts ++ us) (xs ++ ys)
  | _, _, _, _, .nil, b => b
  | _, _, _, _, .cons a r, b => .cons a (Exs.app r b)
theorem Exs.at_ {H : Hp} : ∀ {ts : List Addr} {xs : List Nat} {i : Nat} {t : Addr}, Exs C H ts xs → ts[i]? = some t → ∃ x, xs[i]? = some x ∧ H t = some (ExO (.ref (C x)) t)
  | _, _, _, _, .nil, e => by simp at e
  | _, _, 0, _, .cons a _, e => by
    simp at e
    subst e
    exact ⟨_, rfl, a⟩
  | _, _, i + 1, _, .cons _ r, e => by
    obtain ⟨x, h1, h2⟩ := Exs.at_ (i := i) r (by simpa using e)
    exact ⟨x, by simpa using h1, h2⟩
/-- arguments that make such objects -/
def MakesX (C : Nat → Addr) (σ : L2.St) (tA : TA) (js : List Nat) : Prop := ∀ (H : Hp) (Q : List V → Hp → Prop), (∀ ts H', Same H H' → Exs C H' ts js → Q (ts.map V.ref) H') → tA σ H Q
theorem makesX_nil {σ : L2.St} : MakesX C σ tNil [] := fun H Q k => k [] H (Same.refl H) .nil
theorem makesX_cons {σ : L2.St} {j : Nat} {tr : TA} {js : List Nat} (m : MakesX C σ tr js) :
    MakesX C σ (tCons (fun _ H Q => ∀ a, H a = none → Q (.ref a) (upd H a (ExO (.ref (C j)) a))) tr) (j :: js) := fun H Q k a na =>
  m _ _ fun ts H' s t => k (a :: ts) H' (fun c o z => s _ _ (Same.new na c o z)) (.cons (s _ _ upd_same) t)
/-- the list at l holds such objects -/
def ExL (C : Nat → Addr) (H : Hp) (l : Addr) (js : List Nat) : Prop := ∃ ts : List Addr, H l = some (.lst (ts.map V.ref)) ∧ Exs C H ts js
theorem x_first {σ : L2.St} {tA : TA} {js : List Nat} {u : TS} {D : Ends} {H : Hp} (m : MakesX C σ tA js) (hl : js.length ≤ 100)
    (k : ∀ l H', Same H H' → ExL C H' l js → u D (σ.set 0 (some (.ref l))) H') : tSeq (tAsg (tLst tA) (gName 0)) u D σ H :=
  m H _ fun ts H' s tt => ⟨by
    rw [List.length_map, Paired.length tt, sizeLine_eq]
    omega, fun l hl => k l _ (fun c o z => Same.new hl _ _ (s c o z)) ⟨ts, upd_same, tt.same (Same.new hl)⟩⟩
theorem x_more {σ : L2.St} {tA : TA} {l : Addr} {xs ys : List Nat} {u : TS} {D : Ends} {H : Hp} (m : MakesX C σ tA ys) (hσ : σ[0]? = some (some (.ref l))) (hL : ExL C H l xs) (hl : xs.length + ys.length ≤ 100)
    (k : ∀ l' H', Same H H' → ExL C H' l' (xs ++ ys) → u D (σ.set 0 (some (.ref l'))) H') : tSeq (tAsg (tOp rCat (tVar 0) (tLst tA)) (gName 0)) u D σ H := by
  refine ⟨_, hσ, m H _ fun ts H1 s tt => ⟨by
    rw [List.length_map, Paired.length tt, sizeLine_eq]
    omega, fun l2 n2 => ?_⟩⟩
  obtain ⟨us, hu, tu⟩ := hL
  refine ⟨l, l2, _, _, rfl, rfl, Same.new n2 _ _ (s _ _ hu), upd_same, (by rw [List.length_map, List.length_map, Paired.length tt, Paired.length tu, sizeLine_eq]; omega), fun p np => ?_⟩
  have s2 : Same H (upd H1 l2 (.lst (ts.map V.ref))) := fun c o z => Same.new n2 _ _ (s c o z)
  refine k p _ (fun c o z => Same.new np _ _ (s2 c o z)) ⟨us ++ ts, ?_, ?_⟩
  · rw [upd_same, List.map_append]
  · exact ((tu.same s2).same (Same.new np)).app ((tt.same (Same.new n2)).same (Same.new np))
abbrev nNot : List Str := ["_law_some", "_law_one"]
theorem scNot : FnScope nNot [] (defScope sNothing) := ⟨rfl, rfl, rfl, by decide +kernel, rfl, by decide +kernel, by decide +kernel⟩
def words (n : Nat) : List Str := (List.range n).map wd
def spNothing : Sp := fun vs H Q _ => vs = [] ∧ ∀ d H', Same H H' → H' d = some (.lst ((words 14).map V.str)) → Q (.ref d) H'
theorem words_succ (i : Nat) : words (i + 1) = words i ++ [wd i] := by
  unfold words
  rw [List.range_succ, List.map_append]
  rfl
theorem words_len (i : Nat) : (words i).length = i := by simp [words]
theorem ok_nothing {f : Addr} {fd : FuncData} (F : Fun K "_law_of_nothing" "_law_of_nothing" sNothing f fd) (B : Blt mg) (K14 : Cls14 K mg C G RR)
    (DW : GD P w K mg base CX0 "_law_word_of" ["_law_e"] 1 (spWord C)) : FnOk P w K mg base CX0 2 f fd [] spNothing := by
  refine F.ok scNot (fun vs H Q E h => ?_) (fun cdv A outer s H vs Q E hr h => ?_)
  · obtain ⟨rfl, _⟩ := h
    rfl
  · obtain ⟨rfl, fin⟩ := h

    refine ⟨_, pss_cons (ps_set (i := 0) scNot.nd rfl (.inl rfl) (pe_lst (pa_cons (pe_exc0 PySem.F.excBase_ValueError (K14.T 0 (by decide)).exc (K14.T 0 (by decide)).mg_ (K14.T 0 (by decide)).kp rfl) (pa_cons (pe_exc0 PySem.F.excBase_ValueError (K14.T 1 (by decide)).exc (K14.T 1 (by decide)).mg_ (K14.T 1 (by decide)).kp rfl) (pa_cons (pe_exc0 PySem.F.excBase_ValueError (K14.T 2 (by decide)).exc (K14.T 2 (by decide)).mg_ (K14.T 2 (by decide)).kp rfl) (pa_cons (pe_exc0 PySem.F.excBase_ValueError (K14.T 3 (by decide)).exc (K14.T 3 (by decide)).mg_ (K14.T 3 (by decide)).kp rfl) (pa_cons (pe_exc0 PySem.F.excBase_ValueError (K14.T 4 (by decide)).exc (K14.T 4 (by decide)).mg_ (K14.T 4 (by decide)).kp rfl) (pa_cons (pe_exc0 PySem.F.excBase_ValueError (K14.T 5 (by decide)).exc (K14.T 5 (by decide)).mg_ (K14.T 5 (by decide)).kp rfl) (pa_cons (pe_exc0 PySem.F.excBase_ValueError (K14.T 6 (by decide)).exc (K14.T 6 (by decide)).mg_ (K14.T 6 (by decide)).kp rfl) (pa_cons (pe_exc0 PySem.F.excBase_ValueError (K14.T 7 (by decide)).exc (K14.T 7 (by decide)).mg_ (K14.T 7 (by decide)).kp rfl) pa_nil))))))))))
      (pss_cons (ps_set (i := 0) scNot.nd rfl (.inl rfl) (pe_op op_cat (pv 0) (pe_lst (pa_cons (pe_exc0 PySem.F.excBase_ValueError (K14.T 8 (by decide)).exc (K14.T 8 (by decide)).mg_ (K14.T 8 (by decide)).kp rfl) (pa_cons (pe_exc0 PySem.F.excBase_ValueError (K14.T 9 (by decide)).exc (K14.T 9 (by decide)).mg_ (K14.T 9 (by decide)).kp rfl) (pa_cons (pe_exc0 PySem.F.excBase_ValueError (K14.T 10 (by decide)).exc (K14.T 10 (by decide)).mg_ (K14.T 10 (by decide)).kp rfl) (pa_cons (pe_exc0 PySem.F.excBase_ValueError (K14.T 11 (by decide)).exc (K14.T 11 (by decide)).mg_ (K14.T 11 (by decide)).kp rfl) (pa_cons (pe_exc0 PySem.F.excBase_ValueError (K14.T 12 (by decide)).exc (K14.T 12 (by decide)).mg_ (K14.T 12 (by decide)).kp rfl) (pa_cons (pe_exc0 PySem.F.excBase_ValueError (K14.T 13 (by decide)).exc (K14.T 13 (by decide)).mg_ (K14.T 13 (by decide)).kp rfl) pa_nil)))))))))
      (pss_one (ps_ret (pe_lc (own := [("_law_one", 1)]) (g := gName 1) (tt := tB (tCB (rIsO K) (tCons (tVar 1) (tCons (tC (.ref G)) tNil)))) (te := tCall (spWord C) [] E0 (tCons (tVar 1) tNil)) rfl scNot.nd (pi_list (pv 0)) (blkOk_by (N := nNot) (sc := defScope sNothing) (by decide +kernel)) (fun _ _ _ _ _ => pg_name (i := 1) scNot.nd rfl (.inl rfl))
        (fun _ _ _ _ _ => pts_one (pt_val (pe_callB isO (by rfl) B.isinstance boot_isinstance (pa_cons (pv 1) (pa_cons (pe_glob (v := .ref G) rfl K14.gift rfl) pa_nil)))))
        (fun _ _ _ _ _ => pe_gd DW hr rfl pass0 (pa_cons (pv 1) pa_nil)))))), ?_⟩
    refine x_first (C := C) (js := [0, 1, 2, 3, 4, 5, 6, 7]) ((makesX_cons (C := C) (j := 0) (makesX_cons (C := C) (j := 1) (makesX_cons (C := C) (j := 2) (makesX_cons (C := C) (j := 3) (makesX_cons (C := C) (j := 4) (makesX_cons (C := C) (j := 5) (makesX_cons (C := C) (j := 6) (makesX_cons (C := C) (j := 7) makesX_nil))))))))) (by decide) fun l H1 s1 x1 => ?_
    refine x_more (C := C) (ys := [8, 9, 10, 11, 12, 13]) ((makesX_cons (C := C) (j := 8) (makesX_cons (C := C) (j := 9) (makesX_cons (C := C) (j := 10) (makesX_cons (C := C) (j := 11) (makesX_cons (C := C) (j := 12) (makesX_cons (C := C) (j := 13) makesX_nil))))))) rfl x1 (by decide) fun p H3 s2 x2 => ?_
    obtain ⟨as, hp, xa⟩ := x2
    have la : as.length = 14 := Paired.length xa
    have s3 : Same H H3 := s1.trans s2
    refine ⟨_, rfl, p, rfl, ⟨_, SqL.of hp⟩, fun d nd => ?_⟩
    refine lc_list (K := K) (a := p) (xs := as.map V.ref) (fun i G' => Same H3 G' ∧ G' d = some (.lst ((words i).map V.str))) ⟨Same.new nd, upd_same⟩ (fun i G' _ q => SqL.of (q.1 _ _ hp)) ?_ ?_
    · rintro i x G' hi ⟨sG, dG⟩
      obtain ⟨t, ht, rfl⟩ : ∃ t, as[i]? = some t ∧ x = V.ref t := by
        rw [List.getElem?_map] at hi
        cases e : as[i]? with
        | none => rw [e] at hi; cases hi
        | some t => rw [e] at hi; exact ⟨t, rfl, (Option.some.inj hi).symm⟩
      have h14 : i < 14 := by
        have := (List.getElem?_eq_some_iff.mp ht).1
        omega
      obtain ⟨j, hj, hH⟩ := xa.at_ ht
      have ej : j = i := by
        have all : ∀ k : Nat, k < 14 → ([0, 1, 2, 3, 4, 5, 6, 7] ++ [8, 9, 10, 11, 12, 13] : List Nat)[k]? = some k := by decide +kernel
        have e := all i h14
        rw [hj] at e
        exact Option.some.inj e
      subst ej
      refine ⟨rfl, ?_⟩
      refine ⟨_, rfl, t, C j, .ref G, .ref G, true, rfl, (K14.T j h14).c, sG _ _ hH, fun u q => by cases q; rfl, (K14.T j h14).up, _, rfl, ?_⟩
      refine iteT ⟨_, rfl, j, t, h14, rfl, sG _ _ hH, fun G2 s4 => ⟨_, s4 _ _ dG, ?_, ?_⟩⟩
      · rw [List.length_map, words_len, sizeLine_eq]
        omega
      · refine ⟨fun c o e => ?_, ?_⟩
        · rw [upd_ne (ne_of_none e nd)]
          exact s4 _ _ (sG _ _ e)
        · rw [upd_same, words_succ, List.map_append]
          rfl
    · rintro G' ⟨sG, dG⟩
      rw [List.length_map, la] at dG
      exact fin d G' (s3.trans sG) dG

end
end K17


set_option Elab.async false
set_option linter.all false
set_option maxRecDepth 100000
set_option maxHeartbeats 8000000
namespace K17
open PySem PySem.Spec PyProof.Rows L2 Hu
section
variable {P : Program} {w : World} {K : PySem.W.Frag} {mg : Str → Option Value} {base : Heap} {C : Nat → Addr} {G RR : Addr}
def spLaw (K : PySem.W.Frag) : Sp := fun vs H Q _ => ∃ (a : Addr) (ns : List Int), vs = [.ref a] ∧ SqL K H a (ns.map V.int) ∧ ns.length ≤ 63 ∧ ∀ H', Q (.bl true) H'
abbrev nLaw : List Str := ["_law_script", "_law_rows_here", "_law_plans_here", "_law_k", "_law_text_here", "_law_word"]
theorem scLaw : FnScope nLaw ["_law_script"] (defScope sLaw) := ⟨rfl, rfl, rfl, by decide +kernel, rfl, by decide +kernel, by decide +kernel⟩
theorem dp_strs {H : Hp} : ∀ xs : List Str, DpAll K H (xs.map V.str) (xs.map PyData.str)
  | [] => .nil
  | x :: r => .cons (.str x) (dp_strs r)
def rws : List Str := (List.range 8).map wd
def pls : List Str := (List.range 6).map fun i => wd (8 + i)
theorem rws_eq : (rws.map V.str) = [.str "row", .str "held", .str "closed", .str "numbers", .str "number", .str "count", .str "group", .str "copy"] := by rfl
theorem pls_eq : (pls.map V.str) = [.str "text", .str "plan", .str "step", .str "say", .str "name", .str "kind"] := by rfl
theorem sh_rws : SeqAt.shaped (.list (rws.map PyData.str)) = true := by decide +kernel
theorem sh_pls : SeqAt.shaped (.list (pls.map PyData.str)) = true := by decide +kernel
theorem sh_all : SeqAt.shaped (.list ((words 14).map PyData.str)) = true := by decide +kernel
theorem eq_rws : PyData.eqv (.list (rws.map PyData.str)) (.list (rws.map PyData.str)) = true := by decide +kernel
theorem eq_pls : PyData.eqv (.list (pls.map PyData.str)) (.list (pls.map PyData.str)) = true := by decide +kernel
theorem eq_all : PyData.eqv (.list ((words 14).map PyData.str)) (.list ((words 14).map PyData.str)) = true := by decide +kernel
theorem words_all : words 14 = rws ++ pls := by decide +kernel
/-- the comprehension over words: each answers itself -/
theorem q_taken {σ : L2.St} {r : Addr} {way : Int} {z : Str} {H : Hp} {Q : VK} {vi : Nat} {xs : List Str} {off : Nat} (hs : σ.length = 6) (hσ : σ[vi]? = some (some (.ref r))) (hr : H r = some (.lst (xs.map V.str)))
    (hz : σ[4]? = some (some (.str z))) (hl : xs.length ≤ 20) (hx : ∀ i x, xs[i]? = some x → x = wd (off + i) ∧ ((way = 0 ∧ off + i < 8) ∨ (way = 1 ∧ 8 ≤ off + i ∧ off + i < 14)))
    (k : ∀ d H', Same H H' → H' d = some (.lst (xs.map V.str)) → Q (.ref d) H') :
    tLc (iList K (tVar vi)) (gName 5) tYes (tCall spTaken [] E0 (tCons (tC (.int way)) (tCons (tVar 5) (tCons (tVar 4) tNil)))) [5] σ H Q := by
  refine ⟨_, hσ, r, rfl, ⟨_, SqL.of hr⟩, fun d nd => ?_⟩
  refine lc_list (K := K) (a := r) (xs := xs.map V.str) (fun i G' => Same H G' ∧ G' d = some (.lst ((xs.take i).map V.str))) ⟨Same.new nd, upd_same⟩ (fun i G' _ q => SqL.of (q.1 _ _ hr)) ?_ ?_
  · rintro i x G' hi ⟨sG, dG⟩
    obtain ⟨y, hy, rfl⟩ : ∃ y, xs[i]? = some y ∧ x = V.str y := by
      rw [List.getElem?_map] at hi
      cases e : xs[i]? with
      | none => rw [e] at hi; cases hi
      | some t => rw [e] at hi; exact ⟨t, rfl, (Option.some.inj hi).symm⟩
    obtain ⟨rfl, hw⟩ := hx i y hy
    have h5 : ((wipe σ [5]).set 5 (some (V.str (wd (off + i)))))[5]? = some (some (V.str (wd (off + i)))) := by
      rw [List.getElem?_set_self]
      rw [wipe_length, hs]
      decide
    have h4 : ((wipe σ [5]).set 5 (some (V.str (wd (off + i)))))[4]? = some (some (V.str z)) := by
      match σ, hs, hz with
      | [a, b, c, e, f, g], _, hz => exact hz
    have wp : wipe ((wipe σ [5]).set 5 (some (V.str (wd (off + i))))) [5] = wipe σ [5] := by
      match σ, hs with
      | [a, b, c, e, f, g], _ => rfl
    refine ⟨wp, ?_⟩
    refine ⟨_, h5, _, h4, way, wd (off + i), z, off + i, rfl, ?_, fun G2 s4 => ⟨_, s4 _ _ dG, ?_, ?_⟩⟩
    · rcases hw with ⟨a, b⟩ | ⟨a, b, c⟩
      · exact .inl ⟨a, rfl, b⟩
      · exact .inr (.inl ⟨a, rfl, b, c⟩)
    · rw [List.length_map, sizeLine_eq]
      have h2 : (xs.take i).length ≤ xs.length := List.length_take_le' i xs
      omega
    · refine ⟨fun c o e => ?_, ?_⟩
      · rw [upd_ne (ne_of_none e nd)]
        exact s4 _ _ (sG _ _ e)
      · obtain ⟨hi2, e2⟩ := List.getElem?_eq_some_iff.mp hy
        rw [upd_same, List.take_succ_eq_append_getElem hi2, e2, List.map_append]
        rfl
  · rintro G' ⟨sG, dG⟩
    rw [List.length_map, List.take_of_length_le (Nat.le_refl _)] at dG
    exact k d G' sG dG
theorem rws_at : ∀ i x, rws[i]? = some x → x = wd (0 + i) ∧ (((0 : Int) = 0 ∧ 0 + i < 8) ∨ ((0 : Int) = 1 ∧ 8 ≤ 0 + i ∧ 0 + i < 14)) := fun i x h => by
  obtain ⟨hi, e⟩ := List.getElem?_eq_some_iff.mp h
  have hi : i < 8 := by simpa [rws] using hi
  simp [rws] at e
  exact ⟨by rw [Nat.zero_add, e], .inl ⟨rfl, by omega⟩⟩
theorem pls_at : ∀ i x, pls[i]? = some x → x = wd (8 + i) ∧ (((1 : Int) = 0 ∧ 8 + i < 8) ∨ ((1 : Int) = 1 ∧ 8 ≤ 8 + i ∧ 8 + i < 14)) := fun i x h => by
  obtain ⟨hi, e⟩ := List.getElem?_eq_some_iff.mp h
  have hi : i < 6 := by simpa [pls] using hi
  simp [pls] at e
  exact ⟨e.symm, .inr ⟨rfl, by omega, by omega⟩⟩
abbrev tWords (K : PySem.W.Frag) (vi : Nat) (way : Int) : TT := tTest (tOp (rNeD K) (tLc (iList K (tVar vi)) (gName 5) tYes (tCall spTaken [] E0 (tCons (tC (.int way)) (tCons (tVar 5) (tCons (tVar 4) tNil)))) [5]) (tVar vi))
theorem q_no {σ : L2.St} {r : Addr} {way : Int} {z : Str} {H : Hp} {B : Bool → Hp → Prop} {vi : Nat} {xs : List Str} {off : Nat} (hs : σ.length = 6) (hσ : σ[vi]? = some (some (.ref r))) (hr : H r = some (.lst (xs.map V.str)))
    (hz : σ[4]? = some (some (.str z))) (hl : xs.length ≤ 20) (hx : ∀ i x, xs[i]? = some x → x = wd (off + i) ∧ ((way = 0 ∧ off + i < 8) ∨ (way = 1 ∧ 8 ≤ off + i ∧ off + i < 14)))
    (sh : SeqAt.shaped (.list (xs.map PyData.str)) = true) (eq : PyData.eqv (.list (xs.map PyData.str)) (.list (xs.map PyData.str)) = true) (k : ∀ H', Same H H' → B false H') : tWords K vi way σ H B := by
  show tLc (iList K (tVar vi)) (gName 5) tYes (tCall spTaken [] E0 (tCons (tC (.int way)) (tCons (tVar 5) (tCons (tVar 4) tNil)))) [5] σ H (fun v H1 => tVar vi σ H1 fun u H2 => rNeD K v u H2 fun x H3 => ∃ c, x = .bl c ∧ B c H3)
  refine q_taken hs hσ hr hz hl hx fun d H1 s1 hd => ⟨_, hσ, _, _, .lst (SqL.of hd) (dp_strs _), .lst (SqL.of (s1 _ _ hr)) (dp_strs _), sh, sh, _, rfl, ?_⟩
  rw [eq]
  exact k H1 s1
theorem skip {T : TT} {A u : TS} {D : Ends} {σ : L2.St} {H : Hp} {R : Hp → Prop} (h : ∀ B : Bool → Hp → Prop, (∀ H', R H' → B false H') → T σ H B) (k : ∀ H', R H' → u D σ H') : tSeq (tIfS T A tNext) u D σ H :=
  h _ fun H' r => iteF (k H' r)
theorem skip1 {T : TT} {A : TS} {D : Ends} {σ : L2.St} {H : Hp} {R : Hp → Prop} (h : ∀ B : Bool → Hp → Prop, (∀ H', R H' → B false H') → T σ H B) (k : ∀ H', R H' → D.nx σ H') : tIfS T A tNext D σ H :=
  h _ fun H' r => iteF (k H' r)
theorem ok_law {f : Addr} {fd : FuncData} (F : Fun K "law" "law" sLaw f fd) (B : Blt mg)
    (DP : GD P w K mg base CX0 "_law_pot" ["_law_script", "_law_k"] 1 (spPot K)) (DT : GD P w K mg base CX0 "_law_text" ["_law_pot_here"] 2 spText)
    (DK : GD P w K mg base CX0 "_law_taken" ["_law_way", "_law_word", "_law_text_here"] 3 spTaken) (DN : GD P w K mg base CX0 "_law_of_nothing" [] 2 spNothing) : FnOk P w K mg base CX0 4 f fd ["_law_script"] (spLaw K) := by
  refine F.ok scLaw (fun vs H Q E h => ?_) (fun cdv A outer s H vs Q E hr h => ?_)
  · obtain ⟨a, ns, rfl, _⟩ := h
    rfl
  · obtain ⟨a, ns, rfl, hS, hlen, fin⟩ := h
    have hr1 : Room 1 _ := hr.mono (by decide)
    have hr2 : Room 2 _ := hr.mono (by decide)
    refine ⟨_, pss_cons (ps_set (i := 1) scLaw.nd rfl (.inl rfl) (pe_lst (pa_cons pe_str (pa_cons pe_str (pa_cons pe_str (pa_cons pe_str (pa_cons pe_str (pa_cons pe_str (pa_cons pe_str (pa_cons pe_str pa_nil))))))))))
      (pss_cons (ps_set (i := 2) scLaw.nd rfl (.inl rfl) (pe_lst (pa_cons pe_str (pa_cons pe_str (pa_cons pe_str (pa_cons pe_str (pa_cons pe_str (pa_cons pe_str pa_nil))))))))
      (pss_cons (ps_for PassesOwn.never rfl (pi_range1 rfl B.range (pa_cons (pe_callB (call_max2 rfl) (by rfl) B.max boot_max (pa_cons pe_int (pa_cons (pe_callB (call_min2 rfl) (by rfl) B.min boot_min (pa_cons pe_int (pa_cons (pe_callB call_len_seq (by rfl) B.len boot_len (pa_cons (pv 0) pa_nil)) pa_nil))) pa_nil))) pa_nil)) (pg_name (i := 3) scLaw.nd rfl (.inl rfl))
        (pss_cons (ps_set (i := 4) scLaw.nd rfl (.inr rfl) (pe_gd DT hr2 rfl pass0 (pa_cons (pe_gd DP hr1 rfl pass0 (pa_cons (pv 0) (pa_cons (pv 3) pa_nil))) pa_nil)))
        (pss_cons (ps_if (pt_cmpR (op_neD hr.units) (pe_lc (own := [("_law_word", 5)]) (g := gName 5) (tt := tYes) (te := tCall spTaken [] E0 (tCons (tC (.int 0)) (tCons (tVar 5) (tCons (tVar 4) tNil)))) rfl scLaw.nd (pi_list (pv 1)) (blkOk_by (N := nLaw) (sc := defScope sLaw) (by decide +kernel)) (fun _ _ _ _ _ => pg_name (i := 5) scLaw.nd rfl (.inl rfl)) (fun _ _ _ _ _ => pts_nil)
            (fun _ _ _ _ _ => pe_gd DK hr rfl pass0 (pa_cons pe_int (pa_cons (pv 5) (pa_cons (pv 4) pa_nil))))) (pv 1) (nomark _)) (pss_one (ps_ret pe_bl)) pss_nil)
        (pss_one (ps_if (PW.pt (pw_or (pt_cmpR (op_neD hr.units) (pe_lc (own := [("_law_word", 5)]) (g := gName 5) (tt := tYes) (te := tCall spTaken [] E0 (tCons (tC (.int 1)) (tCons (tVar 5) (tCons (tVar 4) tNil)))) rfl scLaw.nd (pi_list (pv 2)) (blkOk_by (N := nLaw) (sc := defScope sLaw) (by decide +kernel)) (fun _ _ _ _ _ => pg_name (i := 5) scLaw.nd rfl (.inl rfl)) (fun _ _ _ _ _ => pts_nil)
            (fun _ _ _ _ _ => pe_gd DK hr rfl pass0 (pa_cons pe_int (pa_cons (pv 5) (pa_cons (pv 4) pa_nil))))) (pv 2) (nomark _))
          (pw_or1 (pt_cmpR op_ne (pe_gd DK hr rfl pass0 (pa_cons pe_int (pa_cons pe_str (pa_cons (pv 4) pa_nil)))) pe_str (nomark _))))) (pss_one (ps_ret pe_bl)) pss_nil)))))
      (pss_one (ps_ret (pe_cmpR (op_eqD hr.units) (pe_gd0 DN hr2 rfl pass0) (pe_op op_cat (pv 1) (pv 2)) (nomark _)))))), ?_⟩
    refine ⟨(by show 8 ≤ sizeLine; decide), fun r nr => ⟨(by show 6 ≤ sizeLine; decide), fun q nq => ?_⟩⟩
    have hr2 : (upd H r (.lst (rws.map V.str))) r = _ := upd_same
    generalize hH2 : upd (upd H r (.lst (rws.map V.str))) q (.lst (pls.map V.str)) = H2
    have hrr : H2 r = some (.lst (rws.map V.str)) := by
      rw [← hH2]
      exact Same.new nq _ _ upd_same
    have hqq : H2 q = some (.lst (pls.map V.str)) := by
      rw [← hH2]
      exact upd_same
    have s2 : Same H H2 := fun c o z => by
      rw [← hH2]
      exact Same.new nq _ _ (Same.new nr _ _ z)
    show tSeq _ _ _ [some (.ref a), some (.ref r), some (.ref q), none, none, none] (upd (upd H r (.lst (rws.map V.str))) q (.lst (pls.map V.str)))
    rw [hH2]
    refine ⟨_, rfl, a, _, rfl, .inl (s2.seq hS), 3, ((ns.map V.int).length : Nat), rfl, 1, _, rfl, ?_⟩
    have hm : ∃ m : Nat, m ≤ 3 ∧ (if (if (((ns.map V.int).length : Nat) : Int) < 3 then (((ns.map V.int).length : Nat) : Int) else 3) > 1 then (if (((ns.map V.int).length : Nat) : Int) < 3 then (((ns.map V.int).length : Nat) : Int) else 3) else 1) = (m : Int) := by
      generalize (ns.map V.int).length = t
      refine ⟨max 1 (min 3 t), by omega, ?_⟩
      split <;> split <;> omega
    obtain ⟨m, m3, em⟩ := hm
    refine ⟨(m : Int), congrArg (fun z => [V.int z]) em, by omega, by omega, for_range (lo := 0) (n := (m : Int).toNat) (fun i σ G' => ∃ v v4 : Option V, σ = [some (.ref a), some (.ref r), some (.ref q), v, v4, none] ∧ Same H2 G') ⟨none, none, rfl, Same.refl _⟩ ?_ ?_⟩
    · rintro i σ G' hi ⟨v, v4, rfl, sG⟩
      refine ⟨_, rfl, _, rfl, a, ns, _, rfl, (s2.trans sG).seq hS, by omega, by omega, fun p H3 np s3 pp => ⟨p, rfl, pp, fun z H4 lz pz b4 => ?_⟩⟩
      have s4 : Same H2 H4 := fun c o e => by
        have e1 := sG _ _ e
        exact b4 _ _ (s3 _ _ e1) (ne_of_none e1 np)
      refine skip (R := fun H' => Same H4 H') (fun B kB => q_no (xs := rws) (off := 0) rfl rfl (s4 _ _ hrr) rfl (by decide) rws_at sh_rws eq_rws kB) fun H5 s5 => ?_
      refine skip1 (R := fun H' => Same H5 H') (fun B kB => ?_) fun H6 s6 => ⟨_, _, rfl, ((s4.trans s5).trans s6)⟩
      refine q_no (xs := pls) (off := 8) rfl rfl (s5 _ _ (s4 _ _ hqq)) rfl (by decide) pls_at sh_pls eq_pls fun H6 s6 => ?_
      refine iteF ?_
      refine ⟨_, rfl, 2, "", z, 0, rfl, .inr (.inr ⟨rfl, rfl⟩), fun H7 s7 => ⟨rfl, _, rfl, ?_⟩⟩
      exact kB _ ((s6.trans s7))
    · rintro σ G' ⟨v, v4, rfl, sG⟩
      refine ⟨rfl, fun d H3 s3 hd => ?_⟩
      refine ⟨_, rfl, _, rfl, r, q, _, _, rfl, rfl, s3 _ _ (sG _ _ hrr), s3 _ _ (sG _ _ hqq), (by show 14 ≤ sizeLine; decide), fun t nt => ?_⟩
      refine ⟨.list ((words 14).map PyData.str), .list ((words 14).map PyData.str), .lst (SqL.of (Same.new nt _ _ hd)) (dp_strs _), .lst (SqL.of (upd_same (o := .lst ((words 14).map V.str)))) (dp_strs _), sh_all, sh_all, ?_⟩
      rw [eq_all]
      exact fin _

end
end K17


set_option Elab.async false
set_option linter.all false
set_option maxRecDepth 100000
namespace K17
open PySem PySem.Spec PyProof.Rows L2 Hu
/-! ### what the top has written -/
structure ClsF (K : PySem.W.Frag) (x : Str) (C G : Addr) : Prop where
  ns : PySem.W.nsIn K mainGlobals x = some (some (.ref C))
  exc : PySem.W.excIn K C [.type "ValueError", .type "Exception", .type "BaseException", .type "object"] "ValueError.__new__" = true
  kp : PySem.W.keepIn K (.ref C) = true
  ty : PySem.W.typeIn K (.ref C) = some (.type "type")
  cl : PySem.W.isClsIn K C = true
  hg : PySem.W.findIn K (.ref C) "__getattribute__" = some (some (.builtin "BaseException.__getattribute__"))
  hk : PySem.W.findIn K (.ref C) "__getattr__" = some none
  hs : PySem.W.subIn K (.ref C) (.type "BaseException") = some true
  hd : PySem.W.hasDictIn K C = true
  ha : PySem.W.findIn K (.ref C) "__class__" = some (some (.builtin "object.__class__"))
  hm : PySem.W.mroIn K C (.type "object") = some true
  ve : PySem.W.subIn K (.ref C) (.type "ValueError") = some true
  up : PySem.W.subIn K (.ref C) (.ref G) = some true
def rowAll (K : PySem.W.Frag) (c : Addr) : List (Addr × Bool) → Prop
  | [] => True
  | p :: r => PySem.W.subIn K (.ref c) (.ref p.1) = some p.2 ∧ rowAll K c r
theorem rowAll_at {K : PySem.W.Frag} {c : Addr} : ∀ {l : List (Addr × Bool)} {j : Nat} {p : Addr × Bool}, rowAll K c l → l[j]? = some p → PySem.W.subIn K (.ref c) (.ref p.1) = some p.2
  | [], _, _, _, e => by simp at e
  | q :: l, 0, p, h, e => by
    simp at e
    subst e
    exact h.1
  | q :: l, j + 1, p, h, e => rowAll_at (j := j) h.2 (by simpa using e)
theorem all14 {p : Nat → Prop} (h0 : p 0) (h1 : p 1) (h2 : p 2) (h3 : p 3) (h4 : p 4) (h5 : p 5) (h6 : p 6) (h7 : p 7) (h8 : p 8) (h9 : p 9) (h10 : p 10) (h11 : p 11) (h12 : p 12) (h13 : p 13) : ∀ j, j < 14 → p j
  | 0, _ => h0
  | 1, _ => h1
  | 2, _ => h2
  | 3, _ => h3
  | 4, _ => h4
  | 5, _ => h5
  | 6, _ => h6
  | 7, _ => h7
  | 8, _ => h8
  | 9, _ => h9
  | 10, _ => h10
  | 11, _ => h11
  | 12, _ => h12
  | 13, _ => h13
  | j + 14, h => absurd h (by omega)
theorem kit_sub {K : PySem.W.Frag} {t : Value} {D : Addr} {b : Bool} (cl : PySem.W.isClsIn K D = true) (ty : PySem.W.typeIn K (.ref D) = some (.type "type")) (sb : PySem.W.subIn K t (.ref D) = some b) :
    PySem.W.kitCls K t (.ref D) = some b := by
  have e2 : ((PySem.W.clsIn K D).isSome && PySem.W.typeIn K (.ref D) == some (.type "type")) = true := by
    have h2' : (PySem.W.clsIn K D).isSome = true := cl
    rw [h2', ty]
    rfl
  show (if ((PySem.W.clsIn K D).isSome && PySem.W.typeIn K (.ref D) == some (.type "type")) = true then PySem.W.subIn K t (.ref D) else none) = some b
  rw [if_pos e2]
  exact sb
theorem kit_one {K : PySem.W.Frag} {C D : Addr} {b : Bool} (cl : PySem.W.isClsIn K D = true) (ty : PySem.W.typeIn K (.ref D) = some (.type "type")) (sb : PySem.W.subIn K (.ref C) (.ref D) = some b)
    (self : PySem.W.subIn K (.ref C) (.ref C) = some true) : PySem.W.kitOne K (.ref C) (.ref D) = some b := by
  unfold PySem.W.kitOne
  split
  · rename_i h
    have e : Value.ref C = .ref D := by simpa using h
    rw [← e, self] at sb
    exact sb
  · exact kit_sub cl ty sb
theorem kit_ve {K : PySem.W.Frag} {C : Addr} (sb : PySem.W.subIn K (.ref C) (.type "ValueError") = some true) : PySem.W.kitOne K (.ref C) (.type "ValueError") = some true := by
  have e : PySem.W.kitMeta "ValueError" = true := by decide +kernel
  show (if PySem.W.kitMeta "ValueError" = true then PySem.W.subIn K (.ref C) (.type "ValueError") else none) = some true
  rw [if_pos e]
  exact sb
theorem ClsF.excT {K : PySem.W.Frag} {h : Heap} {mg : Str → Option Value} {x : Str} {C G : Addr} (X : K.In h) (Gm : h.Ns mainGlobals mg) (F : ClsF K x C G)
    (hn : PySem.W.specialIn K (.builtin "object.__class__") "__get__" = some (some (.builtin "getset_descriptor.__get__"))) (ht : PySem.W.takesIn K (.builtin "object.__class__") = some true)
    (gc : PySem.W.isClsIn K G = true) (gt : PySem.W.typeIn K (.ref G) = some (.type "type")) (self : PySem.W.subIn K (.ref C) (.ref C) = some true) : ExcT K mg x C G :=
  ⟨PySem.W.mg_of X Gm F.ns, F.exc, F.kp, F.ty, ⟨F.hg, F.hk, F.hs, F.hd, F.ha, hn, ht, F.hm⟩, kit_ve F.ve, kit_one gc gt F.up self⟩
theorem exm_up {K : PySem.W.Frag} {C G : Addr} (gb : PySem.W.subIn K (.ref G) (.type "BaseException") = some true) (gc : PySem.W.isClsIn K G = true) (gt : PySem.W.typeIn K (.ref G) = some (.type "type"))
    (up : PySem.W.subIn K (.ref C) (.ref G) = some true) : PySem.W.exmOne K (.ref C) (.ref G) = some true := by
  have e1 : (PySem.W.subIn K (.ref G) (.type "BaseException") == some true) = true := by rw [gb]; rfl
  show (if (PySem.W.subIn K (.ref G) (.type "BaseException") == some true) = true then PySem.W.kitCls K (.ref C) (.ref G) else none) = some true
  rw [if_pos e1]
  exact kit_sub gc gt up

theorem all_mk {l : PySem.W.OpenLaw} {w : World} {K : PySem.W.Frag} {h : Heap} {mg : Str → Option Value} {fa gE rR c0 c1 c2 c3 c4 c5 c6 c7 c8 c9 c10 c11 c12 c13 f0 f1 f2 f3 f4 f5 f6 f7 f8 f9 f10 : Addr} (X : K.In h) (Gm : h.Ns mainGlobals mg) (hfa : mg "law" = some (.ref fa))
    {od0 an0 od1 an1 od2 an2 od3 an3 od4 an4 od5 an5 od6 an6 od7 an7 od8 an8 od9 an9 od10 an10 : Option Addr} {sl0 sl1 sl2 sl3 sl4 sl5 sl6 sl7 sl8 sl9 sl10 : Array (Option Value)} {oc0 kV0 dc0 pm0 cd0 ct0 oc1 kV1 dc1 pm1 cd1 ct1 oc2 kV2 dc2 pm2 cd2 ct2 oc3 kV3 dc3 pm3 cd3 ct3 oc4 kV4 dc4 pm4 cd4 ct4 oc5 kV5 dc5 pm5 cd5 ct5 oc6 kV6 dc6 pm6 cd6 ct6 oc7 kV7 dc7 pm7 cd7 ct7 oc8 kV8 dc8 pm8 cd8 ct8 oc9 kV9 dc9 pm9 cd9 ct9 oc10 kV10 dc10 pm10 cd10 ct10 : Value}
    (gN : PySem.W.nsIn K mainGlobals "GiftError" = some (some (.ref gE)))
    (gC : PySem.W.isClsIn K gE = true)
    (gT : PySem.W.typeIn K (.ref gE) = some (.type "type"))
    (gB : PySem.W.subIn K (.ref gE) (.type "BaseException") = some true)
    (rN : PySem.W.nsIn K mainGlobals "Row" = some (some (.ref rR)))
    (rC : PySem.W.isClsIn K rR = true)
    (rT : PySem.W.typeIn K (.ref rR) = some (.type "type"))
    (rS : PySem.W.subIn K (.type "str") (.ref rR) = some false)
    (oN : PySem.W.specialIn K (.builtin "object.__class__") "__get__" = some (some (.builtin "getset_descriptor.__get__")))
    (oT : PySem.W.takesIn K (.builtin "object.__class__") = some true)
    (q0 : ClsF K "NoRow" c0 gE)
    (q1 : ClsF K "Held" c1 gE)
    (q2 : ClsF K "Closed" c2 gE)
    (q3 : ClsF K "NoNumbers" c3 gE)
    (q4 : ClsF K "NoNumber" c4 gE)
    (q5 : ClsF K "NoCount" c5 gE)
    (q6 : ClsF K "NoGroup" c6 gE)
    (q7 : ClsF K "NoCopy" c7 gE)
    (q8 : ClsF K "NoText" c8 gE)
    (q9 : ClsF K "NoPlan" c9 gE)
    (q10 : ClsF K "NoStep" c10 gE)
    (q11 : ClsF K "NoSay" c11 gE)
    (q12 : ClsF K "NoName" c12 gE)
    (q13 : ClsF K "NoKind" c13 gE)
    (r0 : rowAll K c0 [(c0, true), (c1, false), (c2, false), (c3, false), (c4, false), (c5, false), (c6, false), (c7, false), (c8, false), (c9, false), (c10, false), (c11, false), (c12, false), (c13, false)])
    (r1 : rowAll K c1 [(c0, false), (c1, true), (c2, false), (c3, false), (c4, false), (c5, false), (c6, false), (c7, false), (c8, false), (c9, false), (c10, false), (c11, false), (c12, false), (c13, false)])
    (r2 : rowAll K c2 [(c0, false), (c1, false), (c2, true), (c3, false), (c4, false), (c5, false), (c6, false), (c7, false), (c8, false), (c9, false), (c10, false), (c11, false), (c12, false), (c13, false)])
    (r3 : rowAll K c3 [(c0, false), (c1, false), (c2, false), (c3, true), (c4, false), (c5, false), (c6, false), (c7, false), (c8, false), (c9, false), (c10, false), (c11, false), (c12, false), (c13, false)])
    (r4 : rowAll K c4 [(c0, false), (c1, false), (c2, false), (c3, false), (c4, true), (c5, false), (c6, false), (c7, false), (c8, false), (c9, false), (c10, false), (c11, false), (c12, false), (c13, false)])
    (r5 : rowAll K c5 [(c0, false), (c1, false), (c2, false), (c3, false), (c4, false), (c5, true), (c6, false), (c7, false), (c8, false), (c9, false), (c10, false), (c11, false), (c12, false), (c13, false)])
    (r6 : rowAll K c6 [(c0, false), (c1, false), (c2, false), (c3, false), (c4, false), (c5, false), (c6, true), (c7, false), (c8, false), (c9, false), (c10, false), (c11, false), (c12, false), (c13, false)])
    (r7 : rowAll K c7 [(c0, false), (c1, false), (c2, false), (c3, false), (c4, false), (c5, false), (c6, false), (c7, true), (c8, false), (c9, false), (c10, false), (c11, false), (c12, false), (c13, false)])
    (r8 : rowAll K c8 [(c0, false), (c1, false), (c2, false), (c3, false), (c4, false), (c5, false), (c6, false), (c7, false), (c8, true), (c9, false), (c10, false), (c11, false), (c12, false), (c13, false)])
    (r9 : rowAll K c9 [(c0, false), (c1, false), (c2, false), (c3, false), (c4, false), (c5, false), (c6, false), (c7, false), (c8, false), (c9, true), (c10, false), (c11, false), (c12, false), (c13, false)])
    (r10 : rowAll K c10 [(c0, false), (c1, false), (c2, false), (c3, false), (c4, false), (c5, false), (c6, false), (c7, false), (c8, false), (c9, false), (c10, true), (c11, false), (c12, false), (c13, false)])
    (r11 : rowAll K c11 [(c0, false), (c1, false), (c2, false), (c3, false), (c4, false), (c5, false), (c6, false), (c7, false), (c8, false), (c9, false), (c10, false), (c11, true), (c12, false), (c13, false)])
    (r12 : rowAll K c12 [(c0, false), (c1, false), (c2, false), (c3, false), (c4, false), (c5, false), (c6, false), (c7, false), (c8, false), (c9, false), (c10, false), (c11, false), (c12, true), (c13, false)])
    (r13 : rowAll K c13 [(c0, false), (c1, false), (c2, false), (c3, false), (c4, false), (c5, false), (c6, false), (c7, false), (c8, false), (c9, false), (c10, false), (c11, false), (c12, false), (c13, true)])
    (b_len : PySem.W.nsIn K mainGlobals "len" = some none)
    (b_divmod : PySem.W.nsIn K mainGlobals "divmod" = some none)
    (b_range : PySem.W.nsIn K mainGlobals "range" = some none)
    (b_isinstance : PySem.W.nsIn K mainGlobals "isinstance" = some none)
    (b_max : PySem.W.nsIn K mainGlobals "max" = some none)
    (b_min : PySem.W.nsIn K mainGlobals "min" = some none)
    (b_list : PySem.W.nsIn K mainGlobals "list" = some none)
    (b_all : PySem.W.nsIn K mainGlobals "all" = some none)
    (b_any : PySem.W.nsIn K mainGlobals "any" = some none)
    (b_ValueError : PySem.W.nsIn K mainGlobals "ValueError" = some none)
    (a0 : PySem.W.nsIn K mainGlobals "_law_pot" = some (some (.ref f0)))
    (l0 : K.lookup f0 = some ⟨oc0, od0, .func (PySem.W.fnOf "_law_pot" "_law_pot" (defArgs sPot) (defBody sPot) (defScope sPot) .none kV0 dc0 pm0 an0 cd0 ct0), sl0⟩)
    (d0 : PySem.W.codeIn K cd0 "_law_pot" = true)
    (k0 : PySem.W.keepIn K (.ref f0) = true)
    (a1 : PySem.W.nsIn K mainGlobals "_law_digit" = some (some (.ref f1)))
    (l1 : K.lookup f1 = some ⟨oc1, od1, .func (PySem.W.fnOf "_law_digit" "_law_digit" (defArgs sDigit) (defBody sDigit) (defScope sDigit) .none kV1 dc1 pm1 an1 cd1 ct1), sl1⟩)
    (d1 : PySem.W.codeIn K cd1 "_law_digit" = true)
    (k1 : PySem.W.keepIn K (.ref f1) = true)
    (a2 : PySem.W.nsIn K mainGlobals "_law_word_of" = some (some (.ref f2)))
    (l2 : K.lookup f2 = some ⟨oc2, od2, .func (PySem.W.fnOf "_law_word_of" "_law_word_of" (defArgs sWord) (defBody sWord) (defScope sWord) .none kV2 dc2 pm2 an2 cd2 ct2), sl2⟩)
    (d2 : PySem.W.codeIn K cd2 "_law_word_of" = true)
    (k2 : PySem.W.keepIn K (.ref f2) = true)
    (a3 : PySem.W.nsIn K mainGlobals "_law_text" = some (some (.ref f3)))
    (l3 : K.lookup f3 = some ⟨oc3, od3, .func (PySem.W.fnOf "_law_text" "_law_text" (defArgs sText) (defBody sText) (defScope sText) .none kV3 dc3 pm3 an3 cd3 ct3), sl3⟩)
    (d3 : PySem.W.codeIn K cd3 "_law_text" = true)
    (k3 : PySem.W.keepIn K (.ref f3) = true)
    (a4 : PySem.W.nsIn K mainGlobals "_law_rows" = some (some (.ref f4)))
    (l4 : K.lookup f4 = some ⟨oc4, od4, .func (PySem.W.fnOf "_law_rows" "_law_rows" (defArgs sRows) (defBody sRows) (defScope sRows) .none kV4 dc4 pm4 an4 cd4 ct4), sl4⟩)
    (d4 : PySem.W.codeIn K cd4 "_law_rows" = true)
    (k4 : PySem.W.keepIn K (.ref f4) = true)
    (a5 : PySem.W.nsIn K mainGlobals "_law_plans" = some (some (.ref f5)))
    (l5 : K.lookup f5 = some ⟨oc5, od5, .func (PySem.W.fnOf "_law_plans" "_law_plans" (defArgs sPlans) (defBody sPlans) (defScope sPlans) .none kV5 dc5 pm5 an5 cd5 ct5), sl5⟩)
    (d5 : PySem.W.codeIn K cd5 "_law_plans" = true)
    (k5 : PySem.W.keepIn K (.ref f5) = true)
    (a6 : PySem.W.nsIn K mainGlobals "_law_taken" = some (some (.ref f6)))
    (l6 : K.lookup f6 = some ⟨oc6, od6, .func (PySem.W.fnOf "_law_taken" "_law_taken" (defArgs sTaken) (defBody sTaken) (defScope sTaken) .none kV6 dc6 pm6 an6 cd6 ct6), sl6⟩)
    (d6 : PySem.W.codeIn K cd6 "_law_taken" = true)
    (k6 : PySem.W.keepIn K (.ref f6) = true)
    (a7 : PySem.W.nsIn K mainGlobals "_law_of_nothing" = some (some (.ref f7)))
    (l7 : K.lookup f7 = some ⟨oc7, od7, .func (PySem.W.fnOf "_law_of_nothing" "_law_of_nothing" (defArgs sNothing) (defBody sNothing) (defScope sNothing) .none kV7 dc7 pm7 an7 cd7 ct7), sl7⟩)
    (d7 : PySem.W.codeIn K cd7 "_law_of_nothing" = true)
    (k7 : PySem.W.keepIn K (.ref f7) = true)
    (a8 : PySem.W.nsIn K mainGlobals "want_free" = some (some (.ref f8)))
    (l8 : K.lookup f8 = some ⟨oc8, od8, .func (PySem.W.fnOf "want_free" "want_free" (defArgs sFree) (defBody sFree) (defScope sFree) .none kV8 dc8 pm8 an8 cd8 ct8), sl8⟩)
    (d8 : PySem.W.codeIn K cd8 "want_free" = true)
    (k8 : PySem.W.keepIn K (.ref f8) = true)
    (a9 : PySem.W.nsIn K mainGlobals "want_rows" = some (some (.ref f9)))
    (l9 : K.lookup f9 = some ⟨oc9, od9, .func (PySem.W.fnOf "want_rows" "want_rows" (defArgs sWant) (defBody sWant) (defScope sWant) .none kV9 dc9 pm9 an9 cd9 ct9), sl9⟩)
    (d9 : PySem.W.codeIn K cd9 "want_rows" = true)
    (k9 : PySem.W.keepIn K (.ref f9) = true)
    (a10 : PySem.W.nsIn K mainGlobals "law" = some (some (.ref f10)))
    (l10 : K.lookup f10 = some ⟨oc10, od10, .func (PySem.W.fnOf "law" "law" (defArgs sLaw) (defBody sLaw) (defScope sLaw) .none kV10 dc10 pm10 an10 cd10 ct10), sl10⟩)
    (d10 : PySem.W.codeIn K cd10 "law" = true)
    (k10 : PySem.W.keepIn K (.ref f10) = true)
    : ∃ fd : FuncData, (∀ (s : Shared) (v : Value), BindsTo s fd ⟨[v], []⟩ [("_law_script", v)]) ∧ ∀ base : Heap, K.In base → base.Ns mainGlobals mg → FnOk l.prog w K mg base CX0 4 fa fd ["_law_script"] (spLaw K) := by
  have e := hfa.symm.trans (PySem.W.mg_of X Gm a10)
  cases e
  have B : Blt mg := ⟨PySem.W.mg_none_of X Gm b_len, PySem.W.mg_none_of X Gm b_divmod, PySem.W.mg_none_of X Gm b_range, PySem.W.mg_none_of X Gm b_isinstance, PySem.W.mg_none_of X Gm b_max, PySem.W.mg_none_of X Gm b_min, PySem.W.mg_none_of X Gm b_list, PySem.W.mg_none_of X Gm b_all, PySem.W.mg_none_of X Gm b_any, PySem.W.mg_none_of X Gm b_ValueError⟩
  let C : Nat → Addr := fun j => [c0, c1, c2, c3, c4, c5, c6, c7, c8, c9, c10, c11, c12, c13].getD j 0
  have S : ∀ i, i < 14 → ∀ j, j < 14 → PySem.W.subIn K (.ref (C i)) (.ref (C j)) = some (decide (i = j)) :=
    all14 (all14 (rowAll_at (j := 0) r0 rfl) (rowAll_at (j := 1) r0 rfl) (rowAll_at (j := 2) r0 rfl) (rowAll_at (j := 3) r0 rfl) (rowAll_at (j := 4) r0 rfl) (rowAll_at (j := 5) r0 rfl) (rowAll_at (j := 6) r0 rfl) (rowAll_at (j := 7) r0 rfl) (rowAll_at (j := 8) r0 rfl) (rowAll_at (j := 9) r0 rfl) (rowAll_at (j := 10) r0 rfl) (rowAll_at (j := 11) r0 rfl) (rowAll_at (j := 12) r0 rfl) (rowAll_at (j := 13) r0 rfl)) (all14 (rowAll_at (j := 0) r1 rfl) (rowAll_at (j := 1) r1 rfl) (rowAll_at (j := 2) r1 rfl) (rowAll_at (j := 3) r1 rfl) (rowAll_at (j := 4) r1 rfl) (rowAll_at (j := 5) r1 rfl) (rowAll_at (j := 6) r1 rfl) (rowAll_at (j := 7) r1 rfl) (rowAll_at (j := 8) r1 rfl) (rowAll_at (j := 9) r1 rfl) (rowAll_at (j := 10) r1 rfl) (rowAll_at (j := 11) r1 rfl) (rowAll_at (j := 12) r1 rfl) (rowAll_at (j := 13) r1 rfl)) (all14 (rowAll_at (j := 0) r2 rfl) (rowAll_at (j := 1) r2 rfl) (rowAll_at (j := 2) r2 rfl) (rowAll_at (j := 3) r2 rfl) (rowAll_at (j := 4) r2 rfl) (rowAll_at (j := 5) r2 rfl) (rowAll_at (j := 6) r2 rfl) (rowAll_at (j := 7) r2 rfl) (rowAll_at (j := 8) r2 rfl) (rowAll_at (j := 9) r2 rfl) (rowAll_at (j := 10) r2 rfl) (rowAll_at (j := 11) r2 rfl) (rowAll_at (j := 12) r2 rfl) (rowAll_at (j := 13) r2 rfl)) (all14 (rowAll_at (j := 0) r3 rfl) (rowAll_at (j := 1) r3 rfl) (rowAll_at (j := 2) r3 rfl) (rowAll_at (j := 3) r3 rfl) (rowAll_at (j := 4) r3 rfl) (rowAll_at (j := 5) r3 rfl) (rowAll_at (j := 6) r3 rfl) (rowAll_at (j := 7) r3 rfl) (rowAll_at (j := 8) r3 rfl) (rowAll_at (j := 9) r3 rfl) (rowAll_at (j := 10) r3 rfl) (rowAll_at (j := 11) r3 rfl) (rowAll_at (j := 12) r3 rfl) (rowAll_at (j := 13) r3 rfl)) (all14 (rowAll_at (j := 0) r4 rfl) (rowAll_at (j := 1) r4 rfl) (rowAll_at (j := 2) r4 rfl) (rowAll_at (j := 3) r4 rfl) (rowAll_at (j := 4) r4 rfl) (rowAll_at (j := 5) r4 rfl) (rowAll_at (j := 6) r4 rfl) (rowAll_at (j := 7) r4 rfl) (rowAll_at (j := 8) r4 rfl) (rowAll_at (j := 9) r4 rfl) (rowAll_at (j := 10) r4 rfl) (rowAll_at (j := 11) r4 rfl) (rowAll_at (j := 12) r4 rfl) (rowAll_at (j := 13) r4 rfl)) (all14 (rowAll_at (j := 0) r5 rfl) (rowAll_at (j := 1) r5 rfl) (rowAll_at (j := 2) r5 rfl) (rowAll_at (j := 3) r5 rfl) (rowAll_at (j := 4) r5 rfl) (rowAll_at (j := 5) r5 rfl) (rowAll_at (j := 6) r5 rfl) (rowAll_at (j := 7) r5 rfl) (rowAll_at (j := 8) r5 rfl) (rowAll_at (j := 9) r5 rfl) (rowAll_at (j := 10) r5 rfl) (rowAll_at (j := 11) r5 rfl) (rowAll_at (j := 12) r5 rfl) (rowAll_at (j := 13) r5 rfl)) (all14 (rowAll_at (j := 0) r6 rfl) (rowAll_at (j := 1) r6 rfl) (rowAll_at (j := 2) r6 rfl) (rowAll_at (j := 3) r6 rfl) (rowAll_at (j := 4) r6 rfl) (rowAll_at (j := 5) r6 rfl) (rowAll_at (j := 6) r6 rfl) (rowAll_at (j := 7) r6 rfl) (rowAll_at (j := 8) r6 rfl) (rowAll_at (j := 9) r6 rfl) (rowAll_at (j := 10) r6 rfl) (rowAll_at (j := 11) r6 rfl) (rowAll_at (j := 12) r6 rfl) (rowAll_at (j := 13) r6 rfl)) (all14 (rowAll_at (j := 0) r7 rfl) (rowAll_at (j := 1) r7 rfl) (rowAll_at (j := 2) r7 rfl) (rowAll_at (j := 3) r7 rfl) (rowAll_at (j := 4) r7 rfl) (rowAll_at (j := 5) r7 rfl) (rowAll_at (j := 6) r7 rfl) (rowAll_at (j := 7) r7 rfl) (rowAll_at (j := 8) r7 rfl) (rowAll_at (j := 9) r7 rfl) (rowAll_at (j := 10) r7 rfl) (rowAll_at (j := 11) r7 rfl) (rowAll_at (j := 12) r7 rfl) (rowAll_at (j := 13) r7 rfl)) (all14 (rowAll_at (j := 0) r8 rfl) (rowAll_at (j := 1) r8 rfl) (rowAll_at (j := 2) r8 rfl) (rowAll_at (j := 3) r8 rfl) (rowAll_at (j := 4) r8 rfl) (rowAll_at (j := 5) r8 rfl) (rowAll_at (j := 6) r8 rfl) (rowAll_at (j := 7) r8 rfl) (rowAll_at (j := 8) r8 rfl) (rowAll_at (j := 9) r8 rfl) (rowAll_at (j := 10) r8 rfl) (rowAll_at (j := 11) r8 rfl) (rowAll_at (j := 12) r8 rfl) (rowAll_at (j := 13) r8 rfl)) (all14 (rowAll_at (j := 0) r9 rfl) (rowAll_at (j := 1) r9 rfl) (rowAll_at (j := 2) r9 rfl) (rowAll_at (j := 3) r9 rfl) (rowAll_at (j := 4) r9 rfl) (rowAll_at (j := 5) r9 rfl) (rowAll_at (j := 6) r9 rfl) (rowAll_at (j := 7) r9 rfl) (rowAll_at (j := 8) r9 rfl) (rowAll_at (j := 9) r9 rfl) (rowAll_at (j := 10) r9 rfl) (rowAll_at (j := 11) r9 rfl) (rowAll_at (j := 12) r9 rfl) (rowAll_at (j := 13) r9 rfl)) (all14 (rowAll_at (j := 0) r10 rfl) (rowAll_at (j := 1) r10 rfl) (rowAll_at (j := 2) r10 rfl) (rowAll_at (j := 3) r10 rfl) (rowAll_at (j := 4) r10 rfl) (rowAll_at (j := 5) r10 rfl) (rowAll_at (j := 6) r10 rfl) (rowAll_at (j := 7) r10 rfl) (rowAll_at (j := 8) r10 rfl) (rowAll_at (j := 9) r10 rfl) (rowAll_at (j := 10) r10 rfl) (rowAll_at (j := 11) r10 rfl) (rowAll_at (j := 12) r10 rfl) (rowAll_at (j := 13) r10 rfl)) (all14 (rowAll_at (j := 0) r11 rfl) (rowAll_at (j := 1) r11 rfl) (rowAll_at (j := 2) r11 rfl) (rowAll_at (j := 3) r11 rfl) (rowAll_at (j := 4) r11 rfl) (rowAll_at (j := 5) r11 rfl) (rowAll_at (j := 6) r11 rfl) (rowAll_at (j := 7) r11 rfl) (rowAll_at (j := 8) r11 rfl) (rowAll_at (j := 9) r11 rfl) (rowAll_at (j := 10) r11 rfl) (rowAll_at (j := 11) r11 rfl) (rowAll_at (j := 12) r11 rfl) (rowAll_at (j := 13) r11 rfl)) (all14 (rowAll_at (j := 0) r12 rfl) (rowAll_at (j := 1) r12 rfl) (rowAll_at (j := 2) r12 rfl) (rowAll_at (j := 3) r12 rfl) (rowAll_at (j := 4) r12 rfl) (rowAll_at (j := 5) r12 rfl) (rowAll_at (j := 6) r12 rfl) (rowAll_at (j := 7) r12 rfl) (rowAll_at (j := 8) r12 rfl) (rowAll_at (j := 9) r12 rfl) (rowAll_at (j := 10) r12 rfl) (rowAll_at (j := 11) r12 rfl) (rowAll_at (j := 12) r12 rfl) (rowAll_at (j := 13) r12 rfl)) (all14 (rowAll_at (j := 0) r13 rfl) (rowAll_at (j := 1) r13 rfl) (rowAll_at (j := 2) r13 rfl) (rowAll_at (j := 3) r13 rfl) (rowAll_at (j := 4) r13 rfl) (rowAll_at (j := 5) r13 rfl) (rowAll_at (j := 6) r13 rfl) (rowAll_at (j := 7) r13 rfl) (rowAll_at (j := 8) r13 rfl) (rowAll_at (j := 9) r13 rfl) (rowAll_at (j := 10) r13 rfl) (rowAll_at (j := 11) r13 rfl) (rowAll_at (j := 12) r13 rfl) (rowAll_at (j := 13) r13 rfl))
  have Q : ∀ j, j < 14 → ClsF K (nm j) (C j) gE := all14 q0 q1 q2 q3 q4 q5 q6 q7 q8 q9 q10 q11 q12 q13
  have K14 : Cls14 K mg C gE rR := ⟨fun j hj => (Q j hj).excT X Gm oN oT gC gT (by have z := S j hj j hj; simpa using z), fun i j hi hj => kit_one (Q j hj).cl (Q j hj).ty (S i hi j hj) (by have z := S i hi i hi; simpa using z),
    PySem.W.mg_of X Gm gN, fun j hj => exm_up gB gC gT (Q j hj).up, PySem.W.mg_of X Gm rN, kit_sub rC rT rS⟩

  have F0 := fun_mk (st := sPot) l0 d0 k0
  have B0 := F0.binds (ps := (["_law_script", "_law_k"] : List Str)) fun _ _ _ _ _ _ us hl => match us, hl with | [_, _], _ => rfl
  have F1 := fun_mk (st := sDigit) l1 d1 k1
  have B1 := F1.binds (ps := (["_law_pot_here", "_law_many"] : List Str)) fun _ _ _ _ _ _ us hl => match us, hl with | [_, _], _ => rfl
  have F2 := fun_mk (st := sWord) l2 d2 k2
  have B2 := F2.binds (ps := (["_law_e"] : List Str)) fun _ _ _ _ _ _ us hl => match us, hl with | [_], _ => rfl
  have F3 := fun_mk (st := sText) l3 d3 k3
  have B3 := F3.binds (ps := (["_law_pot_here"] : List Str)) fun _ _ _ _ _ _ us hl => match us, hl with | [_], _ => rfl
  have F4 := fun_mk (st := sRows) l4 d4 k4
  have B4 := F4.binds (ps := (["_law_word", "_law_text_here"] : List Str)) fun _ _ _ _ _ _ us hl => match us, hl with | [_, _], _ => rfl
  have F5 := fun_mk (st := sPlans) l5 d5 k5
  have B5 := F5.binds (ps := (["_law_word", "_law_text_here"] : List Str)) fun _ _ _ _ _ _ us hl => match us, hl with | [_, _], _ => rfl
  have F6 := fun_mk (st := sTaken) l6 d6 k6
  have B6 := F6.binds (ps := (["_law_way", "_law_word", "_law_text_here"] : List Str)) fun _ _ _ _ _ _ us hl => match us, hl with | [_, _, _], _ => rfl
  have F7 := fun_mk (st := sNothing) l7 d7 k7
  have B7 := F7.binds (ps := ([] : List Str)) fun _ _ _ _ _ _ us hl => match us, hl with | [], _ => rfl
  have F8 := fun_mk (st := sFree) l8 d8 k8
  have B8 := F8.binds (ps := (["rows"] : List Str)) fun _ _ _ _ _ _ us hl => match us, hl with | [_], _ => rfl
  have F9 := fun_mk (st := sWant) l9 d9 k9
  have B9 := F9.binds (ps := (["rows"] : List Str)) fun _ _ _ _ _ _ us hl => match us, hl with | [_], _ => rfl
  have F10 := fun_mk (st := sLaw) l10 d10 k10
  refine ⟨PySem.W.fnOf "law" "law" (defArgs sLaw) (defBody sLaw) (defScope sLaw) .none kV10 dc10 pm10 an10 cd10 ct10, fun s v => .of_eq rfl, fun base _ _ => ?_⟩
  have G0 : GD l.prog w K mg base CX0 "_law_pot" ["_law_script", "_law_k"] 1 (spPot K) := ⟨f0, _, ok_pot F0 B, PySem.W.mg_of X Gm a0, k0, B0⟩
  have G1 : GD l.prog w K mg base CX0 "_law_digit" ["_law_pot_here", "_law_many"] 1 spDigit := ⟨f1, _, ok_digit F1 B, PySem.W.mg_of X Gm a1, k1, B1⟩
  have G2 : GD l.prog w K mg base CX0 "_law_word_of" ["_law_e"] 1 (spWord C) := ⟨f2, _, ok_word F2 B K14, PySem.W.mg_of X Gm a2, k2, B2⟩
  have U2 : WU l.prog w K mg base C := ⟨f2, _, fun j hj => ok_wordU F2 B K14 j hj, PySem.W.mg_of X Gm a2, k2, B2⟩
  have G3 : GD l.prog w K mg base CX0 "_law_text" ["_law_pot_here"] 2 spText := ⟨f3, _, ok_text F3 B G1, PySem.W.mg_of X Gm a3, k3, B3⟩
  have G4 : GD l.prog w K mg base (L2N.CX l.prog w) "_law_rows" ["_law_word", "_law_text_here"] 1 (spRows C) := ⟨f4, _, ok_rows F4 K14, PySem.W.mg_of X Gm a4, k4, B4⟩
  have G5 : GD l.prog w K mg base (L2N.CX l.prog w) "_law_plans" ["_law_word", "_law_text_here"] 1 (spPlans C) := ⟨f5, _, ok_plans F5 K14, PySem.W.mg_of X Gm a5, k5, B5⟩
  have G9 : GD l.prog w K mg base (L2N.CX l.prog w) "want_rows" ["rows"] 1 (spWant C) := ⟨f9, _, ok_want F9 B K14, PySem.W.mg_of X Gm a9, k9, B9⟩
  have G8 : GD l.prog w K mg base (L2N.CX l.prog w) "want_free" ["rows"] 2 (spFree1 C) := ⟨f8, _, ok_free F8 G9, PySem.W.mg_of X Gm a8, k8, B8⟩
  have G6 : GD l.prog w K mg base CX0 "_law_taken" ["_law_way", "_law_word", "_law_text_here"] 3 spTaken := ⟨f6, _, ok_taken F6 K14 G4 G5 G8 U2, PySem.W.mg_of X Gm a6, k6, B6⟩
  have G7 : GD l.prog w K mg base CX0 "_law_of_nothing" [] 2 spNothing := ⟨f7, _, ok_nothing F7 B K14 G2, PySem.W.mg_of X Gm a7, k7, B7⟩
  exact ok_law F10 B G0 G3 G6 G7
theorem walk {l : PySem.W.OpenLaw} {q : Program} {loose : List Str} {XP : (Str → Option Value) → Heap → Prop} {YP : World → Heap → Prop} {d : DefRec} {K : Params → PySem.W.Frag} (hn : l.most = some 63) (hdf : d.params.defaults = [])
    (hY : ∀ (w : World) (h : Heap), YP w h → (K w.params).In h)
    (F : ∀ (w : World) (mg : Str → Option Value) (fa : Addr) (h : Heap), (K w.params).In h → h.Ns mainGlobals mg → mg d.name = some (.ref fa) →
      ∃ fd : FuncData, (∀ (s : Shared) (u : Value), BindsTo s fd ⟨[u], []⟩ [("_law_script", u)]) ∧ ∀ base : Heap, (K w.params).In base → base.Ns mainGlobals mg → FnOk l.prog w (K w.params) mg base CX0 4 fa fd ["_law_script"] (spLaw (K w.params))) :
    PySem.W.WalkO q loose XP YP l.row.toRowW d [] (fun f vs => PySem.call f vs) :=
  L2.walk_of (n := 63) (k := 4) (x := "_law_script") (CX := fun _ => CX0) (sp := fun w => spLaw (K w.params)) hn (by decide) hdf ⟨rfl, by decide, by decide⟩ hY F (fun _ _ a ns hl _ hS => ⟨a, ns, rfl, hS, hl, fun _ => rfl⟩) fun _ _ _ _ _ z => z
end K17


set_option Elab.async false
set_option linter.all false
open PySem PySem.W PyProof.Rows
set_option maxRecDepth 100000 in
set_option maxHeartbeats 0 in
theorem PySem.Challenge.cw_giftstreams_k17_refusals_made_holds : PySem.Challenge.rw_giftstreams_k17_refusals_made.Holds := by
  w_on; o_law; k_head; (case hw => w_witness2)
  k_fill
  refine K17.walk (l := PySem.Challenge.rw_giftstreams_k17_refusals_made) rfl rfl (fun w h Y => PySem.W.kIn_of Y) ?F
  case F =>
    intro w mg fa h KX G hmg
    refine' K17.all_mk KX G hmg ?gN ?gC ?gT ?gB ?rN ?rC ?rT ?rS ?oN ?oT ?q0 ?q1 ?q2 ?q3 ?q4 ?q5 ?q6 ?q7 ?q8 ?q9 ?q10 ?q11 ?q12 ?q13 ?r0 ?r1 ?r2 ?r3 ?r4 ?r5 ?r6 ?r7 ?r8 ?r9 ?r10 ?r11 ?r12 ?r13 ?b_len ?b_divmod ?b_range ?b_isinstance ?b_max ?b_min ?b_list ?b_all ?b_any ?b_ValueError ?a0 ?l0 ?d0 ?k0 ?a1 ?l1 ?d1 ?k1 ?a2 ?l2 ?d2 ?k2 ?a3 ?l3 ?d3 ?k3 ?a4 ?l4 ?d4 ?k4 ?a5 ?l5 ?d5 ?k5 ?a6 ?l6 ?d6 ?k6 ?a7 ?l7 ?d7 ?k7 ?a8 ?l8 ?d8 ?k8 ?a9 ?l9 ?d9 ?k9 ?a10 ?l10 ?d10 ?k10
    (case gN => k_is)
    (case gC => k_is)
    (case gT => k_is)
    (case gB => k_is)
    (case rN => k_is)
    (case rC => k_is)
    (case rT => k_is)
    (case rS => k_is)
    (case oN => k_is)
    (case oT => k_is)
    (case q0 => exact ⟨by k_is, by k_exc, by k_is, by k_is, by k_is, by k_is, by k_is, by k_is, by k_is, by k_is, by k_is, by k_is, by k_is⟩)
    (case q1 => exact ⟨by k_is, by k_exc, by k_is, by k_is, by k_is, by k_is, by k_is, by k_is, by k_is, by k_is, by k_is, by k_is, by k_is⟩)
    (case q2 => exact ⟨by k_is, by k_exc, by k_is, by k_is, by k_is, by k_is, by k_is, by k_is, by k_is, by k_is, by k_is, by k_is, by k_is⟩)
    (case q3 => exact ⟨by k_is, by k_exc, by k_is, by k_is, by k_is, by k_is, by k_is, by k_is, by k_is, by k_is, by k_is, by k_is, by k_is⟩)
    (case q4 => exact ⟨by k_is, by k_exc, by k_is, by k_is, by k_is, by k_is, by k_is, by k_is, by k_is, by k_is, by k_is, by k_is, by k_is⟩)
    (case q5 => exact ⟨by k_is, by k_exc, by k_is, by k_is, by k_is, by k_is, by k_is, by k_is, by k_is, by k_is, by k_is, by k_is, by k_is⟩)
    (case q6 => exact ⟨by k_is, by k_exc, by k_is, by k_is, by k_is, by k_is, by k_is, by k_is, by k_is, by k_is, by k_is, by k_is, by k_is⟩)
    (case q7 => exact ⟨by k_is, by k_exc, by k_is, by k_is, by k_is, by k_is, by k_is, by k_is, by k_is, by k_is, by k_is, by k_is, by k_is⟩)
    (case q8 => exact ⟨by k_is, by k_exc, by k_is, by k_is, by k_is, by k_is, by k_is, by k_is, by k_is, by k_is, by k_is, by k_is, by k_is⟩)
    (case q9 => exact ⟨by k_is, by k_exc, by k_is, by k_is, by k_is, by k_is, by k_is, by k_is, by k_is, by k_is, by k_is, by k_is, by k_is⟩)
    (case q10 => exact ⟨by k_is, by k_exc, by k_is, by k_is, by k_is, by k_is, by k_is, by k_is, by k_is, by k_is, by k_is, by k_is, by k_is⟩)
    (case q11 => exact ⟨by k_is, by k_exc, by k_is, by k_is, by k_is, by k_is, by k_is, by k_is, by k_is, by k_is, by k_is, by k_is, by k_is⟩)
    (case q12 => exact ⟨by k_is, by k_exc, by k_is, by k_is, by k_is, by k_is, by k_is, by k_is, by k_is, by k_is, by k_is, by k_is, by k_is⟩)
    (case q13 => exact ⟨by k_is, by k_exc, by k_is, by k_is, by k_is, by k_is, by k_is, by k_is, by k_is, by k_is, by k_is, by k_is, by k_is⟩)
    (case r0 => exact ⟨by k_is, by k_is, by k_is, by k_is, by k_is, by k_is, by k_is, by k_is, by k_is, by k_is, by k_is, by k_is, by k_is, by k_is, trivial⟩)
    (case r1 => exact ⟨by k_is, by k_is, by k_is, by k_is, by k_is, by k_is, by k_is, by k_is, by k_is, by k_is, by k_is, by k_is, by k_is, by k_is, trivial⟩)
    (case r2 => exact ⟨by k_is, by k_is, by k_is, by k_is, by k_is, by k_is, by k_is, by k_is, by k_is, by k_is, by k_is, by k_is, by k_is, by k_is, trivial⟩)
    (case r3 => exact ⟨by k_is, by k_is, by k_is, by k_is, by k_is, by k_is, by k_is, by k_is, by k_is, by k_is, by k_is, by k_is, by k_is, by k_is, trivial⟩)
    (case r4 => exact ⟨by k_is, by k_is, by k_is, by k_is, by k_is, by k_is, by k_is, by k_is, by k_is, by k_is, by k_is, by k_is, by k_is, by k_is, trivial⟩)
    (case r5 => exact ⟨by k_is, by k_is, by k_is, by k_is, by k_is, by k_is, by k_is, by k_is, by k_is, by k_is, by k_is, by k_is, by k_is, by k_is, trivial⟩)
    (case r6 => exact ⟨by k_is, by k_is, by k_is, by k_is, by k_is, by k_is, by k_is, by k_is, by k_is, by k_is, by k_is, by k_is, by k_is, by k_is, trivial⟩)
    (case r7 => exact ⟨by k_is, by k_is, by k_is, by k_is, by k_is, by k_is, by k_is, by k_is, by k_is, by k_is, by k_is, by k_is, by k_is, by k_is, trivial⟩)
    (case r8 => exact ⟨by k_is, by k_is, by k_is, by k_is, by k_is, by k_is, by k_is, by k_is, by k_is, by k_is, by k_is, by k_is, by k_is, by k_is, trivial⟩)
    (case r9 => exact ⟨by k_is, by k_is, by k_is, by k_is, by k_is, by k_is, by k_is, by k_is, by k_is, by k_is, by k_is, by k_is, by k_is, by k_is, trivial⟩)
    (case r10 => exact ⟨by k_is, by k_is, by k_is, by k_is, by k_is, by k_is, by k_is, by k_is, by k_is, by k_is, by k_is, by k_is, by k_is, by k_is, trivial⟩)
    (case r11 => exact ⟨by k_is, by k_is, by k_is, by k_is, by k_is, by k_is, by k_is, by k_is, by k_is, by k_is, by k_is, by k_is, by k_is, by k_is, trivial⟩)
    (case r12 => exact ⟨by k_is, by k_is, by k_is, by k_is, by k_is, by k_is, by k_is, by k_is, by k_is, by k_is, by k_is, by k_is, by k_is, by k_is, trivial⟩)
    (case r13 => exact ⟨by k_is, by k_is, by k_is, by k_is, by k_is, by k_is, by k_is, by k_is, by k_is, by k_is, by k_is, by k_is, by k_is, by k_is, trivial⟩)
    (case b_len => k_is)
    (case b_divmod => k_is)
    (case b_range => k_is)
    (case b_isinstance => k_is)
    (case b_max => k_is)
    (case b_min => k_is)
    (case b_list => k_is)
    (case b_all => k_is)
    (case b_any => k_is)
    (case b_ValueError => k_is)
    (case a0 => k_is)
    (case l0 => k_is)
    (case d0 => k_is)
    (case k0 => k_is)
    (case a1 => k_is)
    (case l1 => k_is)
    (case d1 => k_is)
    (case k1 => k_is)
    (case a2 => k_is)
    (case l2 => k_is)
    (case d2 => k_is)
    (case k2 => k_is)
    (case a3 => k_is)
    (case l3 => k_is)
    (case d3 => k_is)
    (case k3 => k_is)
    (case a4 => k_is)
    (case l4 => k_is)
    (case d4 => k_is)
    (case k4 => k_is)
    (case a5 => k_is)
    (case l5 => k_is)
    (case d5 => k_is)
    (case k5 => k_is)
    (case a6 => k_is)
    (case l6 => k_is)
    (case d6 => k_is)
    (case k6 => k_is)
    (case a7 => k_is)
    (case l7 => k_is)
    (case d7 => k_is)
    (case k7 => k_is)
    (case a8 => k_is)
    (case l8 => k_is)
    (case d8 => k_is)
    (case k8 => k_is)
    (case a9 => k_is)
    (case l9 => k_is)
    (case d9 => k_is)
    (case k9 => k_is)
    (case a10 => k_is)
    (case l10 => k_is)
    (case d10 => k_is)
    (case k10 => k_is)

