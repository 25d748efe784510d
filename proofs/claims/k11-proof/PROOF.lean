import PyProof.Rows.All
import Wide.All
import OpenK.AllK
import Wide.FinOn
import HandS.ForMost
import HandS.ForExc
import HandS.IsInst
import HandS.Star
import HandS.Property
import HandS.Walk
import HandS.Style
import HandS.Zip
import PyProof.ReprRoads
import KE.KTupSum
import KE.KOpsOwn
import KE.DataMinMax
import HandS.TryMany
import HandS.Flow
import HandS.Conv
import HandS.Deep
import KE.KEqDeep
import KE.KRevSl
import HandS.TupAny
import HandS.FStr
import HandS.OwnEq
import HandS.Dict
import HandS.ClsMeth
import KE.KDictZip
import KE.GoesMore
import HandS.TupMul
import HandS.SortRule
import HandS.DictComp
import PyProof.StrOps2
import HandS.Zip0
import HandS.Exc
import HandS.ExcValue
import KE.KDictList
import KE.KTurns
import HandS.SortKw
import HandS.SetFor
import PyProof.EnumIter
import PyProof.ZipIter
import HandS.TupLe
import HandS.ExcIs
import HandS.GenList
import HandS.Lambda
import HandS.EndTab
import HandS.Nested
import HandS.MakeKw
import KE.KStateDown
import HandS.Head0
import HandS.Head1
import HandS.Head2
import KE.KNestM
import PySem.Challenge.RW_poolshares_k11_wrong_arguments
set_option Elab.async false
set_option linter.all false
set_option maxRecDepth 100000
set_option maxHeartbeats 2000000
/-! Own words over the hand layer: calls where nothing is being shown (guards empty), so that repr may be asked. -/
namespace Pl
open PySem PySem.Spec PyProof.Rows L2



section
variable {P : Program} {w : World} {K : PySem.W.Frag} {mg : Str → Option Value} {base : Heap}

end

/-- a def of the module by its name, as the top has left it -/
structure Df (K : PySem.W.Frag) (mg : Str → Option Value) (x : Str) (st : Stmt) (ps : List Str) : Prop where
  ex : ∃ f fd, Fun K x x st f fd ∧ mg x = some (.ref f) ∧ Binds K fd ps []
/-- a def by its name and its promise -/
structure Cal (P : Program) (w : World) (K : PySem.W.Frag) (mg : Str → Option Value) (base : Heap) (k : Nat) (x : Str) (ps : List Str) (sp : Sp) : Prop where
  ex : ∃ f fd, FnOk P w K mg base CX0 k f fd ps sp ∧ mg x = some (.ref f) ∧ PySem.W.keepIn K (.ref f) = true ∧ Binds K fd ps []

section
variable {P : Program} {w : World} {K : PySem.W.Frag} {mg : Str → Option Value} {base : Heap} {x : Str} {st : Stmt} {N ps : List Str} {k : Nat} {sp : Sp}
theorem Df.cal (D : Df K mg x st ps) (S : FnScope N ps (defScope st)) (lng : ∀ vs H Q E, sp vs H Q E → vs.length = ps.length)
    (bod : ∀ (f : Addr) (cdv : Value) (A : Around) (out : List Env) (s : Shared) (H : Hp) (vs : List V) (Q : VK) (E : XK),
      Room k (A.deeper (envOfC x (defScope st) s.heap.objs.size f cdv)) → sp vs H Q E →
      ∃ t, PSs (cxOf CX0 P w K mg base N x (defScope st) f cdv A out s H E).nox (defBody st) t ∧
        t { nx := fun _ H' => Q .non H', rt := Q } (start N vs) H) : Cal P w K mg base (k + 1) x ps sp := by
  obtain ⟨f, fd, F, hm, hb⟩ := D.ex
  exact ⟨f, fd, F.ok S lng (bod f), hm, F.kp, hb⟩

end
section
variable {X : Cx} {k : Nat} {x : Str} {ps : List Str} {sp : Sp} {p pos : Pos} {e : Expr} {es : List Expr} {t : TA}
/-- x(e, ..) -/
theorem pe_fn (c : Cal X.prog X.w X.K X.mg X.base k x ps sp) (hr : Room k X.A) (ha : PA X (e :: es) t) (hg : Gl X x := by rfl) (hdb : (x == ("__debug__" : Str)) = false := by decide)
    (he : starEach (e :: es) X.env = (false, eval e X.env) :: starEach es X.env := by rfl) (hpl : (backTo pos (starEach es X.env)).any (·.1) = false := by rfl) :
    PE X (.Call (.Name x p) (e :: es) [] pos) (tCall sp [] E0 t) := by
  obtain ⟨f, fd, F, hm, kp, hb⟩ := c.ex
  exact pe_call F hr hg hm kp hb .nil pass0 ha hdb he hpl

end

theorem un66 {k : Nat} {A : Around} (hr : Room k A) : A.units + 66 < cLine := by
  have := hr.un
  omega
/-! repr of data -/
section
variable {X : Cx}


/-- len(o), o an instance whose class has its own __len__ -/
theorem call_lenO {k : Nat} {C f : Addr} {fd : FuncData} {ps : List Str} {sp : Sp} (hs : PySem.W.findIn X.K (.ref C) "__len__" = some (some (.ref f))) (hf : PySem.W.isFn X.K (.ref f) = true)
    (F : FnOk X.prog X.w X.K X.mg X.base CX0 k f fd ps sp) (hr : Room (k + 1) X.A) (hb : Binds X.K fd ps []) :
    CallR X (.builtin "len") (fun xs H Q => ∃ (a dx : Addr) (fs : List (Str × V)), xs = [.ref a] ∧ H a = some (.ins C dx fs) ∧
      sp [.ref a] H (fun v H' => ∃ n : Nat, v = .int n ∧ n ≤ 1000 ∧ Q (.int n) H') E0) := by
  intro pins s σ H xs us Q I r h
  obtain ⟨a, dx, fs, rfl, ea, h⟩ := h
  obtain ⟨u, rfl, ru⟩ := vals1 r
  obtain rfl : u = Value.ref a := ru
  obtain ⟨mA, O, _⟩ := ins_get I.hok ea
  obtain ⟨od, J, _⟩ := O.look
  obtain ⟨m, fr⟩ := I.fr
  refine PySem.W.len_K fr I.ok.mod.kin J hs hf ?_
  have hl : [V.ref a].length = ps.length := F.len _ _ _ _ h
  have bt : BindsTo s fd ⟨[.ref a], []⟩ (ps.zip [Value.ref a]) := by simpa using hb s [.ref a] I.kIn (by simpa using hl)
  refine wpAny_call (codeAny_mono (F.run X.A.in1 X.stack s H ⟨[.ref a], []⟩ [.ref a] [.ref a] _ E0 hr.in1 I.env0.in1 bt (.cons rfl .nil) h) ?_)
  intro res s' z
  match res, z with
  | .ok (.ret u), z =>
    obtain ⟨v, H', J2, rv, n, rfl, hn, q⟩ := I.after z
    obtain ⟨t, rfl⟩ := (show ∃ t, u = Value.int n t from rv)
    refine ⟨⟨by omega, by omega⟩, ⟨.int n, H', J2.tok _, ⟨_, rfl⟩, q⟩⟩
  | .ok .next, z => exact False.elim z
  | .ok .brk, z => exact False.elim z
  | .ok .cont, z => exact False.elim z
  | .error e, z => exact False.elim z
end

/-! sum and sorted of a tuple of ints -/
section
variable {prog : Program} {w : World} {A : Around} {E : Value → Shared → Prop} {s : Shared}
theorem collT {t : Addr} {us : List Value} {Q : List Value → Shared → Prop} (ht : s.heap.IsTuple t us.toArray) (hz : us.length ≤ sizeLine)
    (fin : ∀ h' : Heap, (∀ b o, s.heap.get? b = some o → h'.get? b = some o) → Q us { s with heap := h' }) :
    wpAny (model prog w) A (collect (.ref t)) Q E s := by
  obtain ⟨o, ho, hc, n, hd⟩ := ht
  have new : (s.heap.push (seqObj "list" #[] 0)).get? s.heap.objs.size = some (seqObj "list" #[] 0) := Heap.get?_push_size _ rfl
  unfold collect
  refine wpAny_bind (wpAny_runValue (codeAny_builtin entry_proto_collect' ?_))
  show wpAny _ _ (newList [] >>= fun l => again (.builtin "list.__iadd__" ⟨[l, .ref t], []⟩)) _ _ s
  refine wpAny_bind (wpAny_newList (wpAny_pure ⟨Code.quiet_builtin _ (by decide +kernel), codeAny_builtin entry_list_iadd' ?_⟩))
  have old : (s.heap.push (seqObj "list" #[] 0)).get? t = some o := Heap.get?_push_of_some _ ho
  show wpAny _ _ (Builtin.List.listExtendWith (.ref s.heap.objs.size) (.ref t) _) _ _ _
  unfold Builtin.List.listExtendWith; refine wpAny_bind (wpAny_typeOf (T := "tuple") ⟨o, old, hc⟩ ?_); rw [if_pos (by simp)]
  refine wpAny_bind (listItems_at old hd (wpAny_bind (listItems_at (xs := #[]) (n := 0) new rfl ?_)))
  rw [if_neg (by simp)]; refine wpAny_bind (listUpdate_at (xs := #[]) (n := 0) new rfl ?_ (Nat.zero_le _) (by simp; omega))
  refine wpAny_pure ?_; show wpAny (model prog w) A (load s.heap.objs.size >>= _) Q E _
  refine wpAny_bind (wpAny_load (get?_update_seq new _) ?_)
  have e : ((#[] : Array Value) ++ us.toArray).toList = us := by simp
  show wpAny _ _ (pure ((#[] : Array Value) ++ us.toArray).toList) Q E _
  rw [e]
  refine wpAny_pure (fin _ fun b o q => ?_)
  rw [Heap.get?_update_other _ _ (Nat.ne_of_gt (Heap.lt_size q))]
  exact Heap.get?_push_of_some _ q
end
section
variable {X : Cx}
theorem call_sumT (calm : X.calm = true) : CallR X (.builtin "sum") (fun vs H Q => ∃ (a : Addr) (ns : List Int), vs = [V.ref a] ∧ SqT X.K H a (ns.map V.int) ∧ Q (.int ns.sum) H) := by
  intro pins s σ H vs us Q I r h
  obtain ⟨a, ns, rfl, sq, q⟩ := h
  obtain ⟨its, rv, tp, _⟩ := I.tuple sq
  rw [Vals.ref1 r]
  have hi := rv.ints
  obtain ⟨xs, ex⟩ := hi.allInts.items
  have nn : numsOf (intItems xs).toList = ns := by rw [← ex]; exact hi.numsOf
  rw [nums_intItems] at nn
  have tp2 : s.heap.IsTuple a its.toArray := tp
  rw [ex] at tp2
  refine PySem.W.ktm_sumG (I.ok.hd calm) tp2 fun h' tk t' hk => ?_
  rw [preSum_eq, List.take_of_length_le (by simp), nn]
  exact ⟨.int _, H, I.kept hk, ⟨_, rfl⟩, q⟩
theorem call_sortedT : CallR X (.builtin "sorted") (fun vs H Q => ∃ (a : Addr) (ns : List Int), vs = [V.ref a] ∧ SqT X.K H a (ns.map V.int) ∧ ns.length < 64 ∧
    ∀ (ns' : List Int) (p : Addr), ns'.Perm ns → ns'.Pairwise (· ≤ ·) → H p = none → Q (.ref p) (upd H p (.lst (ns'.map V.int)))) := by
  intro pins s σ H vs us Q I r h
  obtain ⟨a, ns, rfl, sq, few, q⟩ := h
  obtain ⟨its, rv, tp, hz⟩ := I.tuple sq
  rw [Vals.ref1 r]
  have hi := rv.ints
  have len : its.length = ns.length := hi.length
  have small : its.length ≤ sizeLine := by rw [len]; exact Nat.le_of_lt (Nat.lt_of_lt_of_le few (by decide))
  refine Calls.call_function_entry kind_sorted plain_sorted entry_sorted (args_sorted1 _) ?_
  unfold Builtin.«sorted»
  refine wpAny_bind (m := checkCount "sorted" 1 1 _) (wpAny_pure ?_)
  refine wpAny_bind (collT (A := X.A.in1) tp small fun h1 kp => ?_)
  have I1 : Inv X pins σ H { s with heap := h1, toks := s.toks } := I.kept kp
  refine wpAny_bind (wpAny_newList ?_ small)
  have at1 : (h1.push (seqObj "list" its.toArray 0)).get? h1.objs.size = some (seqObj "list" its.toArray 0) := Heap.get?_push_size _ rfl
  refine wpAny_bind (wpAny_holding (wpAny_call_entry slot_list_sort ⟨_, at1, rfl⟩ entry_list_sort
    (list_sort_tree (s := { s with heap := h1.push (seqObj "list" its.toArray 0) }) at1 hi (by rw [len]; exact few) ?_) (args_list_sort _)))
  intro out ys g1 g2 g3
  refine ⟨_, rfl, ?_⟩
  obtain ⟨ep, at2⟩ := sortedHeap_at (vs := its) (out := out) at1
  have lens : (ys.map V.int).length ≤ sizeLine := by
    rw [List.length_map, g2.length_eq, ← len]
    exact small
  refine wpAny_pure ⟨_, rfl, .ref h1.objs.size, L2.upd H h1.objs.size (.lst (ys.map V.int)), I1.laid (t' := s.toks) (fun b u e => ?_) (Nat.le_refl _) ?_, rfl, q ys _ g2 g3 (I1.hok.fresh (Nat.le_refl _))⟩
  · have lt : b < h1.objs.size := Heap.lt_size e
    rw [sortedHeap_old (Nat.ne_of_lt lt) (by rw [size_push']; exact Nat.lt_succ_of_lt lt)]
    exact Heap.get?_push_of_some _ e
  · exact (show ObjOk X.prog X.w _ _ _ (.lst (ys.map V.int)) from ⟨lens, out.toList, ep, vals_of_ints g1, by rw [Array.toArray_toList]; exact at2⟩)
end

/-! the end of a law whose call shows data -/




end Pl
namespace Pl
open PySem PySem.Spec PyProof.Rows L2
/-- a method of the class at C, as the top has left it -/
structure Mh (K : PySem.W.Frag) (C : Addr) (m qual : Str) (st : Stmt) (ps : List Str) : Prop where
  ex : ∃ f fd, Fun K m qual st f fd ∧ PySem.W.findIn K (.ref C) m = some (some (.ref f)) ∧ PySem.W.isFn K (.ref f) = true ∧ Binds K fd ps []
structure MCal (P : Program) (w : World) (K : PySem.W.Frag) (mg : Str → Option Value) (base : Heap) (k : Nat) (C : Addr) (m : Str) (ps : List Str) (sp : Sp) : Prop where
  ex : ∃ f fd, FnOk P w K mg base CX0 k f fd ps sp ∧ PySem.W.findIn K (.ref C) m = some (some (.ref f)) ∧ PySem.W.isFn K (.ref f) = true ∧ PySem.W.keepIn K (.ref f) = true ∧ Binds K fd ps []
/-- a property's getter -/
structure Ph (K : PySem.W.Frag) (C : Addr) (m qual : Str) (st : Stmt) (ps : List Str) : Prop where
  ex : ∃ p f fd, Fun K m qual st f fd ∧ PropOf K C m p f ∧ Binds K fd ps []
structure PCal (P : Program) (w : World) (K : PySem.W.Frag) (mg : Str → Option Value) (base : Heap) (k : Nat) (C : Addr) (m : Str) (ps : List Str) (sp : Sp) : Prop where
  ex : ∃ p f fd, FnOk P w K mg base CX0 k f fd ps sp ∧ PropOf K C m p f ∧ Binds K fd ps []
section
variable {P : Program} {w : World} {K : PySem.W.Frag} {mg : Str → Option Value} {base : Heap} {C : Addr} {x qual : Str} {st : Stmt} {N ps : List Str} {k : Nat} {sp : Sp}
theorem Mh.cal (D : Mh K C x qual st ps) (S : FnScope N ps (defScope st)) (lng : ∀ vs H Q E, sp vs H Q E → vs.length = ps.length)
    (bod : ∀ (f : Addr) (cdv : Value) (A : Around) (out : List Env) (s : Shared) (H : Hp) (vs : List V) (Q : VK) (E : XK),
      Room k (A.deeper (envOfC qual (defScope st) s.heap.objs.size f cdv)) → sp vs H Q E →
      ∃ t, PSs (cxOf CX0 P w K mg base N qual (defScope st) f cdv A out s H E).nox (defBody st) t ∧
        t { nx := fun _ H' => Q .non H', rt := Q } (start N vs) H) : MCal P w K mg base (k + 1) C x ps sp := by
  obtain ⟨f, fd, F, h1, h2, hb⟩ := D.ex
  exact ⟨f, fd, F.ok S lng (bod f), h1, h2, F.kp, hb⟩
theorem Ph.cal (D : Ph K C x qual st ps) (S : FnScope N ps (defScope st)) (lng : ∀ vs H Q E, sp vs H Q E → vs.length = ps.length)
    (bod : ∀ (f : Addr) (cdv : Value) (A : Around) (out : List Env) (s : Shared) (H : Hp) (vs : List V) (Q : VK) (E : XK),
      Room k (A.deeper (envOfC qual (defScope st) s.heap.objs.size f cdv)) → sp vs H Q E →
      ∃ t, PSs (cxOf CX0 P w K mg base N qual (defScope st) f cdv A out s H E).nox (defBody st) t ∧
        t { nx := fun _ H' => Q .non H', rt := Q } (start N vs) H) : PCal P w K mg base (k + 1) C x ps sp := by
  obtain ⟨p, f, fd, F, h1, hb⟩ := D.ex
  exact ⟨p, f, fd, F.ok S lng (bod f), h1, hb⟩
end
section
variable {X : Cx} {k : Nat} {C : Addr} {ps : List Str} {sp : Sp} {p pos : Pos} {x : Str} {e : Expr} {es : List Expr} {t : TA} {te ta : TE}
/-- C(e, ..) -/
theorem pe_mk (c : MCal X.prog X.w X.K X.mg X.base k C "__init__" ps sp) (mk : PySem.W.makesIn X.K C = true) (kc : PySem.W.keepIn X.K (.ref C) = true) (hm : X.mg x = some (.ref C)) (hr : Room (k + 1) X.A) (ha : PA X (e :: es) t)
    (hg : Gl X x := by rfl) (hdb : (x == ("__debug__" : Str)) = false := by decide)
    (he : starEach (e :: es) X.env = (false, eval e X.env) :: starEach es X.env := by rfl) (hpl : (backTo pos (starEach es X.env)).any (·.1) = false := by rfl) :
    PE X (.Call (.Name x p) (e :: es) [] pos) (tMake C sp [] E0 t) := by
  obtain ⟨f, fd, F, h1, h2, kp, hb⟩ := c.ex
  exact pe_make ⟨mk, h1, h2, kc⟩ F hr hg hm hb .nil pass0 ha hdb he hpl
/-- o.f, a property -/
theorem pe_pr {f : Str} (c : PCal X.prog X.w X.K X.mg X.base k C f ps sp) (cl : Cls X.K C) (hr : Room (k + 1) X.A) (he : PE X e te)
    (hab : attributeBase e f X.env (eval e X.env) = eval e X.env := by rfl) : PE X (.Attribute e f pos) (tProp C sp [] E0 te) := by
  obtain ⟨q, f', fd, F, h1, hb⟩ := c.ex
  exact pe_prop he cl h1 F hr hb .nil pass0 hab
/-- len(o) -/
theorem call_lenM (c : MCal X.prog X.w X.K X.mg X.base k C "__len__" ps sp) (hr : Room (k + 1) X.A) :
    CallR X (.builtin "len") (fun xs H Q => ∃ (a dx : Addr) (fs : List (Str × V)), xs = [.ref a] ∧ H a = some (.ins C dx fs) ∧
      sp [.ref a] H (fun v H' => ∃ n : Nat, v = .int n ∧ n ≤ 1000 ∧ Q (.int n) H') E0) := by
  obtain ⟨f, fd, F, h1, h2, kp, hb⟩ := c.ex
  exact call_lenO h1 h2 F hr hb
/-- o(e, ..), an instance of C called -/
def tCallP (C : Addr) (sp : Sp) (tf : TE) (t : TA) : TE := fun σ H Q => tf σ H fun y H1 => ∃ a, y = V.ref a ∧ t σ H1 fun vs H2 =>
  ((∃ dx vs, SlX.Slt H2 a C dx vs) ∨ ∃ dx fs, H2 a = some (.ins C dx fs)) ∧ sp (V.ref a :: vs) H2 Q E0
/-- o(e, ..) -/
theorem pe_callM {fe : Expr} {tf : TE} (c : MCal X.prog X.w X.K X.mg X.base k C "__call__" ps sp) (fi : ∀ f, PySem.W.findIn X.K (.ref C) "__call__" = some (some (.ref f)) → PySem.W.fnIn X.K f = true) (hr : Room k X.A) (hf : PE X fe tf) (ha : PA X (e :: es) t)
    (ht : eval (.Call fe (e :: es) [] pos) X.env = (do callWith pos (← eval fe X.env) [] (backTo pos (starEach (e :: es) X.env)) (backToKw pos (keywordEach [] X.env))) := by rfl)
    (he : starEach (e :: es) X.env = (false, eval e X.env) :: starEach es X.env := by rfl) (hpl : (backTo pos (starEach es X.env)).any (·.1) = false := by rfl) :
    PE X (.Call fe (e :: es) [] pos) (tCallP C sp tf t) := by
  obtain ⟨f, fd, F, h1, h2, kp, hb⟩ := c.ex
  have R : FnR X.prog X.w X.K X.mg X.base CX0 k f sp := (F.raw hb .nil).imp fun vs H Q E h => by simpa using h
  show PE X (.Call fe (e :: es) [] pos) (StX.tCallO X C sp E0 tf t)
  exact StX.pe_callO hf ⟨h1, h2, fi f h1⟩ R hr pass0 ha ht he hpl
end
/-! what the head shows of each def -/
def FnAt (K : PySem.W.Frag) (f : Addr) (x qual : Str) (st : Stmt) : Prop := ∃ (od an : Option Addr) (sl : Array (Option Value)) (oc kV dc pm cd ct : Value),
  K.lookup f = some ⟨oc, od, .func (PySem.W.fnOf x qual (defArgs st) (defBody st) (defScope st) .none kV dc pm an cd ct), sl⟩ ∧ PySem.W.codeIn K cd qual = true ∧ PySem.W.keepIn K (.ref f) = true
/-- the parameters, all given -/
def BindOk (x qual : Str) (st : Stmt) (ps : List Str) : Prop := ∀ (kV doc pm : Value) (an : Option Addr) (cdv ct : Value) (us : List Value), us.length = ps.length →
  bindArgs (PySem.W.fnOf x qual (defArgs st) (defBody st) (defScope st) .none kV doc pm an cdv ct) ⟨us, []⟩ = pure (ps.zip us)
structure DfK (K : PySem.W.Frag) (x : Str) (st : Stmt) : Prop where
  ex : ∃ f, PySem.W.nsIn K mainGlobals x = some (some (.ref f)) ∧ FnAt K f x x st
theorem DfK.df {K : PySem.W.Frag} {h : Heap} {mg : Str → Option Value} {x : Str} {st : Stmt} {ps : List Str} (d : DfK K x st) (X : K.In h) (G : h.Ns mainGlobals mg) (b : BindOk x x st ps) : Df K mg x st ps := by
  obtain ⟨f, a, od, an, sl, oc, kV, dc, pm, cd, ct, l, c, k⟩ := d.ex
  have F := fun_mk (st := st) l c k
  exact ⟨f, _, F, PySem.W.mg_of X G a, F.binds b⟩
structure MhK (K : PySem.W.Frag) (C : Addr) (x qual : Str) (st : Stmt) : Prop where
  ex : ∃ f, PySem.W.findIn K (.ref C) x = some (some (.ref f)) ∧ PySem.W.isFn K (.ref f) = true ∧ FnAt K f x qual st
theorem MhK.mh {K : PySem.W.Frag} {C : Addr} {x qual : Str} {st : Stmt} {ps : List Str} (d : MhK K C x qual st) (b : BindOk x qual st ps) : Mh K C x qual st ps := by
  obtain ⟨f, a, i, od, an, sl, oc, kV, dc, pm, cd, ct, l, c, k⟩ := d.ex
  have F := fun_mk (st := st) l c k
  exact ⟨f, _, F, a, i, F.binds b⟩
structure PhK (K : PySem.W.Frag) (C : Addr) (x qual : Str) (st : Stmt) : Prop where
  ex : ∃ p f, PySem.W.findIn K (.ref C) x = some (some (.ref p)) ∧ PySem.W.specialIn K (.ref p) "__get__" = some (some (.builtin "property.__get__")) ∧ PySem.W.takesIn K (.ref p) = some true ∧
    (∃ rest, PySem.W.recIn K p "property" = some (.ref f :: rest)) ∧ FnAt K f x qual st
theorem PhK.ph {K : PySem.W.Frag} {C : Addr} {x qual : Str} {st : Stmt} {ps : List Str} (d : PhK K C x qual st) (b : BindOk x qual st ps) : Ph K C x qual st ps := by
  obtain ⟨p, f, a, g, t, r, od, an, sl, oc, kV, dc, pm, cd, ct, l, c, k⟩ := d.ex
  have F := fun_mk (st := st) l c k
  exact ⟨p, f, _, F, ⟨a, g, t, r⟩, F.binds b⟩
theorem DfK.of {K : PySem.W.Frag} {x : Str} {st : Stmt} {f : Addr} {od an : Option Addr} {sl : Array (Option Value)} {oc kV dc pm cd ct : Value}
    (a : PySem.W.nsIn K mainGlobals x = some (some (.ref f))) (l : K.lookup f = some ⟨oc, od, .func (PySem.W.fnOf x x (defArgs st) (defBody st) (defScope st) .none kV dc pm an cd ct), sl⟩) (c : PySem.W.codeIn K cd x = true) (k : PySem.W.keepIn K (.ref f) = true) : DfK K x st := ⟨⟨f, a, od, an, sl, oc, kV, dc, pm, cd, ct, l, c, k⟩⟩
theorem MhK.of {K : PySem.W.Frag} {C : Addr} {x qual : Str} {st : Stmt} {f : Addr} {od an : Option Addr} {sl : Array (Option Value)} {oc kV dc pm cd ct : Value}
    (a : PySem.W.findIn K (.ref C) x = some (some (.ref f))) (i : PySem.W.isFn K (.ref f) = true) (l : K.lookup f = some ⟨oc, od, .func (PySem.W.fnOf x qual (defArgs st) (defBody st) (defScope st) .none kV dc pm an cd ct), sl⟩) (c : PySem.W.codeIn K cd qual = true) (k : PySem.W.keepIn K (.ref f) = true) : MhK K C x qual st := ⟨⟨f, a, i, od, an, sl, oc, kV, dc, pm, cd, ct, l, c, k⟩⟩
theorem PhK.of {K : PySem.W.Frag} {C p : Addr} {x qual : Str} {st : Stmt} {f : Addr} {rest : List Value} {od an : Option Addr} {sl : Array (Option Value)} {oc kV dc pm cd ct : Value}
    (a : PySem.W.findIn K (.ref C) x = some (some (.ref p))) (g : PySem.W.specialIn K (.ref p) "__get__" = some (some (.builtin "property.__get__"))) (t : PySem.W.takesIn K (.ref p) = some true)
    (r : PySem.W.recIn K p "property" = some (.ref f :: rest)) (l : K.lookup f = some ⟨oc, od, .func (PySem.W.fnOf x qual (defArgs st) (defBody st) (defScope st) .none kV dc pm an cd ct), sl⟩) (c : PySem.W.codeIn K cd qual = true) (k : PySem.W.keepIn K (.ref f) = true) : PhK K C x qual st := ⟨⟨p, f, a, g, t, ⟨rest, r⟩, od, an, sl, oc, kV, dc, pm, cd, ct, l, c, k⟩⟩
structure CallF (K : PySem.W.Frag) (C : Addr) : Prop where
  ex : ∃ f, PySem.W.findIn K (.ref C) "__call__" = some (some (.ref f)) ∧ PySem.W.fnIn K f = true
theorem CallF.of {K : PySem.W.Frag} {C f : Addr} (a : PySem.W.findIn K (.ref C) "__call__" = some (some (.ref f))) (i : PySem.W.fnIn K f = true) : CallF K C := ⟨⟨f, a, i⟩⟩
structure ConI (K : PySem.W.Frag) (x : Str) (n : Int) : Prop where
  ex : ∃ t, PySem.W.nsIn K mainGlobals x = some (some (.int n t))
theorem ConI.of {K : PySem.W.Frag} {x : Str} {n : Int} {t : Tok} (a : PySem.W.nsIn K mainGlobals x = some (some (.int n t))) : ConI K x n := ⟨⟨t, a⟩⟩
theorem ConI.mg {K : PySem.W.Frag} {h : Heap} {mg : Str → Option Value} {x : Str} {n : Int} (c : ConI K x n) (X : K.In h) (G : h.Ns mainGlobals mg) : ∃ t, mg x = some (.int n t) := by
  obtain ⟨t, e⟩ := c.ex
  exact ⟨t, PySem.W.mg_of X G e⟩
end Pl
namespace Pl
open PySem PySem.Spec PyProof.Rows L2
/-! what raises -/
/-- an own error class over ValueError, as the top has left it -/
structure ExK (K : PySem.W.Frag) (mg : Str → Option Value) (x : Str) (C : Addr) : Prop where
  g : mg x = some (.ref C)
  xn : PySem.W.excIn K C [.type "ValueError", .type "Exception", .type "BaseException", .type "object"] "ValueError.__new__" = true
  kp : PySem.W.keepIn K (.ref C) = true
  ba : PySem.W.subIn K (.ref C) (.type "BaseException") = some true
  ty : PySem.W.typeIn K (.ref C) = some (.type "type")
  me : PySem.W.exmOne K (.ref C) (.ref C) = some true
structure ExF (K : PySem.W.Frag) (x : Str) (C : Addr) : Prop where
  a : PySem.W.nsIn K mainGlobals x = some (some (.ref C))
  xn : PySem.W.excIn K C [.type "ValueError", .type "Exception", .type "BaseException", .type "object"] "ValueError.__new__" = true
  kp : PySem.W.keepIn K (.ref C) = true
  ba : PySem.W.subIn K (.ref C) (.type "BaseException") = some true
  ty : PySem.W.typeIn K (.ref C) = some (.type "type")
  cl : PySem.W.isClsIn K C = true
  su : PySem.W.subIn K (.ref C) (.ref C) = some true
theorem exm_at {K : PySem.W.Frag} {S : Addr} {cls : Value} {b : Bool} (ba : PySem.W.subIn K (.ref S) (.type "BaseException") = some true) (cl : PySem.W.isClsIn K S = true)
    (ty : PySem.W.typeIn K (.ref S) = some (.type "type")) (su : PySem.W.subIn K cls (.ref S) = some b) : PySem.W.exmOne K cls (.ref S) = some b := by
  have cl2 : (PySem.W.clsIn K S).isSome = true := cl
  unfold PySem.W.exmOne PySem.W.kitCls
  simp [ba, ty, su, cl, cl2, PySem.W.isClsIn]
theorem ExF.k {K : PySem.W.Frag} {h : Heap} {mg : Str → Option Value} {x : Str} {C : Addr} (e : ExF K x C) (X : K.In h) (G : h.Ns mainGlobals mg) : ExK K mg x C :=
  ⟨PySem.W.mg_of X G e.a, e.xn, e.kp, e.ba, e.ty, exm_at e.ba e.cl e.ty e.su⟩
/-- whatever the slots are, the error is wished for -/
abbrev AnyS (W : WX) : XK := fun cls d H => ∀ σ, W cls d σ H
theorem passW {X : Cx} {W : WX} (tk : Takes X W) : Passes (L2.CX X.prog X.w) X (AnyS W) := fun _ σ _ _ e s' I c => tk e s' (XE.of_call I (fun _ _ _ h => h σ) c)
section
variable {X : Cx} {x m : Str} {j : Nat} {p p2 pos pos2 : Pos} {C : Addr} {W : WX}
/-- raise x('..') -/
theorem ps_err (e : ExK X.K X.mg x C) (tk : Takes X W) (hc : X.calm = true := by rfl) (hg : Gl X x := by rfl) (hdb : (x == ("__debug__" : Str)) = false := by decide) :
    PS X (.Raise (some (.Call (.Name x p) [.Constant (.str m) j p2] [] pos)) none pos2) (fun _ σ H => W (.ref C) none σ H) :=
  ps_raise hc tk (pmk_own PySem.F.excBase_ValueError e.xn e.g e.kp (raises_own e.ba e.ty) hg hdb)
end
structure MCalX (P : Program) (w : World) (K : PySem.W.Frag) (mg : Str → Option Value) (base : Heap) (k : Nat) (C : Addr) (m : Str) (ps : List Str) (sp : Sp) : Prop where
  ex : ∃ f fd, FnOk P w K mg base (L2.CX P w) k f fd ps sp ∧ PySem.W.findIn K (.ref C) m = some (some (.ref f)) ∧ PySem.W.isFn K (.ref f) = true ∧ PySem.W.keepIn K (.ref f) = true ∧ Binds K fd ps []
structure CalX (P : Program) (w : World) (K : PySem.W.Frag) (mg : Str → Option Value) (base : Heap) (k : Nat) (x : Str) (ps : List Str) (sp : Sp) : Prop where
  ex : ∃ f fd, FnOk P w K mg base (L2.CX P w) k f fd ps sp ∧ mg x = some (.ref f) ∧ PySem.W.keepIn K (.ref f) = true ∧ Binds K fd ps []
section
variable {P : Program} {w : World} {K : PySem.W.Frag} {mg : Str → Option Value} {base : Heap} {C : Addr} {x qual : Str} {st : Stmt} {N ps : List Str} {k : Nat} {sp : Sp}
theorem Mh.calX (D : Mh K C x qual st ps) (S : FnScope N ps (defScope st)) (lng : ∀ vs H Q E, sp vs H Q E → vs.length = ps.length)
    (bod : ∀ (f : Addr) (cdv : Value) (A : Around) (out : List Env) (s : Shared) (H : Hp) (vs : List V) (Q : VK) (E : XK),
      Room k (A.deeper (envOfC qual (defScope st) s.heap.objs.size f cdv)) → sp vs H Q E →
      ∃ t, PSs (cxOf (L2.CX P w) P w K mg base N qual (defScope st) f cdv A out s H E) (defBody st) t ∧
        t { nx := fun _ H' => Q .non H', rt := Q } (start N vs) H) : MCalX P w K mg base (k + 1) C x ps sp := by
  obtain ⟨f, fd, F, h1, h2, hb⟩ := D.ex
  exact ⟨f, fd, F.okX S lng (bod f), h1, h2, F.kp, hb⟩
theorem Df.calX (D : Df K mg x st ps) (S : FnScope N ps (defScope st)) (lng : ∀ vs H Q E, sp vs H Q E → vs.length = ps.length)
    (bod : ∀ (f : Addr) (cdv : Value) (A : Around) (out : List Env) (s : Shared) (H : Hp) (vs : List V) (Q : VK) (E : XK),
      Room k (A.deeper (envOfC x (defScope st) s.heap.objs.size f cdv)) → sp vs H Q E →
      ∃ t, PSs (cxOf (L2.CX P w) P w K mg base N x (defScope st) f cdv A out s H E) (defBody st) t ∧
        t { nx := fun _ H' => Q .non H', rt := Q } (start N vs) H) : CalX P w K mg base (k + 1) x ps sp := by
  obtain ⟨f, fd, F, hm, hb⟩ := D.ex
  exact ⟨f, fd, F.okX S lng (bod f), hm, F.kp, hb⟩
end
section
variable {X : Cx} {k : Nat} {C : Addr} {ps : List Str} {sp : Sp} {E : XK} {p pos : Pos} {x : Str} {e fe : Expr} {es : List Expr} {t : TA} {te ti tf : TE}
theorem pe_fnX (c : CalX X.prog X.w X.K X.mg X.base k x ps sp) (hx : Passes (L2.CX X.prog X.w) X E) (hr : Room k X.A) (ha : PA X (e :: es) t) (hg : Gl X x := by rfl) (hdb : (x == ("__debug__" : Str)) = false := by decide)
    (he : starEach (e :: es) X.env = (false, eval e X.env) :: starEach es X.env := by rfl) (hpl : (backTo pos (starEach es X.env)).any (·.1) = false := by rfl) :
    PE X (.Call (.Name x p) (e :: es) [] pos) (tCall sp [] E t) := by
  obtain ⟨f, fd, F, hm, kp, hb⟩ := c.ex
  exact pe_call F hr hg hm kp hb .nil hx ha hdb he hpl
theorem pe_mkX (c : MCalX X.prog X.w X.K X.mg X.base k C "__init__" ps sp) (hx : Passes (L2.CX X.prog X.w) X E) (mk : PySem.W.makesIn X.K C = true) (kc : PySem.W.keepIn X.K (.ref C) = true) (hm : X.mg x = some (.ref C)) (hr : Room (k + 1) X.A) (ha : PA X (e :: es) t)
    (hg : Gl X x := by rfl) (hdb : (x == ("__debug__" : Str)) = false := by decide)
    (he : starEach (e :: es) X.env = (false, eval e X.env) :: starEach es X.env := by rfl) (hpl : (backTo pos (starEach es X.env)).any (·.1) = false := by rfl) :
    PE X (.Call (.Name x p) (e :: es) [] pos) (tMake C sp [] E t) := by
  obtain ⟨f, fd, F, h1, h2, kp, hb⟩ := c.ex
  exact pe_make ⟨mk, h1, h2, kc⟩ F hr hg hm hb .nil hx ha hdb he hpl


/-- o[i] by the class's own __getitem__, which may raise -/
def tSub (C : Addr) (sp : Sp) (E : XK) (te ti : TE) : TE := fun σ H Q => te σ H fun x H1 => ti σ H1 fun y H2 => ∃ a dx fs, x = V.ref a ∧ H2 a = some (.ins C dx fs) ∧ sp [.ref a, y] H2 Q E
theorem pe_subX {i : Expr} (c : MCalX X.prog X.w X.K X.mg X.base k C "__getitem__" ps sp) (hx : Passes (L2.CX X.prog X.w) X E) (fi : ∀ f, PySem.W.findIn X.K (.ref C) "__getitem__" = some (some (.ref f)) → PySem.W.fnIn X.K f = true) (hr : Room (k + 1) X.A)
    (he : PE X e te) (hi : PE X i ti) (hs : ∀ o u, subscripted i true o u = runValue (.builtin "lifetime.subscript" ⟨[o, u], []⟩) := by intro o u; with_unfolding_all rfl) : PE X (.Subscript e i pos) (tSub C sp E te ti) := by
  obtain ⟨f, fd, F, h1, h2, kp, hb⟩ := c.ex
  refine ⟨fun pins s σ H Q I h => ?_⟩
  refine Subscript_ (binT he hi I h fun v u s2 x y H2 I2 rx ry q => ?_)
  obtain ⟨a, dx, fs, rfl, ea, q⟩ := q
  obtain rfl : v = Value.ref a := rx
  obtain ⟨mA, O, _⟩ := ins_get I2.hok ea
  obtain ⟨od, J, _⟩ := O.look
  obtain ⟨m, fr⟩ := I2.fr
  have hl : [V.ref a, y].length = ps.length := F.len _ _ _ _ q
  have bt : BindsTo s2 fd ⟨[.ref a, u], []⟩ (ps.zip [Value.ref a, u]) := by simpa using hb s2 [.ref a, u] I2.kIn (by simpa using hl)
  refine PySem.W.sub_K fr I2.ok.mod.kin J h1 (fi f h1) h2 (wpAny_call (codeAny_mono (F.run X.A.in1 X.stack s2 H2 ⟨[.ref a, u], []⟩ [.ref a, u] [.ref a, y] Q E hr.in1 I2.env0.in1 bt (.cons rfl (.cons ry .nil)) q) ?_)) (hs _ _)
  intro res s' z
  match res, z with
  | .ok (.ret u), z => exact I2.after z
  | .ok .next, z => exact False.elim z
  | .ok .brk, z => exact False.elim z
  | .ok .cont, z => exact False.elim z
  | .error er, z => exact hx pins σ H2 s2 er s' I2 z
end
structure ItemF (K : PySem.W.Frag) (C : Addr) : Prop where
  ex : ∃ f, PySem.W.findIn K (.ref C) "__getitem__" = some (some (.ref f)) ∧ PySem.W.fnIn K f = true
theorem ItemF.of {K : PySem.W.Frag} {C f : Addr} (a : PySem.W.findIn K (.ref C) "__getitem__" = some (some (.ref f))) (i : PySem.W.fnIn K f = true) : ItemF K C := ⟨⟨f, a, i⟩⟩
theorem ItemF.fi {K : PySem.W.Frag} {C : Addr} (c : ItemF K C) : ∀ f, PySem.W.findIn K (.ref C) "__getitem__" = some (some (.ref f)) → PySem.W.fnIn K f = true := fun f h => by
  obtain ⟨g, a, b⟩ := c.ex
  rw [a] at h
  cases h
  exact b
end Pl
namespace Pl
open PySem PySem.Spec PyProof.Rows L2
section
open PySem.W
variable {prog : Program} {w : World} {A : Around} {E : Value → Shared → Prop} {s : Shared} {K : Frag} {x C f : Addr} {ox : Obj} {od : Option Obj} {T : String}

end
/-- the built-in type of a value -/
inductive TyS (H : Hp) : V → String → Prop where
  | non : TyS H .non "NoneType"
  | bl (b : Bool) : TyS H (.bl b) "bool"
  | int (i : Int) : TyS H (.int i) "int"
  | str (z : Str) : TyS H (.str z) "str"
  | lst {a : Addr} {xs : List V} (e : H a = some (.lst xs)) : TyS H (.ref a) "list"
  | tup {a : Addr} {xs : List V} (e : H a = some (.tup xs)) : TyS H (.ref a) "tuple"
  | dK {a : Addr} {xs : List (Key × V)} (e : H a = some (.dK xs)) : TyS H (.ref a) "dict"
theorem TyS.tyX {K : PySem.W.Frag} {H : Hp} {x : V} {T : String} (t : TyS H x T) : TyX K H x (.type T) := by
  cases t with
  | non => exact .base .non
  | bl b => exact .base (.bl b)
  | int i => exact .base (.int i)
  | str z => exact .base (.str z)
  | lst e => exact .base (.lst e)
  | tup e => exact .base (.tup e)
  | dK e => exact .base (.dK e)
theorem TyS.same {H H' : Hp} {x : V} {T : String} (k : Same H H') (t : TyS H x T) : TyS H' x T := by
  cases t with
  | non => exact .non
  | bl b => exact .bl b
  | int i => exact .int i
  | str z => exact .str z
  | lst e => exact .lst (k _ _ e)
  | tup e => exact .tup (k _ _ e)
  | dK e => exact .dK (k _ _ e)





theorem dpI (K : PySem.W.Frag) (H : Hp) : ∀ ns : List Int, DpAll K H (ns.map V.int) (ns.map PyData.int)
  | [] => .nil
  | n :: ns => .cons (.int n) (dpI K H ns)
theorem depI : ∀ ns : List Int, PyData.depthAll (ns.map PyData.int) = 0
  | [] => rfl
  | n :: ns => by
    show max 0 (PyData.depthAll (ns.map PyData.int)) = 0
    rw [depI ns]; rfl
section
variable {X : Cx} {k : Nat} {C : Addr} {ps : List Str} {sp : Sp} {E : XK}


/-- max of a tuple of ints -/
theorem call_maxT (calm : X.calm = true) (hu : X.A.units + 66 < cLine) : CallR X (.builtin "max") (fun vs H Q => ∃ (a : Addr) (n : Int) (ns : List Int), vs = [V.ref a] ∧ SqT X.K H a ((n :: ns).map V.int) ∧ Q (.int (ns.foldl max n)) H) := by
  intro pins s σ H vs us Q I r h
  obtain ⟨a, n, ns, rfl, sq, q⟩ := h
  obtain ⟨its, rv, tp, _⟩ := I.tuple sq
  rw [Vals.ref1 r]
  obtain ⟨as, rd⟩ := Dp.readsAll I _ _ its (dpI X.K H (n :: ns)) rv
  have dp : PyData.depthAll ((n :: ns).map PyData.int) = 0 := depI _
  refine PySem.W.max_tuple_data (x := .int n) (xs := ns.map PyData.int) (I.ok.hd calm) tp (by simpa using rd) ⟨?_, ?_⟩ ?_ fun i v h' tk bs hv rv' hk => ?_
  · intro x hx y hy
    obtain ⟨i, _, rfl⟩ := List.mem_map.mp (show x ∈ (n :: ns).map PyData.int from hx)
    obtain ⟨j, _, rfl⟩ := List.mem_map.mp (show y ∈ (n :: ns).map PyData.int from hy)
    rfl
  · intro x hx
    obtain ⟨i, _, rfl⟩ := List.mem_map.mp (show x ∈ (n :: ns).map PyData.int from hx)
    exact fun z => nomatch z
  · have e : PyData.depthAll (.int n :: ns.map PyData.int) = 0 := dp
    rw [e]; omega
  · rw [PySem.W.maxD_ints] at rv'
    cases rv'
    exact ⟨.int _, H, I.kept hk, ⟨_, rfl⟩, q⟩
end
end Pl
namespace Pl
open PySem PySem.Spec PyProof.Rows L2
/-! what some built-ins do, over the written part alone -/
def rTupleOf (K : PySem.W.Frag) : List V → Hp → VK → Prop := fun xs H Q => ∃ p ys, xs = [.ref p] ∧ ((SqL K H p ys ∧ ∀ l, H l = none → Q (.ref l) (upd H l (.tup ys))) ∨ (SqT K H p ys ∧ Q (.ref p) H))
def rListOf (K : PySem.W.Frag) : List V → Hp → VK → Prop := fun xs H Q => ∃ p ys, xs = [.ref p] ∧ (SqL K H p ys ∨ SqT K H p ys) ∧ ∀ l, H l = none → Q (.ref l) (upd H l (.lst ys))

def rSortedT (K : PySem.W.Frag) : List V → Hp → VK → Prop := fun vs H Q => ∃ (a : Addr) (ns : List Int), vs = [V.ref a] ∧ SqT K H a (ns.map V.int) ∧ ns.length < 64 ∧
    ∀ (ns' : List Int) (p : Addr), ns'.Perm ns → ns'.Pairwise (· ≤ ·) → H p = none → Q (.ref p) (upd H p (.lst (ns'.map V.int)))
section
variable {X : Cx}
/-- xs[i] by values, 0 ≤ i, for xs[i] op= e -/
theorem get_list : PGet X (fun x y H Q => ∃ (p : Addr) (xs : List V) (i : Int) (v : V), x = .ref p ∧ y = .int i ∧ SqL X.K H p xs ∧ 0 ≤ i ∧ xs[i.toNat]? = some v ∧ Q v H) := by
  intro pins s σ H o i ov iv Q I ro ri h
  obtain ⟨p, xs, n, v, rfl, rfl, sq, n0, e, q⟩ := h
  obtain rfl : ov = Value.ref p := ro
  obtain ⟨t, rfl⟩ := (show ∃ t, iv = Value.int n t from ri)
  obtain ⟨its, rv, pl, hz⟩ := I.list sq
  obtain ⟨u, eu, ru⟩ := rv.get e
  have l1 := (List.getElem?_eq_some_iff.mp e).1
  have l2 : (sizeLine : Nat) = 16777216 := sizeLine_eq
  exact wpAny_getItem_list pl.isList n0 (by omega) (by simpa using eu) ⟨v, H, I, ru, q⟩
/-- a call that is shown not to raise -/
theorem passF : Passes (L2.CX X.prog X.w) X (fun _ _ _ => False) := fun _ _ _ _ _ _ _ c => by
  obtain ⟨_, _, _, _, _, _, _, _, _, _, _, _, z⟩ := c
  exact z.elim
end
end Pl
namespace Pl
open PySem PySem.Spec PyProof.Rows L2
section
open PySem.W
variable {prog : Program} {w : World} {A : Around} {E : Value → Shared → Prop} {s : Shared} {K : Frag} {x C L f : Addr} {h₀ : Heap} {m : Str → Option Value} {ox : Obj} {od : Option Obj} {b tb : Value}



end




section
variable {X : Cx} {k : Nat} {C : Addr} {ps : List Str} {sp : Sp}




end
end Pl
namespace Pl
open PySem PySem.Spec PyProof.Rows L2
/-! a list comprehension out of which an error may come -/



section
variable {M : Model} {A : Around} {E : Value → Shared → Prop} {s : Shared} {env : Env}

end



section
variable {X : Cx}


variable {elt tg iter : Expr} {ifs : List Expr} {scope : Scope} {own : List (Str × Nat)} {pos : Pos} {wi : TI} {g : TG} {tt : TT} {te : TE} {W : WX}


end
end Pl
namespace Pl
open PySem PySem.Spec PyProof.Rows L2
/-! defs with a star parameter, objects made of a starred list, class methods, constants of a class -/
/-- a method by its raw promise -/
structure MCalR (P : Program) (w : World) (K : PySem.W.Frag) (mg : Str → Option Value) (base : Heap) (CX : CXT) (k : Nat) (C : Addr) (m : Str) (sp : Sp) : Prop where
  ex : ∃ f, FnR P w K mg base CX k f sp ∧ PySem.W.findIn K (.ref C) m = some (some (.ref f)) ∧ PySem.W.isFn K (.ref f) = true


/-- what is left over stands in a new tuple -/
def spStar (sp : Sp) : Sp := fun vs H Q E => ∃ (a : V) (rest : List V), vs = a :: rest ∧ rest.length ≤ sizeLine ∧ ∀ p, H p = none → sp [a, .ref p] (upd H p (.tup rest)) Q E
def BindStar (x qual : Str) (st : Stmt) (p1 pv : Str) : Prop := ∀ (kV doc pm : Value) (an : Option Addr) (cdv ct : Value) (us rest : List Value), us.length = [p1].length →
  bindArgs (PySem.W.fnOf x qual (defArgs st) (defBody st) (defScope st) .none kV doc pm an cdv ct) ⟨us ++ rest, []⟩ = (newTuple rest >>= fun t => pure ([p1].zip us ++ [(pv, t)]))
section
variable {P : Program} {w : World} {K : PySem.W.Frag} {mg : Str → Option Value} {base : Heap} {C : Addr} {x qual : Str} {st : Stmt} {N : List Str} {p1 pv : Str} {k : Nat} {sp : Sp}
theorem MhK.star (D : MhK K C x qual st) (S : FnScope N [p1, pv] (defScope st)) (hb : BindStar x qual st p1 pv)
    (bod : ∀ (f : Addr) (cdv : Value) (A : Around) (out : List Env) (s : Shared) (H : Hp) (vs : List V) (Q : VK) (E : XK),
      Room k (A.deeper (envOfC qual (defScope st) s.heap.objs.size f cdv)) → sp vs H Q E →
      ∃ t, PSs (cxOf CX0 P w K mg base N qual (defScope st) f cdv A out s H E).nox (defBody st) t ∧ t { nx := fun _ H' => Q .non H', rt := Q } (start N vs) H) : MCalR P w K mg base CX0 (k + 1) C x (spStar sp) := by
  obtain ⟨f, a, i, od, an, sl, oc, kV, dc, pm, cd, ct, l, c, kp⟩ := D.ex
  refine ⟨f, (StX.fn_star (ps := [p1]) (pv := pv) (sp := sp) (k := k) l c S StX.cxUp_none (hb kV dc pm an cd ct) fun A out s H vs Q E hr h => ?_).imp fun vs H Q E h => ?_, a, i⟩
  · obtain ⟨t, h1, h2⟩ := bod f cd A out s H vs Q E hr h
    exact ⟨t, h1.nox, h2⟩
  · obtain ⟨v, rest, rfl, hl, q⟩ := h
    exact ⟨[v], rest, rfl, rfl, hl, q⟩

end
/-- C(*e) -/
def tMkS (K : PySem.W.Frag) (C : Addr) (sp : Sp) (E : XK) (te : TE) : TE := fun σ H Q => te σ H fun y H1 => ∃ a xs, y = V.ref a ∧ (SqT K H1 a xs ∨ SqL K H1 a xs) ∧
  ∀ x dx, H1 x = none → H1 dx = none → dx ≠ x → sp (V.ref x :: xs) (upd (upd H1 dx (.own x)) x (.ins C dx [])) (fun v H2 => v = .non ∧ Q (.ref x) H2) E
section
variable {X : Cx} {CX : CXT} {k : Nat} {C : Addr} {sp : Sp} {E : XK} {p pos sps : Pos} {x : Str} {e fe : Expr} {es : List Expr} {te tf : TE} {t : TA}
theorem pe_mkS (c : MCalR X.prog X.w X.K X.mg X.base CX k C "__init__" sp) (hx : Passes CX X E) (mk : PySem.W.makesIn X.K C = true) (kc : PySem.W.keepIn X.K (.ref C) = true) (hm : X.mg x = some (.ref C)) (hr : Room (k + 1) X.A) (he : PE X e te)
    (hg : Gl X x := by rfl) (hdb : (x == ("__debug__" : Str)) = false := by decide) (hst : starEach [.Starred e sps] X.env = [(true, eval e X.env)] := by rfl) :
    PE X (.Call (.Name x p) [.Starred e sps] [] pos) (tMkS X.K C sp E te) := by
  obtain ⟨f, F, h1, h2⟩ := c.ex
  refine ⟨fun pins s σ H Q I h => wpAny_Call_Name_kw (ld_glob I hg hm ?_ hdb)⟩
  refine PySem.W.callWith_S (h₀ := X.base) I.ok.mod.kin kc (thn (he.run pins s σ H _ I h) fun v s1 ⟨y, H1, I1, ry, a, xs, ey, hxs, q⟩ => ?_) hst
  subst ey
  obtain rfl : v = Value.ref a := ry
  exact StX.star_any I1 hxs fun us s2 I2 rv => ⟨I2.kIn, StX.run_makeR ⟨mk, h1, h2, kc⟩ F hr hx I2 rv q⟩
/-- v(*e), v a variable that holds the class -/
def tMkV (K : PySem.W.Frag) (C : Addr) (sp : Sp) (E : XK) (tf te : TE) : TE := fun σ H Q => tf σ H fun z H0 => z = .ref C ∧ tMkS K C sp E te σ H0 Q
theorem pe_mkV (c : MCalR X.prog X.w X.K X.mg X.base CX k C "__init__" sp) (hx : Passes CX X E) (mk : PySem.W.makesIn X.K C = true) (kc : PySem.W.keepIn X.K (.ref C) = true) (hr : Room (k + 1) X.A) (hf : PE X fe tf) (he : PE X e te)
    (ht : eval (.Call fe [.Starred e sps] [] pos) X.env = (do callWith pos (← eval fe X.env) [] (backTo pos (starEach [.Starred e sps] X.env)) (backToKw pos (keywordEach [] X.env))) := by rfl)
    (hst : starEach [.Starred e sps] X.env = [(true, eval e X.env)] := by rfl) : PE X (.Call fe [.Starred e sps] [] pos) (tMkV X.K C sp E tf te) := by
  obtain ⟨f, F, h1, h2⟩ := c.ex
  refine ⟨fun pins s σ H Q I h => ?_⟩
  refine Call_ (thn (hf.run pins s σ H _ I h) fun u s0 ⟨z, H0, I0, rz, ez, h0⟩ => ?_) ht
  subst ez
  obtain rfl : u = Value.ref C := rz
  refine PySem.W.callWith_S (h₀ := X.base) I0.ok.mod.kin kc (thn (he.run pins s0 σ H0 _ I0 h0) fun v s1 ⟨y, H1, I1, ry, a, xs, ey, hxs, q⟩ => ?_) hst
  subst ey
  obtain rfl : v = Value.ref a := ry
  exact StX.star_any I1 hxs fun us s2 I2 rv => ⟨I2.kIn, StX.run_makeR ⟨mk, h1, h2, kc⟩ F hr hx I2 rv q⟩
/-- C(e, ..) by a raw promise -/
theorem pe_mkR (c : MCalR X.prog X.w X.K X.mg X.base CX k C "__init__" sp) (hx : Passes CX X E) (mk : PySem.W.makesIn X.K C = true) (kc : PySem.W.keepIn X.K (.ref C) = true) (hm : X.mg x = some (.ref C)) (hr : Room (k + 1) X.A) (ha : PA X (e :: es) t)
    (hg : Gl X x := by rfl) (hdb : (x == ("__debug__" : Str)) = false := by decide)
    (he : starEach (e :: es) X.env = (false, eval e X.env) :: starEach es X.env := by rfl) (hpl : (backTo pos (starEach es X.env)).any (·.1) = false := by rfl) :
    PE X (.Call (.Name x p) (e :: es) [] pos) (StX.tMakeR C sp E t) := by
  obtain ⟨f, F, h1, h2⟩ := c.ex
  exact StX.pe_makeR ⟨mk, h1, h2, kc⟩ F hr hg hm hx ha hdb he hpl
end
/-! class methods -/
structure CmK (K : PySem.W.Frag) (C : Addr) (m qual : Str) (st : Stmt) : Prop where
  ex : ∃ (mc : Value) (p g : Addr), ClX.CRead K C mc ∧ ClX.CMet K C mc m p g ∧ FnAt K g m qual st
theorem CmK.of {K : PySem.W.Frag} {C p g : Addr} {mc : Value} {m qual : Str} {st : Stmt} {rest : List Value} {od an : Option Addr} {sl : Array (Option Value)} {oc kV dc pm cd ct : Value}
    (rd : PySem.W.readsIn K C mc = true) (ga : PySem.W.specialIn K (.ref C) "__getattribute__" = some (some (.builtin "type.__getattribute__")))
    (at_ : PySem.W.findCls K (.ref C) mc m = some (.get (.builtin "classmethod.__get__") (.ref p) .none (.ref C))) (rc : PySem.W.recIn K p "classmethod" = some (.ref g :: rest)) (fi : PySem.W.fnIn K g = true)
    (l : K.lookup g = some ⟨oc, od, .func (PySem.W.fnOf m qual (defArgs st) (defBody st) (defScope st) .none kV dc pm an cd ct), sl⟩) (c : PySem.W.codeIn K cd qual = true) (k : PySem.W.keepIn K (.ref g) = true) : CmK K C m qual st :=
  ⟨⟨mc, p, g, ⟨rd, ga⟩, ⟨at_, ⟨rest, rc⟩, fi⟩, od, an, sl, oc, kV, dc, pm, cd, ct, l, c, k⟩⟩
structure CmCal (P : Program) (w : World) (K : PySem.W.Frag) (mg : Str → Option Value) (base : Heap) (CX : CXT) (k : Nat) (C : Addr) (m : Str) (sp : Sp) : Prop where
  ex : ∃ (mc : Value) (p g : Addr), ClX.CRead K C mc ∧ ClX.CMet K C mc m p g ∧ FnR P w K mg base CX k g sp
section
variable {P : Program} {w : World} {K : PySem.W.Frag} {mg : Str → Option Value} {base : Heap} {C : Addr} {x qual : Str} {st : Stmt} {N ps : List Str} {k : Nat} {sp : Sp}
theorem CmK.cal (D : CmK K C x qual st) (b : BindOk x qual st ps) (S : FnScope N ps (defScope st)) (lng : ∀ vs H Q E, sp vs H Q E → vs.length = ps.length)
    (bod : ∀ (f : Addr) (cdv : Value) (A : Around) (out : List Env) (s : Shared) (H : Hp) (vs : List V) (Q : VK) (E : XK),
      Room k (A.deeper (envOfC qual (defScope st) s.heap.objs.size f cdv)) → sp vs H Q E →
      ∃ t, PSs (cxOf CX0 P w K mg base N qual (defScope st) f cdv A out s H E).nox (defBody st) t ∧ t { nx := fun _ H' => Q .non H', rt := Q } (start N vs) H) : CmCal P w K mg base CX0 (k + 1) C x sp := by
  obtain ⟨mc, p, g, h1, h2, od, an, sl, oc, kV, dc, pm, cd, ct, l, c, kp⟩ := D.ex
  have F := fun_mk (st := st) l c kp
  exact ⟨mc, p, g, h1, h2, ((F.ok S lng (bod g)).raw (F.binds b) .nil).imp fun vs H Q E h => by simpa using h⟩
end
/-- a constant of a class -/
structure CvK (K : PySem.W.Frag) (C : Addr) (f : Str) (n : Int) : Prop where
  ex : ∃ (mc : Value) (t : Tok), ClX.CRead K C mc ∧ ClX.CVal K C mc f (.int n) (.int n t)
theorem CvK.of {K : PySem.W.Frag} {C : Addr} {mc : Value} {f : Str} {n : Int} {t : Tok} (rd : PySem.W.readsIn K C mc = true) (ga : PySem.W.specialIn K (.ref C) "__getattribute__" = some (some (.builtin "type.__getattribute__")))
    (at_ : PySem.W.findCls K (.ref C) mc f = some (.val (.int n t))) : CvK K C f n := ⟨⟨mc, t, ⟨rd, ga⟩, at_, ⟨t, rfl⟩⟩⟩
section
variable {X : Cx} {CX : CXT} {k : Nat} {C : Addr} {sp : Sp} {E : XK} {pos apos : Pos} {f m : Str} {e o : Expr} {es : List Expr} {te ta : TE} {t : TA} {n : Int} {pl : Sem Bool}
theorem pe_cv (c : CvK X.K C f n) (he : PE X e te) (hb : attributeBase e f X.env (eval e X.env) = eval e X.env := by rfl) : PE X (.Attribute e f pos) (fun σ H Q => te σ H fun x H1 => x = .ref C ∧ Q (.int n) H1) := by
  obtain ⟨mc, t, r, v⟩ := c.ex
  refine ⟨fun pins s σ H Q I h => ?_⟩
  refine attr_of hb (thn (he.run pins s σ H _ I h) fun u s1 ⟨x, H1, I1, rx, ex, q⟩ => ?_)
  subst ex
  obtain rfl : u = Value.ref C := rx
  exact ClX.getcval_ok I1 r v fun s2 I2 => ⟨.int n, H1, I2, v.rel, q⟩
theorem pe_cm (c : CmCal X.prog X.w X.K X.mg X.base CX k C m sp) (hx : Passes CX X E) (hr : Room k X.A) (he : PE X o ta) (ha : PA X (e :: es) t)
    (hst : starEach (e :: es) X.env = (false, eval e X.env) :: starEach es X.env := by rfl) (hpl : (backTo pos (starEach es X.env)).any (·.1) = false := by rfl)
    (ht : eval (.Call (.Attribute o m apos) (e :: es) [] pos) X.env = (do
      let ov ← eval o X.env
      standAt apos.atName
      let (f, first) ← holding [ov] (getMethod ov m pl)
      callWith pos f first (backTo pos (starEach (e :: es) X.env)) (backToKw pos (keywordEach [] X.env))) := by rfl) :
    PE X (.Call (.Attribute o m apos) (e :: es) [] pos) (ClX.tCMeth C sp E ta t) := by
  obtain ⟨mc, p, g, h1, h2, F⟩ := c.ex
  exact ClX.pe_cmeth he h1 h2 F hr hx ha hst hpl ht
end
end Pl
namespace Pl
open PySem PySem.Spec PyProof.Rows L2 TL
/-! the texts of amounts, lines, divisions -/
abbrev wd (n : Int) : Str := toString n
theorem wd_all : ∀ i : Fin 31, (decide (10 ∉ tl (wd (i.val : Int))) && decide (32 ∉ tl (wd (i.val : Int))) && decide ((tl (wd (i.val : Int))).length ≤ 2)) = true := by decide +kernel
theorem wd_inj31 : ∀ i j : Fin 31, wd (i.val : Int) = wd (j.val : Int) → i = j := by decide +kernel
theorem wd_ok {n : Int} (h0 : 0 ≤ n) (h1 : n ≤ 30) : 10 ∉ tl (wd n) ∧ 32 ∉ tl (wd n) ∧ (tl (wd n)).length ≤ 2 := by
  have e : ((n.toNat : Nat) : Int) = n := by omega
  have h := wd_all ⟨n.toNat, by omega⟩
  simp only [e, Bool.and_eq_true, decide_eq_true_eq] at h
  exact ⟨h.1.1, h.1.2, h.2⟩
theorem wd_inj {n m : Int} (h0 : 0 ≤ n) (h1 : n ≤ 30) (k0 : 0 ≤ m) (k1 : m ≤ 30) (h : wd n = wd m) : n = m := by
  have e : ((n.toNat : Nat) : Int) = n := by omega
  have e2 : ((m.toNat : Nat) : Int) = m := by omega
  have q := wd_inj31 ⟨n.toNat, by omega⟩ ⟨m.toNat, by omega⟩ (by simpa only [e, e2] using h)
  have := congrArg Fin.val q
  simp only at this
  omega
def line (ns : List Int) : Str := Str.join " " (ns.map wd)
def text (rows : List (List Int)) : Str := Str.join "" (rows.map fun ns => line ns ++ "\n")
theorem joinL_mem {S : List Nat} {c : Nat} : ∀ {ps : List (List Nat)}, c ∈ joinL S ps → c ∈ S ∨ ∃ p ∈ ps, c ∈ p
  | [], h => by simp [joinL] at h
  | [p], h => .inr ⟨p, List.mem_singleton.mpr rfl, h⟩
  | p :: q :: r, h => by
    unfold joinL at h
    rcases List.mem_append.mp h with h | h
    · exact .inr ⟨p, List.mem_cons_self, h⟩
    · rcases List.mem_append.mp h with h | h
      · exact .inl h
      · rcases joinL_mem h with h | ⟨z, hz, h⟩
        · exact .inl h
        · exact .inr ⟨z, List.mem_cons_of_mem _ hz, h⟩
theorem joinL_len {S : List Nat} {k : Nat} : ∀ {ps : List (List Nat)}, (∀ p ∈ ps, p.length ≤ k) → (joinL S ps).length ≤ (k + S.length) * ps.length
  | [], _ => Nat.zero_le _
  | [p], h => by
    have := h p (List.mem_singleton.mpr rfl)
    show p.length ≤ (k + S.length) * 1
    omega
  | p :: q :: r, h => by
    have h1 := h p List.mem_cons_self
    have h2 := joinL_len (S := S) (ps := q :: r) fun z hz => h z (List.mem_cons_of_mem _ hz)
    show (p ++ (S ++ joinL S (q :: r))).length ≤ (k + S.length) * ((q :: r).length + 1)
    rw [List.length_append, List.length_append, Nat.mul_add, Nat.mul_one]
    omega
theorem tl_line (ns : List Int) : tl (line ns) = joinL [32] (ns.map fun n => tl (wd n)) := by
  unfold line
  rw [tl_join, List.map_map]
  rfl
theorem line_free {ns : List Int} (am : ∀ r ∈ ns, 0 ≤ r ∧ r ≤ 30) : 10 ∉ tl (line ns) := fun h => by
  rw [tl_line] at h
  rcases joinL_mem h with h | ⟨p, hp, h⟩
  · exact absurd h (by decide)
  · obtain ⟨n, hn, rfl⟩ := List.mem_map.mp hp
    exact (wd_ok (am n hn).1 (am n hn).2).1 h
theorem line_len {ns : List Int} (am : ∀ r ∈ ns, 0 ≤ r ∧ r ≤ 30) : (line ns).length ≤ 3 * ns.length := by
  have h : (tl (line ns)).length ≤ 3 * ns.length := by
    rw [tl_line]
    have := joinL_len (S := [32]) (k := 2) (ps := ns.map fun n => tl (wd n)) fun p hp => by
      obtain ⟨n, hn, rfl⟩ := List.mem_map.mp hp
      exact (wd_ok (am n hn).1 (am n hn).2).2.2
    simpa using this
  rw [len_tl]; exact h
theorem split_line {ns : List Int} (ne : ns ≠ []) (am : ∀ r ∈ ns, 0 ≤ r ∧ r ≤ 30) : Txt.split (line ns) " " = ns.map wd := by
  have e : line ns = Txt.join " " (ns.map wd) := (join_eq _ _).symm
  rw [e]
  refine split_join (s := 32) (S := []) rfl (by decide +kernel) (by simpa using ne) fun p hp => ?_
  obtain ⟨n, hn, rfl⟩ := List.mem_map.mp hp
  exact (wd_ok (am n hn).1 (am n hn).2).2.1
theorem tl_text (rows : List (List Int)) : tl (text rows) = (rows.map fun ns => tl (line ns) ++ [10]).flatten := by
  unfold text
  rw [tl_join]
  have e : ∀ ps : List (List Nat), joinL [] ps = ps.flatten := by
    intro ps
    induction ps with
    | nil => rfl
    | cons p r ih =>
      cases r with
      | nil => simp [joinL]
      | cons q r => 
        show p ++ ([] ++ joinL [] (q :: r)) = _
        rw [ih]
        simp
  have z : tl ("" : Str) = [] := rfl
  rw [z, e, List.map_map]
  refine congrArg List.flatten (List.map_congr_left fun ns _ => ?_)
  show tl (line ns ++ "\n") = _
  rw [tl_append]
  rfl
theorem body_tl : ∀ {rows : List (List Int)}, rows ≠ [] → (rows.map fun ns => tl (line ns) ++ [10]).flatten = joinL [10] (rows.map fun ns => tl (line ns)) ++ [10]
  | [], h => absurd rfl h
  | [r], _ => by simp [joinL]
  | r :: q :: rs, _ => by
    have ih := body_tl (rows := q :: rs) (by simp)
    rw [List.map_cons, List.flatten_cons, ih]
    show (tl (line r) ++ [10]) ++ _ = (tl (line r) ++ ([10] ++ joinL [10] ((q :: rs).map fun ns => tl (line ns)))) ++ [10]
    simp
def body (rows : List (List Int)) : Str := Str.join "\n" (rows.map line)
theorem tl_body (rows : List (List Int)) : tl (body rows) = joinL [10] (rows.map fun ns => tl (line ns)) := by
  unfold body
  rw [tl_join, List.map_map]
  rfl
theorem text_tl {rows : List (List Int)} (h : rows ≠ []) : tl (text rows) = tl (body rows) ++ [10] := by rw [tl_text, body_tl h, tl_body]
theorem text_ends {rows : List (List Int)} (h : rows ≠ []) : Txt.endswith (text rows) "\n" = true := by
  have e := text_tl h
  have l : (text rows).length = (tl (body rows)).length + 1 := by rw [len_tl, e]; simp
  unfold Txt.endswith
  have y1 : ("\n" : Str).length = 1 := rfl
  rw [y1, StrLaws.subAt_eq, l, Nat.add_sub_cancel]
  show (decide (0 + 1 ≤ (tl (body rows)).length + 1) && ((tl (text rows)).drop (tl (body rows)).length).take 1 == [10]) = true
  rw [e, List.drop_left]
  simp
theorem text_cut {rows : List (List Int)} (h : rows ≠ []) : cutS (text rows) none (some (-1)) = body rows := by
  refine ext_tl ?_
  have e := text_tl h
  have l : (text rows).length = (tl (body rows)).length + 1 := by rw [len_tl, e]; simp
  have i1 : HT.sIx (text rows).length 0 none = 0 := HT.sIx_none _ _
  have i2 : HT.sIx (text rows).length (text rows).length (some (-1)) = (tl (body rows)).length := by
    rw [l]
    unfold HT.sIx
    simp
    try omega
  unfold cutS
  show (((tl (text rows)).drop _).take _) = _
  rw [i1, i2, e, List.drop_zero, Nat.sub_zero, List.take_left]
theorem body_split {rows : List (List Int)} (h : rows ≠ []) (am : ∀ ns ∈ rows, ∀ r ∈ ns, 0 ≤ r ∧ r ≤ 30) : Txt.split (body rows) "\n" = rows.map line := by
  have e : body rows = Txt.join "\n" (rows.map line) := (join_eq _ _).symm
  rw [e]
  refine split_join (s := 10) (S := []) rfl (by decide +kernel) (by simpa using h) fun p hp => ?_
  obtain ⟨n, hn, rfl⟩ := List.mem_map.mp hp
  exact line_free (am n hn)
theorem text_len {rows : List (List Int)} {m k : Nat} (hk : rows.length ≤ k) (hm : ∀ ns ∈ rows, ns.length ≤ m) (am : ∀ ns ∈ rows, ∀ r ∈ ns, 0 ≤ r ∧ r ≤ 30) : (text rows).length ≤ (3 * m + 1) * k := by
  have h : (tl (text rows)).length ≤ (3 * m + 1) * rows.length := by
    rw [tl_text]
    induction rows with
    | nil => simp
    | cons r rs ih =>
      have h1 := line_len (am r List.mem_cons_self)
      have h2 := hm r List.mem_cons_self
      have h3 := ih (by simp at hk; omega) (fun ns h => hm ns (List.mem_cons_of_mem _ h)) (fun ns h => am ns (List.mem_cons_of_mem _ h))
      rw [List.map_cons, List.flatten_cons, List.length_append, List.length_append, ← len_tl]
      simp only [List.length_cons, List.length_nil, Nat.mul_add, Nat.mul_one]
      omega
  rw [len_tl]
  exact Nat.le_trans h (Nat.mul_le_mul_left _ hk)
theorem body_len {rows : List (List Int)} (h : rows ≠ []) : (body rows).length + 1 = (text rows).length := by
  rw [len_tl, len_tl, text_tl h]; simp
/-! methods without arguments, texts with values in them -/
section
variable {X : Cx} {k : Nat} {C : Addr} {ps : List Str} {sp : Sp} {E : XK} {pos apos : Pos} {m : Str} {o v1 v2 : Expr} {rest : List Expr} {ta : TE} {ts : List TE} {pl : Sem Bool}





end
end Pl
namespace Pl
open PySem PySem.Spec PyProof.Rows L2
/-! zip(*rows), rows some tuples -/
section
variable {M : Model} {A : Around} {E : Value → Shared → Prop}
/-- a loop whose turns end as foreseen -/
theorem forIn_wp {α β : Type} {f : α → β → Sem (ForInStep β)} : ∀ (l : List α) (r : Nat → β) (P : Nat → Shared → Prop) (s : Shared),
    (∀ j x s, l[j]? = some x → P j s → wpAny M A (f x (r j)) (fun t s' => t = .yield (r (j + 1)) ∧ P (j + 1) s') E s) → P 0 s → wpAny M A (forIn l (r 0) f) (fun t s' => t = r l.length ∧ P l.length s') E s
  | [], r, P, s, _, h => by
    rw [List.forIn_nil]
    exact wpAny_pure ⟨rfl, h⟩
  | x :: l, r, P, s, st, h => by
    rw [List.forIn_cons]
    refine wpAny_bind (wpAny_mono (st 0 x s rfl h) (fun t s' ht => ?_) fun _ _ e => e)
    obtain ⟨rfl, h'⟩ := ht
    exact forIn_wp l (fun j => r (j + 1)) (fun j => P (j + 1)) s' (fun j y s q => st (j + 1) y s q) h'
end
def tiO (l : Addr) : Obj := { cls := .type "tuple_iterator", data := .fields #[.ref l, .int 0 0] }
/-- the iterators laid one after another -/
def itH (h : Heap) : List Addr → Heap
  | [] => h
  | l :: r => itH (h.push (tiO l)) r
def itV (n : Nat) : List Addr → List Value
  | [] => []
  | l :: r => .ref n :: itV (n + 1) r
theorem itH_keep : ∀ {ls : List Addr} {h : Heap} {b : Addr} {o : Obj}, h.get? b = some o → (itH h ls).get? b = some o
  | [], _, _, _, e => e
  | l :: r, h, b, o, e => itH_keep (ls := r) (Heap.get?_push_of_some _ e)
theorem itH_size : ∀ {ls : List Addr} {h : Heap}, (itH h ls).objs.size = h.objs.size + ls.length
  | [], _ => rfl
  | l :: r, h => by
    show (itH (h.push (tiO l)) r).objs.size = _
    rw [itH_size, Heap.size_push, List.length_cons]
    omega
theorem itH_at : ∀ {ls : List Addr} {h : Heap} {j : Nat} {l : Addr}, ls[j]? = some l → (itH h ls).get? (h.objs.size + j) = some (tiO l)
  | l :: r, h, 0, _, e => by
    cases e
    exact itH_keep (ls := r) (h := h.push (tiO l)) (Heap.get?_push_size _ rfl)
  | l :: r, h, j + 1, x, e => by
    have z := itH_at (ls := r) (h := h.push (tiO l)) (j := j) e
    rw [Heap.size_push] at z
    rw [show h.objs.size + (j + 1) = h.objs.size + 1 + j by omega]
    exact z
theorem itV_at : ∀ {ls : List Addr} {n j : Nat}, j < ls.length → (itV n ls)[j]? = some (.ref (n + j))
  | l :: r, n, 0, _ => rfl
  | l :: r, n, j + 1, h => by
    have z := itV_at (ls := r) (n := n + 1) (j := j) (by simpa using h)
    rw [show n + (j + 1) = n + 1 + j by omega]
    exact z
theorem itV_len : ∀ {ls : List Addr} {n : Nat}, (itV n ls).length = ls.length
  | [], _ => rfl
  | l :: r, n => by
    show (itV (n + 1) r).length + 1 = _
    rw [itV_len]
    rfl
section
variable {prog : Program} {w : World} {A : Around} {E : Value → Shared → Prop}
theorem iterAll_go {f : Value → Array Value → Sem (ForInStep (Array Value))} (hf : ∀ x a, f x a = (do let v ← holding a.toList (pyIter x); pure (.yield (a.push v)))) : ∀ (ls : List Addr) (acc : Array Value) (s : Shared) (Q : Array Value → Shared → Prop),
    (∀ l ∈ ls, ∃ xs, s.heap.IsTuple l xs) → Q (acc ++ (itV s.heap.objs.size ls).toArray) { s with heap := itH s.heap ls } → wpAny (model prog w) A (forIn (ls.map Value.ref) acc f) Q E s
  | [], acc, s, Q, _, h => by
    rw [List.map_nil, List.forIn_nil]
    refine wpAny_pure ?_
    have e : acc ++ (itV s.heap.objs.size []).toArray = acc := by simp [itV]
    rw [e] at h
    exact h
  | l :: r, acc, s, Q, ht, h => by
    rw [List.map_cons, List.forIn_cons, hf]
    obtain ⟨xs, hl⟩ := ht l List.mem_cons_self
    refine wpAny_bind (wpAny_bind (wpAny_holding (wpAny_pyIter_tuple hl (wpAny_pure ?_))))
    refine iterAll_go hf r _ _ Q (fun b hb => ?_) ?_
    · obtain ⟨ys, z⟩ := ht b (List.mem_cons_of_mem _ hb)
      exact ⟨ys, z.push _⟩
    · have e : (acc.push (Value.ref s.heap.objs.size)) ++ (itV (s.heap.push (tiO l)).objs.size r).toArray = acc ++ (itV s.heap.objs.size (l :: r)).toArray := by
        rw [Heap.size_push]
        apply Array.toList_inj.mp
        simp [itV]
      show Q ((acc.push (Value.ref s.heap.objs.size)) ++ (itV (s.heap.push (tiO l)).objs.size r).toArray) { s with heap := itH (s.heap.push (tiO l)) r }
      rw [e]
      exact h
theorem iterAll_wp {ls : List Addr} {s : Shared} {Q : List Value → Shared → Prop} (ht : ∀ l ∈ ls, ∃ xs, s.heap.IsTuple l xs) (h : Q (itV s.heap.objs.size ls) { s with heap := itH s.heap ls }) :
    wpAny (model prog w) A (Builtin.SmallTypes.iterAll (ls.map Value.ref)) Q E s := by
  unfold Builtin.SmallTypes.iterAll
  refine wpAny_bind (iterAll_go (fun x a => rfl) ls #[] s _ ht (wpAny_pure ?_))
  have e : (#[] ++ (itV s.heap.objs.size ls).toArray : Array Value).toList = itV s.heap.objs.size ls := by simp
  show Q (#[] ++ (itV s.heap.objs.size ls).toArray : Array Value).toList _
  rw [e]
  exact h
end
abbrev zN3 (h : Heap) (ls : List Addr) : Heap := (itH h ls).push { cls := .type "tuple", data := .seq (itV h.objs.size ls).toArray }
abbrev zN4 (h : Heap) (ls : List Addr) : Heap := (zN3 h ls).push { cls := .type "tuple", data := .seq ((itV h.objs.size ls).map fun _ => Value.none).toArray }
abbrev zN5 (h : Heap) (ls : List Addr) : Heap := (zN4 h ls).push { cls := .type "zip", data := .fields #[.none, .bool false, .bool false, .ref (itH h ls).objs.size, .ref (zN3 h ls).objs.size] }
theorem meets_zipN (ls : List Addr) (hn : ls.length ≤ 100) :
    Meets (Builtin.«zip.__new__» ⟨.type "zip" :: ls.map Value.ref, []⟩) (fun _ R s => (∀ l ∈ ls, ∃ xs, s.heap.IsTuple l xs) ∧ R (.ok (.ret (.ref (zN4 s.heap ls).objs.size))) { s with heap := zN5 s.heap ls }) :=
  .of_wp fun prog w A R s h => by
    obtain ⟨hp, g, d, tk, os⟩ := s
    obtain ⟨ht, h⟩ := h
    have ht : ∀ l ∈ ls, ∃ xs, Heap.IsTuple (Shared.heap ⟨hp, g, d, tk, os⟩) l xs := ht
    have hsub := sub_zip
    unfold Builtin.«zip.__new__»
    refine wpAny_bind (wpAny_of_eq (a := ((.type "zip" : Value), ls.map Value.ref)) ?_ ?_)
    · unfold Builtin.SmallTypes.newClass
      show (isType (.type "zip") >>= _) = _
      rw [show isType (.type "zip") = pure true from rfl]
      show (isSubtype (.type "zip") (.type "zip") >>= _) = _
      rw [hsub]
      rfl
    dsimp only
    rw [if_neg (by simp)]
    have z1 : (itV hp.objs.size ls).length ≤ sizeLine := by rw [itV_len]; exact Nat.le_trans hn (by decide)
    have z2 : ((itV hp.objs.size ls).map fun _ => Value.none).length ≤ sizeLine := by rw [List.length_map]; exact z1
    refine wpAny_bind (iterAll_wp ht (wpAny_bind (wpAny_newTuple (wpAny_bind (wpAny_newTuple (wpAny_bind ?_) z2)) z1)))
    show wpAny _ _ (newObj (.type "zip") (.fields #[.none, .bool false, .bool false, .ref (itH hp ls).objs.size, .ref (zN3 hp ls).objs.size])) _ _ _
    exact wpAny_newObj_type (wpAny_pure ⟨_, rfl, h⟩) (by size_fits)
/-- the checks of the call's form -/
theorem zip_checks : ∀ us : List Value, 2 ≤ us.length → us.length ≤ 4 → checkTypeCall "zip" ⟨us, []⟩ = pure () ∧ checkBuiltinCall "zip.__new__" ⟨.type "zip" :: us, []⟩ = pure () ∧ ∀ obj, argsOk "object.__init__" ⟨obj :: us, []⟩
  | [a, b], _, _ => ⟨F.typeCall_zip_2 _ _, F.newCall_zip_2 _ _, fun obj => F.args_object_init_3 obj _ _⟩
  | [a, b, c], _, _ => ⟨by kernel_rfl, by kernel_rfl, fun obj => by unfold argsOk; kernel_rfl⟩
  | [a, b, c, d], _, _ => ⟨by kernel_rfl, by kernel_rfl, fun obj => by unfold argsOk; kernel_rfl⟩
  | [], h, _ => absurd h (by simp)
  | [_], h, _ => absurd h (by simp)
  | _ :: _ :: _ :: _ :: _ :: _, _, h => absurd h (by simp)
section
variable {prog : Program} {w : World} {A : Around} {E : Value → Shared → Prop} {s : Shared}
theorem call_zipN {ls : List Addr} {Q : Value → Shared → Prop} (h2 : 2 ≤ ls.length) (h4 : ls.length ≤ 4) (ht : ∀ l ∈ ls, ∃ xs, s.heap.IsTuple l xs)
    (h : Q (.ref (zN4 s.heap ls).objs.size) { s with heap := zN5 s.heap ls }) : wpAny (model prog w) A (call (.type "zip") (ls.map Value.ref)) Q E s := by
  obtain ⟨c1, c2, c3⟩ := zip_checks (ls.map Value.ref) (by simpa using h2) (by simpa using h4)
  exact callType_new F.called_zip (by decide) c1 c2 c3 F.entry_zip_new (meets_zipN ls (by omega)) ⟨ht, ⟨_, Heap.get?_push_size _ rfl, rfl⟩, h⟩
end
abbrev ZR (h : Heap) (z TI TO : Addr) (f0 : Value) (f1 : Bool) : Prop := h.get? z = some { cls := .type "zip", dict := none, data := .fields #[f0, .bool f1, .bool false, .ref TI, .ref TO], slots := #[] }
abbrev TupO (h : Heap) (T : Addr) (us : List Value) : Prop := h.get? T = some { cls := .type "tuple", data := .seq us.toArray }
/-- the iterators stand at i, the first j of them one further -/
def ItsJ (h : Heap) (its ls : List Addr) (i j : Nat) : Prop := ∀ (m : Nat) (it l : Addr), its[m]? = some it → ls[m]? = some l → h.IsTupleIter it l (if m < j then i + 1 else i)
def Fld0 (f0 : Value) : Prop := f0 = .none ∨ ∃ T : Nat, f0 = rawInt T
theorem take_set {α : Type} {xs olds : List α} {j : Nat} {x : α} (h : xs[j]? = some x) (l : olds.length = xs.length) : (xs.take j ++ olds.drop j).set j x = xs.take (j + 1) ++ olds.drop (j + 1) := by
  have lt : j < xs.length := (List.getElem?_eq_some_iff.mp h).1
  have e1 : (xs.take j).length = j := by rw [List.length_take]; omega
  rw [List.set_append_right _ _ (by omega), e1, Nat.sub_self, List.drop_eq_getElem_cons (show j < olds.length by omega), List.set_cons_zero, List.take_add_one, h]
  simp
theorem ItsJ.start {h : Heap} {its ls : List Addr} {i n : Nat} (q : ItsJ h its ls i n) (l : its.length ≤ n) : ItsJ h its ls (i + 1) 0 := fun m it l' e1 e2 => by
  have z := q m it l' e1 e2
  rw [if_pos (Nat.lt_of_lt_of_le (List.getElem?_eq_some_iff.mp e1).1 l)] at z
  rw [if_neg (by omega)]
  exact z
/-- one of them moves -/
theorem ItsJ.next {h h' : Heap} {its ls : List Addr} {i j : Nat} {it l : Addr} (q : ItsJ h its ls i j) (nd : its.Nodup) (e1 : its[j]? = some it) (e2 : ls[j]? = some l) (k : ∀ b ∈ its, b ≠ it → ∀ o, h.get? b = some o → h'.get? b = some o) (a : h'.IsTupleIter it l (i + 1)) : ItsJ h' its ls i (j + 1) := fun m b l' f1 f2 => by
  by_cases c : m = j
  · subst c
    rw [e1] at f1
    rw [e2] at f2
    cases f1
    cases f2
    rw [if_pos (Nat.lt_succ_self _)]
    exact a
  · have z := q m b l' f1 f2
    have n : b ≠ it := fun z => by
      rw [z] at f1
      exact c ((List.getElem?_inj (List.getElem?_eq_some_iff.mp f1).1 nd).mp (f1.trans e1.symm))
    have e : (if m < j + 1 then i + 1 else i) = (if m < j then i + 1 else i) := by
      by_cases d : m < j
      · rw [if_pos d, if_pos (by omega)]
      · rw [if_neg d, if_neg (by omega)]
    rw [e]
    exact z.at fun o q => k b (List.mem_of_getElem? f1) n o q
section
variable {prog : Program} {w : World} {A : Around} {E : Value → Shared → Prop} {s : Shared} {z TI TO : Addr} {its ls : List Addr}
theorem free_or_held {f0 : Value} {f1 : Bool} {Q : Bool → Shared → Prop} (hz : ZR s.heap z TI TO f0 f1) (hf : Fld0 f0) (yes : Q true s) (no : ∀ h1, ZR h1 z TI TO f0 true → Heap.SameBut z s.heap h1 → Q false { s with heap := h1 }) :
    wpAny (model prog w) A (Builtin.SmallTypes.ownedTupleIsFree (.ref z)) Q E s := by
  rcases hf with rfl | ⟨T, rfl⟩
  · unfold Builtin.SmallTypes.ownedTupleIsFree
    exact wpAny_bind (wpAny_field hz rfl (x := .none) rfl (wpAny_pure yes))
  · cases e : s.heap.get? T with
    | some o => exact wpAny_tupleHeld_zip hz e no
    | none =>
      unfold Builtin.SmallTypes.ownedTupleIsFree
      refine wpAny_bind (wpAny_field hz rfl (x := rawInt T) rfl ?_)
      show wpAny _ _ (loadIfAlive ((T : Int).toNat) >>= _) _ _ _
      rw [Int.toNat_natCast]
      refine wpAny_bind ?_
      have k : (fun (a : Option Obj) (s' : Shared) => wpAny (model prog w) A (if a.isNone = true then pure true else do
          if (← field (.ref z) 1) != .bool true then setField (.ref z) 1 (.bool true)
          return false) Q E s') (s.heap.get? T) s := by
        rw [e]
        exact wpAny_pure yes
      exact fun _ _ _ => k
theorem zipN_item {f0 : Value} {f1 : Bool} {i : Nat} {olds xs : List Value} {Q : Value → Shared → Prop} (ap : (z :: TI :: TO :: its).Nodup) (al : ∀ l ∈ ls, l ∉ z :: TI :: TO :: its) (ne : its ≠ []) (few : its.length ≤ 100) (ll : its.length = ls.length)
    (hz : ZR s.heap z TI TO f0 f1) (hf : Fld0 f0) (hTI : TupO s.heap TI (its.map Value.ref)) (hTO : TupO s.heap TO olds) (lo : olds.length = its.length) (hi : ItsJ s.heap its ls i 0) (lx : xs.length = its.length)
    (hx : ∀ (j : Nat) (l : Addr) (x : Value), ls[j]? = some l → xs[j]? = some x → ∃ items, s.heap.IsTuple l items ∧ items[i]? = some x)
    (hQ : ∀ h' g0 g1 olds', ZR h' z TI TO g0 g1 → Fld0 g0 → TupO h' TI (its.map Value.ref) → TupO h' TO olds' → olds'.length = its.length → ItsJ h' its ls (i + 1) 0 → TupO h' s.heap.objs.size xs → h'.objs.size = s.heap.objs.size + 1 →
      (∀ c o, c ∉ z :: TI :: TO :: its → s.heap.get? c = some o → h'.get? c = some o) → Q (.ref s.heap.objs.size) { s with heap := h' }) :
    wpAny (model prog w) A (Builtin.«zip.__next__» ⟨[.ref z], []⟩) (fun fin s' => ∃ v, fin = .done (.ret v) ∧ Q v s') E s := by
  show wpAny _ _ (field (.ref z) 2 >>= _) _ _ _
  refine wpAny_bind (wpAny_field hz rfl (x := .bool false) rfl ?_)
  show wpAny _ _ (field (.ref z) 3 >>= _) _ _ _
  refine wpAny_bind (wpAny_field hz rfl (x := .ref TI) rfl ?_)
  refine wpAny_bind (wpAny_seqItems hTI rfl ?_)
  have emp : ((its.map Value.ref).toArray).isEmpty = false := by
    cases its with
    | nil => exact absurd rfl ne
    | cons a r => simp
  simp only [emp, Bool.false_eq_true, if_false]
  have nd : (z ≠ TI ∧ z ≠ TO ∧ z ∉ its) ∧ (TI ≠ TO ∧ TI ∉ its) ∧ TO ∉ its ∧ its.Nodup := by simpa [not_or] using ap
  refine wpAny_bind (free_or_held hz hf ?_ fun h1 hz1 sb1 => ?_)
  · simp only [if_true]
    refine wpAny_bind (wpAny_rule ?_)
    refine wpAny_bind (wpAny_field hz rfl (x := .ref TO) rfl ?_)
    refine wpAny_bind (wpAny_setField_rec hz (by simp) fun h1 hz1 sb1 => ?_)
    replace hz1 : ZR h1 z TI TO .ellipsis f1 := hz1
    refine wpAny_bind (wpAny_mono (forIn_wp (its.map Value.ref).zipIdx (fun _ => (none, ())) (fun j s' => ∃ h, s' = { s with heap := h } ∧ h.objs.size = s.heap.objs.size ∧ ZR h z TI TO .ellipsis f1 ∧ TupO h TI (its.map Value.ref) ∧
      TupO h TO (xs.take j ++ olds.drop j) ∧ ItsJ h its ls i j ∧ ∀ c o, c ∉ z :: TI :: TO :: its → s.heap.get? c = some o → h.get? c = some o) _ ?_ ?_) ?_ fun _ _ e => e)
    · rintro j ⟨v, k⟩ s2 hj ⟨h, rfl, sz, hz2, hTI2, hTO2, hi2, kp⟩
      obtain ⟨it, e1, rfl, rfl⟩ : ∃ it, its[j]? = some it ∧ v = .ref it ∧ k = j := by
        rw [List.getElem?_zipIdx, List.getElem?_map] at hj
        cases q : its[j]? with
        | none => rw [q] at hj; cases hj
        | some it =>
          rw [q] at hj
          simp at hj
          exact ⟨it, rfl, hj.1.symm, hj.2.symm⟩
      have lt : k < its.length := (List.getElem?_eq_some_iff.mp e1).1
      have e2 : ls[k]? = some ls[k] := List.getElem?_eq_getElem (by omega)
      have e3 : xs[k]? = some xs[k] := List.getElem?_eq_getElem (by omega)
      obtain ⟨items, hl, hx2⟩ := hx k _ _ e2 e3
      have ml := al _ (List.mem_of_getElem? e2)
      have mi := List.mem_of_getElem? e1
      have it0 := hi2 k it _ e1 e2
      rw [if_neg (Nat.lt_irrefl _)] at it0
      have nTO : TO ≠ it := fun q => nd.2.2.1 (by rw [q]; exact mi)
      have nTI : TI ≠ it := fun q => nd.2.1.2 (by rw [q]; exact mi)
      have nz : z ≠ it := fun q => nd.1.2.2 (by rw [q]; exact mi)
      refine wpAny_bind (wpAny_onRaise ?_)
      show wpAny _ _ (Builtin.SmallTypes.nextOf (.ref it) >>= _) _ _ _
      refine wpAny_bind (RZ.nextOf_tuple_item (s := { s with heap := h }) it0 (hl.at fun o q => kp _ o ml q) hx2 fun h3 it3 sb3 => wpAny_pure ?_)
      have hTO3 : TupO h3 TO (xs.take k ++ olds.drop k) := (sb3.2 _ nTO).trans hTO2
      refine wpAny_bind (wpAny_seqItems hTO3 rfl ?_)
      have lz : (xs.take k ++ olds.drop k).length ≤ 100 := by rw [List.length_append, List.length_take, List.length_drop]; omega
      refine wpAny_bind (wpAny_updateSeq hTO3 rfl ?_ (by rw [List.size_toArray]; exact Nat.le_trans lz (by decide)) (by rw [Array.size_setIfInBounds, List.size_toArray]; exact Nat.le_trans lz (by decide)))
      refine wpAny_bind (wpAny_letGo (wpAny_pure ⟨rfl, _, rfl, ?_, ?_, ?_, ?_, ?_, ?_⟩))
      · rw [(Heap.SameBut.update ..).1, sb3.1, sz]
      · exact ((Heap.SameBut.update ..).2 _ nd.1.2.1).trans ((sb3.2 _ nz).trans hz2)
      · exact ((Heap.SameBut.update ..).2 _ nd.2.1.1).trans ((sb3.2 _ nTI).trans hTI2)
      · show (Heap.update _ TO _).get? TO = _
        rw [Heap.get?_update_self _ hTO3 rfl]
        simp only [Obj.mapSeq]
        rw [← take_set e3 (by omega), ← List.setIfInBounds_toArray]
        rw [if_pos (by simp)]
      · refine hi2.next nd.2.2.2 e1 e2 (fun b hb nb o q => ?_) (it3.at fun o q => ((Heap.SameBut.update ..).2 _ (Ne.symm nTO)).trans q)
        exact ((Heap.SameBut.update ..).2 _ (fun q => nd.2.2.1 (by rw [← q]; exact hb))).trans ((sb3.2 _ nb).trans q)
      · intro c o hc q
        simp only [List.mem_cons, not_or] at hc
        exact ((Heap.SameBut.update ..).2 _ hc.2.2.1).trans ((sb3.2 _ (fun y => hc.2.2.2 (by rw [y]; exact mi))).trans (kp c o (by simp only [List.mem_cons, not_or]; exact hc) q))
    · refine ⟨h1, rfl, sb1.1, hz1, (sb1.2 _ (Ne.symm nd.1.1)).trans hTI, (sb1.2 _ (Ne.symm nd.1.2.1)).trans hTO, fun m it l f1 f2 => ?_, fun c o hc q => ?_⟩
      · exact (hi m it l f1 f2).at fun o q => (sb1.2 _ (fun y => nd.1.2.2 (by rw [← y]; exact List.mem_of_getElem? f1))).trans q
      · simp only [List.mem_cons, not_or] at hc
        exact (sb1.2 _ hc.1).trans q
    · rintro t s2 ⟨rfl, h, rfl, sz, hz2, hTI2, hTO2, hi2, kp⟩
      have ez : (its.map Value.ref).zipIdx.length = its.length := by simp
      rw [ez] at hTO2 hi2
      rw [← lx, List.take_length, lx, ← lo, List.drop_length, List.append_nil] at hTO2
      dsimp only
      refine wpAny_bind (wpAny_seqItems hTO2 rfl ?_)
      have lxz : xs.length ≤ sizeLine := Nat.le_trans (show xs.length ≤ 100 by omega) (by decide)
      show wpAny _ _ (newTuple xs.toArray.toList >>= _) _ _ _
      rw [show xs.toArray.toList = xs by simp]
      refine wpAny_bind (wpAny_newTuple ?_ lxz)
      have zlt : z < h.objs.size := Heap.lt_size hz2
      have hz3 : ZR (h.push { cls := .type "tuple", data := .seq xs.toArray }) z TI TO .ellipsis f1 := Heap.get?_push_of_some _ hz2
      refine wpAny_bind ?_
      show wpAny _ _ (Builtin.SmallTypes.ownedTupleHandOut (.ref z) (.ref h.objs.size)) _ _ _
      unfold Builtin.SmallTypes.ownedTupleHandOut
      refine wpAny_bind (wpAny_setField_rec hz3 (by simp) fun h4 hz4 sb4 => ?_)
      replace hz4 : ZR h4 z TI TO (rawInt h.objs.size) f1 := hz4
      refine wpAny_setField_rec hz4 (by simp) fun h5 hz5 sb5 => ?_
      replace hz5 : ZR h5 z TI TO (rawInt h.objs.size) false := hz5
      have up : ∀ c o, c ≠ z → h.get? c = some o → h5.get? c = some o := fun c o n e => (sb5.2 _ n).trans ((sb4.2 _ n).trans (Heap.get?_push_of_some _ e))
      have hT5 : TupO h5 h.objs.size xs := (sb5.2 _ (Nat.ne_of_gt zlt)).trans ((sb4.2 _ (Nat.ne_of_gt zlt)).trans (Heap.get?_push_size _ rfl))
      have s5 : h5.objs.size = h.objs.size + 1 := by rw [sb5.1, sb4.1, Heap.size_push]
      refine wpAny_pure ⟨_, rfl, ?_⟩
      rw [sz] at hT5 s5 ⊢
      refine hQ h5 _ _ xs hz5 (.inr ⟨_, rfl⟩) (up _ _ (Ne.symm nd.1.1) hTI2) (up _ _ (Ne.symm nd.1.2.1) hTO2) lx ?_ hT5 s5 fun c o hc q => up c o (fun y => hc (by rw [y]; exact List.mem_cons_self)) (kp c o hc q)
      intro m it l g1 g2
      exact (hi2.start (Nat.le_refl _) m it l g1 g2).at fun o q => up it o (fun y => nd.1.2.2 (by rw [← y]; exact List.mem_of_getElem? g1)) q
  · simp only [Bool.false_eq_true, if_false]
    refine wpAny_bind ?_
    rw [← Array.forIn_toList]
    show wpAny _ _ (forIn (its.map Value.ref) _ _) _ _ _
    refine wpAny_mono (forIn_wp (its.map Value.ref) (fun j => (none, (xs.take j).toArray)) (fun j s' => ∃ h, s' = { s with heap := h } ∧ h.objs.size = s.heap.objs.size ∧ ZR h z TI TO f0 true ∧ TupO h TI (its.map Value.ref) ∧
      TupO h TO olds ∧ ItsJ h its ls i j ∧ ∀ c o, c ∉ z :: TI :: TO :: its → s.heap.get? c = some o → h.get? c = some o) _ ?_ ?_) ?_ fun _ _ e => e
    · rintro k v s2 hj ⟨h, rfl, sz, hz2, hTI2, hTO2, hi2, kp⟩
      obtain ⟨it, e1, rfl⟩ : ∃ it, its[k]? = some it ∧ v = .ref it := by
        rw [List.getElem?_map] at hj
        cases q : its[k]? with
        | none => rw [q] at hj; cases hj
        | some it =>
          rw [q] at hj
          exact ⟨it, rfl, (Option.some.inj hj).symm⟩
      have lt : k < its.length := (List.getElem?_eq_some_iff.mp e1).1
      have e2 : ls[k]? = some ls[k] := List.getElem?_eq_getElem (by omega)
      have e3 : xs[k]? = some xs[k] := List.getElem?_eq_getElem (by omega)
      obtain ⟨items, hl, hx2⟩ := hx k _ _ e2 e3
      have ml := al _ (List.mem_of_getElem? e2)
      have mi := List.mem_of_getElem? e1
      have it0 := hi2 k it _ e1 e2
      rw [if_neg (Nat.lt_irrefl _)] at it0
      refine wpAny_bind (wpAny_holding ?_)
      show wpAny _ _ (Builtin.SmallTypes.nextOf (.ref it) >>= _) _ _ _
      refine wpAny_bind (RZ.nextOf_tuple_item (s := { s with heap := h }) it0 (hl.at fun o q => kp _ o ml q) hx2 fun h3 it3 sb3 => wpAny_pure ?_)
      refine wpAny_pure ⟨?_, h3, rfl, sb3.1.trans sz, (sb3.2 _ (fun q => nd.1.2.2 (by rw [q]; exact mi))).trans hz2, (sb3.2 _ (fun q => nd.2.1.2 (by rw [q]; exact mi))).trans hTI2,
        (sb3.2 _ (fun q => nd.2.2.1 (by rw [q]; exact mi))).trans hTO2, hi2.next nd.2.2.2 e1 e2 (fun b hb nb o q => (sb3.2 _ nb).trans q) it3, fun c o hc q => ?_⟩
      · show ForInStep.yield (none, ((xs.take k).toArray).push xs[k]) = _
        rw [List.take_add_one, e3]
        simp
      · exact (sb3.2 _ (fun y => hc (by rw [y]; simp [mi]))).trans (kp c o hc q)
    · refine ⟨h1, rfl, sb1.1, hz1, (sb1.2 _ (Ne.symm nd.1.1)).trans hTI, (sb1.2 _ (Ne.symm nd.1.2.1)).trans hTO, fun m it l f1 f2 => ?_, fun c o hc q => ?_⟩
      · exact (hi m it l f1 f2).at fun o q => (sb1.2 _ (fun y => nd.1.2.2 (by rw [← y]; exact List.mem_of_getElem? f1))).trans q
      · simp only [List.mem_cons, not_or] at hc
        exact (sb1.2 _ hc.1).trans q
    · rintro t s2 ⟨rfl, h, rfl, sz, hz2, hTI2, hTO2, hi2, kp⟩
      rw [List.length_map] at hi2
      have lxz : xs.length ≤ sizeLine := Nat.le_trans (show xs.length ≤ 100 by omega) (by decide)
      dsimp only
      have ex : xs.take (its.map Value.ref).length = xs := by rw [List.length_map, ← lx, List.take_length]
      rw [ex]
      refine wpAny_bind (wpAny_newTuple ?_ lxz)
      refine wpAny_pure ⟨_, rfl, ?_⟩
      show Q (.ref h.objs.size) _
      have s5 : (h.push { cls := .type "tuple", data := .seq xs.toArray }).objs.size = h.objs.size + 1 := Heap.size_push _ _
      have hT5 : TupO (h.push { cls := .type "tuple", data := .seq xs.toArray }) h.objs.size xs := Heap.get?_push_size _ rfl
      rw [sz] at s5 hT5 ⊢
      refine hQ _ _ _ olds (Heap.get?_push_of_some _ hz2) hf (Heap.get?_push_of_some _ hTI2) (Heap.get?_push_of_some _ hTO2) lo ?_ hT5 s5 fun c o hc q => Heap.get?_push_of_some _ (kp c o hc q)
      intro m it l g1 g2
      exact (hi2.start (Nat.le_refl _) m it l g1 g2).at fun o q => Heap.get?_push_of_some _ q
theorem zipN_end {f0 : Value} {f1 : Bool} {i : Nat} {it0 l0 : Addr} {itr : List Addr} {items : Array Value} {Q : Fin → Shared → Prop} (hh : A.handled = none) (ap : (z :: TI :: TO :: (it0 :: itr)).Nodup) (al : l0 ∉ z :: TI :: TO :: (it0 :: itr))
    (hz : ZR s.heap z TI TO f0 f1) (hf : Fld0 f0) (hTI : TupO s.heap TI ((it0 :: itr).map Value.ref)) (hi : s.heap.IsTupleIter it0 l0 i) (hl : s.heap.IsTuple l0 items) (he : items[i]? = none)
    (hE : ∀ h' e, (∀ c o, c ∉ z :: TI :: TO :: (it0 :: itr) → s.heap.get? c = some o → h'.get? c = some o) → (∃ o, h'.get? e = some o ∧ o.cls = .type "StopIteration") → E (.ref e) { s with heap := h' }) :
    wpAny (model prog w) A (Builtin.«zip.__next__» ⟨[.ref z], []⟩) Q E s := by
  have nd : z ≠ it0 := fun q => by
    rw [q] at ap
    simp at ap
  have ml : l0 ≠ z := fun q => al (by rw [q]; exact List.mem_cons_self)
  show wpAny _ _ (field (.ref z) 2 >>= _) _ _ _
  refine wpAny_bind (wpAny_field hz rfl (x := .bool false) rfl ?_)
  show wpAny _ _ (field (.ref z) 3 >>= _) _ _ _
  refine wpAny_bind (wpAny_field hz rfl (x := .ref TI) rfl ?_)
  refine wpAny_bind (wpAny_seqItems hTI rfl ?_)
  have emp : (((it0 :: itr).map Value.ref).toArray).isEmpty = false := by simp
  simp only [emp, Bool.false_eq_true, if_false]
  refine wpAny_bind (free_or_held hz hf ?_ fun h1 hz1 sb1 => ?_)
  · simp only [if_true]
    refine wpAny_bind (wpAny_rule ?_)
    refine wpAny_bind (wpAny_field hz rfl (x := .ref TO) rfl ?_)
    refine wpAny_bind (wpAny_setField_rec hz (by simp) fun h1 hz1 sb1 => ?_)
    replace hz1 : ZR h1 z TI TO .ellipsis f1 := hz1
    refine wpAny_bind ?_
    simp only [List.map_cons, List.zipIdx_cons, List.forIn_cons]
    refine wpAny_bind (wpAny_bind (wpAny_onRaise ?_))
    show wpAny _ _ (Builtin.SmallTypes.nextOf (.ref it0) >>= _) _ _ _
    refine wpAny_bind (RZ.nextOf_tuple_end (s := { s with heap := h1 }) hh (hi.at fun o q => (sb1.2 _ (Ne.symm nd)).trans q) (hl.at fun o q => (sb1.2 _ ml).trans q) he fun h2 e k2 ⟨oe, ho, hc⟩ => ?_)
    have hz2 : ZR h2 z TI TO .ellipsis f1 := k2 _ _ nd hz1
    have ez : e ≠ z := fun x => by
      subst x
      rw [hz2] at ho
      cases ho
      simp at hc
    refine wpAny_setField_rec hz2 (by simp) fun h3 _ sb3 => hE h3 e (fun c o hc q => ?_) ⟨oe, (sb3.2 _ ez).trans ho, hc⟩
    simp only [List.mem_cons, not_or] at hc
    exact (sb3.2 _ hc.1).trans (k2 _ _ hc.2.2.2.1 ((sb1.2 _ hc.1).trans q))
  · simp only [Bool.false_eq_true, if_false]
    refine wpAny_bind ?_
    rw [← Array.forIn_toList]
    simp only [List.map_cons, List.forIn_cons]
    refine wpAny_bind (wpAny_bind (wpAny_holding ?_))
    show wpAny _ _ (Builtin.SmallTypes.nextOf (.ref it0) >>= _) _ _ _
    refine wpAny_bind (RZ.nextOf_tuple_end (s := { s with heap := h1 }) hh (hi.at fun o q => (sb1.2 _ (Ne.symm nd)).trans q) (hl.at fun o q => (sb1.2 _ ml).trans q) he fun h2 e k2 ho => hE h2 e (fun c o hc q => ?_) ho)
    simp only [List.mem_cons, not_or] at hc
    exact k2 _ _ hc.2.2.2.1 ((sb1.2 _ hc.1).trans q)
end
/-- the tuples at ls side by side, the items in new tuples -/
def ItzN (K : PySem.W.Frag) (ls : List Addr) : It :=
  ⟨fun i H => ∀ a ∈ ls, ∃ xs x, SqT K H a xs ∧ xs[i]? = some x,
    fun i H v H' => ∃ (T : Addr) (vs : List V), v = .ref T ∧ H T = none ∧ H' = upd H T (.tup vs) ∧ vs.length = ls.length ∧ ∀ (j : Nat) (a : Addr) (xs : List V), ls[j]? = some a → SqT K H a xs → xs[i]? = vs[j]?,
    fun i H => ∃ a r xs, ls = a :: r ∧ SqT K H a xs ∧ xs.length ≤ i⟩
/-- what stands in each of them at i -/
theorem cols {X : Cx} {pins : List (Addr × Obj)} {σ : L2.St} {H : Hp} {s : Shared} {i : Nat} (I : Inv X pins σ H s) : ∀ {ls : List Addr}, (∀ a ∈ ls, ∃ xs x, SqT X.K H a xs ∧ xs[i]? = some x) →
    ∃ (vs : List V) (us : List Value), Vals vs us ∧ vs.length = ls.length ∧ us.length = ls.length ∧ (∀ (j : Nat) (a : Addr) (xs : List V), ls[j]? = some a → SqT X.K H a xs → xs[i]? = vs[j]?) ∧
      ∀ (j : Nat) (l : Addr) (x : Value), ls[j]? = some l → us[j]? = some x → ∃ items, s.heap.IsTuple l items ∧ items[i]? = some x
  | [], _ => ⟨[], [], .nil, rfl, rfl, fun j a xs e => by simp at e, fun j l x e => by simp at e⟩
  | a :: r, h => by
    obtain ⟨vs, us, rv, l1, l2, k1, k2⟩ := cols I (ls := r) fun b hb => h b (List.mem_cons_of_mem _ hb)
    obtain ⟨xs, x, sq, hx⟩ := h a List.mem_cons_self
    obtain ⟨its, rv2, tp, _⟩ := I.tuple sq
    obtain ⟨u, hu, ru⟩ := rv2.get hx
    refine ⟨x :: vs, u :: us, .cons ru rv, by simp [l1], by simp [l2], fun j b ys e q => ?_, fun j b y e q => ?_⟩
    · cases j with
      | zero =>
        obtain rfl : a = b := Option.some.inj e
        rw [I.tuple_inj q sq]
        exact hx
      | succ j => exact k1 j b ys e q
    · cases j with
      | zero =>
        obtain rfl : a = b := Option.some.inj e
        obtain rfl : u = y := Option.some.inj q
        exact ⟨_, tp, by simpa using hu⟩
      | succ j => exact k2 j b y e q
theorem turn_zipN {P : Program} {w : World} {K : PySem.W.Frag} {x : Str} {tpos : Pos} {z TI TO : Addr} {its ls : List Addr} (ap : (z :: TI :: TO :: its).Nodup) (al : ∀ l ∈ ls, l ∉ z :: TI :: TO :: its) (ne : its ≠ []) (few : its.length ≤ 100) (ll : its.length = ls.length) :
    Turn P w K (.Name x tpos) (ItzN K ls) (z :: TI :: TO :: its) z (fun i h => ∃ f0 f1 olds, ZR h z TI TO f0 f1 ∧ Fld0 f0 ∧ TupO h TI (its.map Value.ref) ∧ TupO h TO olds ∧ olds.length = its.length ∧ ItsJ h its ls i 0) where
  mem := List.mem_cons_self
  obj := fun i h ⟨f0, f1, olds, hz, hf, hTI, hTO, lo, hi⟩ c hc => by
    rcases List.mem_cons.mp hc with rfl | hc
    · exact ⟨_, hz, fun v q => nomatch q⟩
    rcases List.mem_cons.mp hc with rfl | hc
    · exact ⟨_, hTI, fun v q => nomatch q⟩
    rcases List.mem_cons.mp hc with rfl | hc
    · exact ⟨_, hTO, fun v q => nomatch q⟩
    · obtain ⟨m, lt, e⟩ := List.getElem_of_mem hc
      obtain ⟨o, e1, _, d1⟩ := hi m c ls[m] (by rw [← e]; exact List.getElem?_eq_getElem lt) (List.getElem?_eq_getElem (by omega))
      exact ⟨o, e1, fun v q => by rw [d1] at q; cases q⟩
  keep := fun i h h' ⟨f0, f1, olds, hz, hf, hTI, hTO, lo, hi⟩ k => by
    refine ⟨f0, f1, olds, k z (by simp) _ hz, hf, k TI (by simp) _ hTI, k TO (by simp) _ hTO, lo, fun m it l e1 e2 => ?_⟩
    exact (hi m it l e1 e2).at fun o q => k it (by simp [List.mem_of_getElem? e1]) o q
  item := by
    rintro X hP hw hK hc i pins s σ H E I hfp ⟨f0, f1, olds, hz, hf, hTI, hTO, lo, hi⟩ hg
    subst hP hw hK
    obtain ⟨vs, us, rv, l1, l2, k1, k2⟩ := cols I hg
    have hT : s.TypeIs (.ref z) "zip" := ⟨_, hz, rfl⟩
    unfold pyNext
    refine wpAny_bind (wpAny_attempt (wpAny_callSpecial?_slot (name := Str.ofString "__next__") hT F.slot_zip_next (wpAny_call_entry F.slot_zip_next hT F.entry_zip_next
      (zipN_item (xs := us) ap al ne few ll hz hf hTI hTO lo hi (by omega) k2 fun h' g0 g1 olds' a1 a2 a3 a4 a5 a6 a7 a8 a9 => wpAny_pure ?_) (F.args_zip_next_1 _))))
    refine ⟨_, rfl, ?_⟩
    show wpAny _ _ (pure ()) _ _ _
    refine wpAny_pure ?_
    have new : ObjOk X.prog X.w (upd H s.heap.objs.size (.tup vs)) h' s.heap.objs.size (.tup vs) := ⟨by exact Nat.le_trans (show vs.length ≤ 100 by omega) (by decide), us, rv, ⟨_, a7, rfl, _, rfl⟩⟩
    have I1 : Inv X pins σ (upd H s.heap.objs.size (.tup vs)) { s with heap := h' } := I.turnedNew (t' := s.toks) (ch := z :: TI :: TO :: its) (fun c o hb q => a9 c o hb q) hfp (Nat.le_refl _) new
    refine ⟨.ref s.heap.objs.size, _, I1, rfl, ⟨_, vs, rfl, I.hok.fresh (Nat.le_refl _), rfl, l1, k1⟩, ⟨g0, g1, olds', a1, a2, a3, a4, a5, a6⟩, fun c hcm => ?_⟩
    have hlt : c < s.heap.objs.size := by
      rcases List.mem_cons.mp hcm with rfl | hc
      · exact Heap.lt_size hz
      rcases List.mem_cons.mp hc with rfl | hc
      · exact Heap.lt_size hTI
      rcases List.mem_cons.mp hc with rfl | hc
      · exact Heap.lt_size hTO
      · obtain ⟨m, lt, e⟩ := List.getElem_of_mem hc
        obtain ⟨o, e1, _, d1⟩ := hi m c ls[m] (by rw [← e]; exact List.getElem?_eq_getElem lt) (List.getElem?_eq_getElem (by omega))
        exact Heap.lt_size e1
    rw [upd_ne (Nat.ne_of_lt hlt)]
    exact (hfp c hcm).1
  done := by
    rintro X hP hw hK hc i pins s σ H E I hfp ⟨f0, f1, olds, hz, hf, hTI, hTO, lo, hi⟩ ⟨a, r, xs, rfl, sq, le⟩
    subst hP hw hK
    obtain ⟨itl, rv, tp, _⟩ := I.tuple sq
    have l1 := rv.length
    cases its with
    | nil => exact absurd rfl ne
    | cons it0 itr =>
      have hT : s.TypeIs (.ref z) "zip" := ⟨_, hz, rfl⟩
      have i0 : s.heap.IsTupleIter it0 a i := hi 0 it0 a rfl rfl
      unfold pyNext
      refine wpAny_bind (wpAny_attempt (wpAny_callSpecial?_slot (name := Str.ofString "__next__") hT F.slot_zip_next (wpAny_call_entry F.slot_zip_next hT F.entry_zip_next
        (zipN_end (I.ok.hd hc) ap (al a List.mem_cons_self) hz hf hTI i0 tp (by simp; omega) fun h' e hk he => ?_) (F.args_zip_next_1 _))))
      obtain ⟨o, ho, hc2⟩ := he
      refine wpAny_bind (wpAny_isInstance (T := "StopIteration") (b := true) ⟨o, ho, hc2⟩ isSubtype_stop ?_)
      exact wpAny_pure ⟨rfl, I.turnedL (t' := s.toks) (ch := z :: TI :: TO :: (it0 :: itr)) (fun c o hb q => hk c o hb q) hfp⟩
  self := fun A i s Q E ⟨f0, f1, olds, hz, _⟩ h => by
    have hT : s.TypeIs (.ref z) "zip" := ⟨_, hz, rfl⟩
    refine wpAny_pyIter_slot hT F.slot_zip_iter (wpAny_call_entry F.slot_zip_iter hT F.entry_zip_iter ?_ (F.args_zip_iter_1 _))
    show wpAny _ _ (ret (.ref z)) _ _ s
    exact wpAny_pure ⟨_, rfl, "zip", _, hT, F.slot_zip_next.lookup, h⟩
def itA (n : Nat) : List Addr → List Addr
  | [] => []
  | _ :: r => n :: itA (n + 1) r
theorem itA_map : ∀ {ls : List Addr} {n : Nat}, (itA n ls).map Value.ref = itV n ls
  | [], _ => rfl
  | l :: r, n => by
    show Value.ref n :: (itA (n + 1) r).map Value.ref = Value.ref n :: itV (n + 1) r
    rw [itA_map]
theorem itA_len {ls : List Addr} {n : Nat} : (itA n ls).length = ls.length := by rw [← List.length_map (f := Value.ref), itA_map, itV_len]
theorem itA_mem : ∀ {ls : List Addr} {n b : Nat}, b ∈ itA n ls → n ≤ b ∧ b < n + ls.length
  | l :: r, n, b, h => by
    rcases List.mem_cons.mp h with rfl | h
    · simp
    · have z := itA_mem (ls := r) h
      simp only [List.length_cons]
      omega
theorem itA_nodup : ∀ {ls : List Addr} {n : Nat}, (itA n ls).Nodup
  | [], _ => List.nodup_nil
  | l :: r, n => by
    refine List.nodup_cons.mpr ⟨fun h => ?_, itA_nodup⟩
    have z := itA_mem (ls := r) h
    omega
theorem itA_at {ls : List Addr} {n j it : Nat} (h : (itA n ls)[j]? = some it) : it = n + j ∧ j < ls.length := by
  have lt := (List.getElem?_eq_some_iff.mp h).1
  rw [itA_len] at lt
  have e := itV_at (ls := ls) (n := n) lt
  rw [← itA_map, List.getElem?_map, h] at e
  exact ⟨Value.ref.inj (Option.some.inj e), lt⟩
theorem vals_refs : ∀ {ls : List Addr} {us : List Value}, Vals (ls.map V.ref) us → us = ls.map Value.ref
  | [], _, .nil => rfl
  | l :: r, _, .cons h t => by
    rw [vals_refs t]
    exact congrArg (· :: r.map Value.ref) (show _ = Value.ref l from h)
def iZipS (K : PySem.W.Frag) (te : TE) : TI := fun σ H R => te σ H fun y H1 => ∃ (p : Addr) (ls : List Addr), y = .ref p ∧ (SqT K H1 p (ls.map V.ref) ∨ SqL K H1 p (ls.map V.ref)) ∧ 2 ≤ ls.length ∧ ls.length ≤ 4 ∧ (∀ a ∈ ls, ∃ xs, SqT K H1 a xs) ∧ R (ItzN K ls) H1
theorem pi_zipS {X : Cx} {e : Expr} {te : TE} {x : Str} {p pos tpos sps : Pos} (hg : Gl X "zip") (hm : X.mg "zip" = none) (he : PE X e te) (hst : starEach [.Starred e sps] X.env = [(true, eval e X.env)] := by rfl) :
    PI X (.Name x tpos) (.Call (.Name "zip" p) [.Starred e sps] [] pos) (iZipS X.K te) := by
  refine ⟨fun pins s σ H R I h => ?_⟩
  refine Call_ (ld_blt I hg hm PyProof.Rows.boot_zip ?_)
  show wpAny _ _ (callWith pos (.type "zip") [] (backTo pos (starEach [.Starred e sps] X.env)) []) _ _ _
  rw [hst]
  refine PySem.W.ks_call (P := fun _ => True) rfl (fun _ _ => ⟨.machine, .inr (.inl rfl), PySem.W.Looks.of_pure rfl⟩) (PySem.W.ks_lone ?_)
  refine thn (he.run pins s σ H _ I h) fun v s1 ⟨y, H1, I1, ry, a, ls, ey, hxs, l2, l4, ht, q⟩ => ?_
  subst ey
  obtain rfl : v = Value.ref a := ry
  refine StX.star_any I1 hxs fun us s2 I2 rv => ⟨trivial, ?_⟩
  obtain rfl := vals_refs rv
  have tt : ∀ l ∈ ls, ∃ xs, s2.heap.IsTuple l xs := fun l hl => by
    obtain ⟨xs, sq⟩ := ht l hl
    obtain ⟨its, _, tp, _⟩ := I2.tuple sq
    exact ⟨_, tp⟩
  refine call_zipN l2 l4 tt ?_
  have z0 : (itH s2.heap ls).objs.size = s2.heap.objs.size + ls.length := itH_size
  have z3 : (zN3 s2.heap ls).objs.size = s2.heap.objs.size + ls.length + 1 := by rw [Heap.size_push, z0]
  have z4 : (zN4 s2.heap ls).objs.size = s2.heap.objs.size + ls.length + 2 := by rw [Heap.size_push, z3]
  have g5 : (zN5 s2.heap ls).get? (zN4 s2.heap ls).objs.size = some _ := Heap.get?_push_size _ rfl
  have g4 : (zN5 s2.heap ls).get? (zN3 s2.heap ls).objs.size = some _ := Heap.get?_push_of_some _ (Heap.get?_push_size _ rfl)
  have g3 : (zN5 s2.heap ls).get? (itH s2.heap ls).objs.size = some _ := Heap.get?_push_of_some _ (Heap.get?_push_of_some _ (Heap.get?_push_size _ rfl))
  have kp : ∀ b o, s2.heap.get? b = some o → (zN5 s2.heap ls).get? b = some o := fun b o e => Heap.get?_push_of_some _ (Heap.get?_push_of_some _ (Heap.get?_push_of_some _ (itH_keep e)))
  have I3 : Inv X pins σ H1 { s2 with heap := zN5 s2.heap ls } := I2.kept (t' := s2.toks) kp
  have ap : ((zN4 s2.heap ls).objs.size :: (itH s2.heap ls).objs.size :: (zN3 s2.heap ls).objs.size :: itA s2.heap.objs.size ls).Nodup := by
    rw [z4, z0, z3]
    refine List.nodup_cons.mpr ⟨fun h => ?_, List.nodup_cons.mpr ⟨fun h => ?_, List.nodup_cons.mpr ⟨fun h => ?_, itA_nodup⟩⟩⟩
    · rcases List.mem_cons.mp h with h | h
      · omega
      rcases List.mem_cons.mp h with h | h
      · omega
      · have := itA_mem h
        omega
    · rcases List.mem_cons.mp h with h | h
      · omega
      · have := itA_mem h
        omega
    · have := itA_mem h
      omega
  have ge : ∀ b ∈ (zN4 s2.heap ls).objs.size :: (itH s2.heap ls).objs.size :: (zN3 s2.heap ls).objs.size :: itA s2.heap.objs.size ls, s2.heap.objs.size ≤ b := by
    rw [z4, z0, z3]
    intro b hb
    rcases List.mem_cons.mp hb with h | h
    · omega
    rcases List.mem_cons.mp h with h | h
    · omega
    rcases List.mem_cons.mp h with h | h
    · omega
    · exact (itA_mem h).1
  have st : ∃ f0 f1 olds, ZR (zN5 s2.heap ls) (zN4 s2.heap ls).objs.size (itH s2.heap ls).objs.size (zN3 s2.heap ls).objs.size f0 f1 ∧ Fld0 f0 ∧ TupO (zN5 s2.heap ls) (itH s2.heap ls).objs.size ((itA s2.heap.objs.size ls).map Value.ref) ∧
      TupO (zN5 s2.heap ls) (zN3 s2.heap ls).objs.size olds ∧ olds.length = (itA s2.heap.objs.size ls).length ∧ ItsJ (zN5 s2.heap ls) (itA s2.heap.objs.size ls) ls 0 0 := by
    refine ⟨.none, false, _, g5, .inl rfl, by rw [itA_map]; exact g3, g4, by rw [List.length_map, itV_len, itA_len], fun m it l e1 e2 => ?_⟩
    obtain ⟨rfl, _⟩ := itA_at e1
    exact ⟨_, Heap.get?_push_of_some _ (Heap.get?_push_of_some _ (Heap.get?_push_of_some _ (itH_at e2))), rfl, rfl⟩
  have T : Turn X.prog X.w X.K (.Name x tpos) (ItzN X.K ls) _ _ _ := turn_zipN (its := itA s2.heap.objs.size ls) (ls := ls) ap (fun l hl hm => by
    obtain ⟨xs, o, e, _⟩ := tt l hl
    exact absurd (Nat.lt_of_lt_of_le (Heap.lt_size e) (ge l hm)) (Nat.lt_irrefl _)) (fun z => by
    have := itA_len (ls := ls) (n := s2.heap.objs.size)
    rw [z] at this
    simp at this
    omega) (by rw [itA_len]; omega) itA_len
  exact T.self X.A 0 _ _ _ st ⟨_, _, _, _, H1, rfl, I3, T, st, fun b hb => I2.fpOk (ge b hb) (I2.hok.fresh (ge b hb)), q⟩
def rSumT (K : PySem.W.Frag) : List V → Hp → VK → Prop := fun vs H Q => ∃ (a : Addr) (ns : List Int), vs = [V.ref a] ∧ SqT K H a (ns.map V.int) ∧ Q (.int ns.sum) H

/-- a comprehension within a comprehension -/
theorem blkOk_in {N : List Str} {scO scope : Scope} {cl : List (Str × Addr)} {C : Addr} {env : Env} {own : List (Str × Nat)} (sc : Scope) (he : env.scope = sc) (h : blkC N (relS scO sc) scope own = true) : BlkOk N (compEnvC scO cl C env).scope scope own := by
  subst he
  exact blkOk_by h
def rJoin (K : PySem.W.Frag) : V → List V → Hp → VK → Prop := fun x xs H Q => ∃ (a : Str) (p : Addr) (ys : List Str), x = .str a ∧ xs = [.ref p] ∧ (SqL K H p (ys.map V.str) ∨ SqT K H p (ys.map V.str)) ∧
  (ys.map (·.length)).sum + ys.length * a.length ≤ 16777216 ∧ Q (.str (Txt.join a ys)) H
theorem pe_joinK {X : Cx} {K : PySem.W.Frag} {o e : Expr} {to te : TE} {apos pos : Pos} (ho : PE X o to) (he : PE X e te) (hK : X.K = K := by rfl) (hs : starEach [e] X.env = [(false, eval e X.env)] := by rfl)
    (hbase : attributeBase o "join" X.env (eval o X.env) = eval o X.env := by rfl) (hline : (apos.endLine == pos.line) = true := by rfl) : PE X (.Call (.Attribute o "join" apos) [e] [] pos) (tM1 (rJoin K) to te) := by
  subst hK
  exact pe_join ho he hs hbase hline
theorem pi_tupK {X : Cx} {K : PySem.W.Frag} {tg e : Expr} {te : TE} (he : PE X e te) (hK : X.K = K := by rfl) : PI X tg e (iTup K te) := by
  subst hK
  exact pi_tup he
theorem pi_listK {X : Cx} {K : PySem.W.Frag} {tg e : Expr} {te : TE} (he : PE X e te) (hK : X.K = K := by rfl) : PI X tg e (iList K te) := by
  subst hK
  exact pi_list he
end Pl
namespace Pl
open PySem PySem.Spec PyProof.Rows L2
/-! repr of any data -/


section
variable {X : Cx}







end
end Pl
namespace Pl
open PySem PySem.Spec PyProof.Rows L2 PySem.MeetsSeq PySem.MeetsSeq2 PySem.MeetsSeq3 PySem.SeqAt
section
variable {prog : Program} {w : World} {A : Around} {E : Value → Shared → Prop} {s : Shared}





end

section
variable {X : Cx}

end
end Pl
namespace Pl
open PySem PySem.Spec PyProof.Rows L2 PySem.MeetsSeq PySem.MeetsSeq2 PySem.MeetsSeq3 PySem.SeqAt
/-! blocks of any number of clauses -/
section
variable {elt t i t1 i1 : Expr} {ifs ifs1 : List Expr} {G : List Comprehension} {scope : Scope} {pos : Pos} {it acc : Value} {env : Env} {j : Nat}
theorem turn_mid (h0 : G[j]? = some ⟨t, i, ifs, 0⟩) (h1 : G[j + 1]? = some ⟨t1, i1, ifs1, 0⟩) : compTurn (.ListComp elt G scope pos) j it acc env = (do
    standAt i.pos
    match ← pyNext it with
    | none => pure (.done .next)
    | some v =>
      letOwnedTupleGo t it v
      assign t env v
      let mut ok := true
      for c in ifs do if ok then ok ← isTrue c env (eval c env)
      if ok then
        let x ← eval i1 env
        standAt i1.pos
        let x ← foldedSetIterable i1 env x
        let _ ← runOwn (.compStart (.ListComp elt G scope pos) (j + 1) (← holding [x] (pyIter x)) acc env) env
      again (.compLoop (.ListComp elt G scope pos) j it acc env)) := by
  unfold compTurn
  dsimp only
  rw [h0]
  dsimp only
  rw [h1]
  rfl
theorem turn_last (h0 : G[j]? = some ⟨t, i, ifs, 0⟩) (h1 : G[j + 1]? = none) : compTurn (.ListComp elt G scope pos) j it acc env = (do
    standAt i.pos
    match ← pyNext it with
    | none => pure (.done .next)
    | some v =>
      letOwnedTupleGo t it v
      assign t env v
      let mut ok := true
      for c in ifs do if ok then ok ← isTrue c env (eval c env)
      if ok then (do let _ ← call (.builtin "list.append") [acc, ← eval elt env])
      again (.compLoop (.ListComp elt G scope pos) j it acc env)) := by
  unfold compTurn
  dsimp only
  rw [h0]
  dsimp only
  rw [h1]
  rfl
end
section
variable {prog : Program} {w : World} {A : Around} {R : Result → Shared → Prop} {s : Shared} {elt t i : Expr} {ifs : List Expr} {G : List Comprehension} {scope : Scope} {pos : Pos} {it acc : Value} {env : Env} {j : Nat}
/-- what runs behind a clause's store and tests -/
def Behind (prog : Program) (w : World) (A : Around) (elt : Expr) (G : List Comprehension) (scope : Scope) (pos : Pos) (j : Nat) (acc : Value) (env : Env) (N : Value → Shared → Prop) (post : Shared → Prop) (s : Shared) : Prop :=
  match G[j + 1]? with
  | some g => wpAny (model prog w) A (eval g.iter env) (fun x s5 => wpAny (model prog w) A (pyIter x) (fun it1 s6 => codeAny (model prog w) A (.compStart (.ListComp elt G scope pos) (j + 1) it1 acc env) (fun r s' => match r with | .ok _ => post s' | .error _ => False) s6) N s5) N s
  | none => wpAny (model prog w) A (eval elt env) (fun x s5 => wpAny (model prog w) A (call (.builtin "list.append") [acc, x]) (fun _ s6 => post s6) N s5) N s
theorem loop_any (h0 : G[j]? = some ⟨t, i, ifs, 0⟩) (hb : ∀ g, G[j + 1]? = some g → g.is_async = 0 ∧ ∀ x, foldedSetIterable g.iter env x = pure x) (I : Nat → Shared → Prop)
    (turn : ∀ n s, I n s → wpAny (model prog w) A (pyNext it) (fun r s1 => match r with
      | none => R (.ok .next) s1
      | some v => wpAny (model prog w) A (letOwnedTupleGo t it v) (fun _ s2 => wpAny (model prog w) A (assign t env v) (fun _ s3 => wpAny (model prog w) A (forIn ifs true fun c r => if r = true then do let ok ← isTrue c env (eval c env); pure (ForInStep.yield ok) else pure (ForInStep.yield r)) (fun ok s4 =>
          if ok = true then Behind prog w A elt G scope pos j acc env (notedBy (model prog w) A env fun e s' => R (.error e) s') (fun s' => ∃ m, m < n ∧ I m s') s4 else ∃ m, m < n ∧ I m s4)
          (notedBy (model prog w) A env fun e s' => R (.error e) s') s3) (notedBy (model prog w) A env fun e s' => R (.error e) s') s2) (notedBy (model prog w) A env fun e s' => R (.error e) s') s1) (notedBy (model prog w) A env fun e s' => R (.error e) s') s)
    (n : Nat) (h : I n s) : codeAny (model prog w) A (.compLoop (.ListComp elt G scope pos) j it acc env) R s := by
  refine codeAny_loop rfl I (fun n s hI => ?_) n h; show wpAny _ A ((compTurn (.ListComp elt G scope pos) j it acc env).onRaise (fun x => do noteFrame x env; theTreesLotGoes x)) _ _ s
  refine wpAny_noted ?_
  have T := turn n s hI
  cases h1 : G[j + 1]? with
  | some g =>
    obtain ⟨t1, i1, ifs1, as⟩ := g
    obtain ⟨ha, hs⟩ := hb _ h1
    obtain rfl : as = 0 := ha
    rw [turn_mid h0 h1]
    refine wpAny_bind (wpAny_standAt (wpAny_bind (wpAny_mono T (fun r s1 q1 => ?_) fun _ _ e => e)))
    cases r with
    | none => exact wpAny_pure q1
    | some v =>
      refine wpAny_bind (wpAny_mono q1 (fun _ s2 q2 => wpAny_bind (wpAny_mono q2 (fun _ s3 q3 => wpAny_bind (wpAny_mono q3 (fun ok s4 q4 => ?_) fun _ _ e => e)) fun _ _ e => e)) fun _ _ e => e)
      cases ok with
      | false => exact wpAny_pure ⟨rfl, q4⟩
      | true =>
        have q4 : Behind prog w A elt G scope pos j acc env _ _ s4 := q4
        unfold Behind at q4
        rw [h1] at q4
        refine wpAny_bind (wpAny_mono q4 (fun x s5 q5 => ?_) fun _ _ e => e)
        refine wpAny_bind (wpAny_standAt (wpAny_bind (wpAny_of_eq (hs x) (wpAny_bind (wpAny_holding (wpAny_mono q5 (fun it1 s6 q6 => ?_) fun _ _ e => e))))))
        refine wpAny_bind (wpAny_runOwn ?_)
        rw [Around.mark_none]
        refine codeAny_mono q6 fun r s' hr => ?_
        cases r with
        | ok f => first | exact wpAny_pure ⟨rfl, hr⟩ | exact wpAny_bind (wpAny_pure (wpAny_pure ⟨rfl, hr⟩))
        | error e => exact hr.elim
  | none =>
    rw [turn_last h0 h1]
    refine wpAny_bind (wpAny_standAt (wpAny_bind (wpAny_mono T (fun r s1 q1 => ?_) fun _ _ e => e)))
    cases r with
    | none => exact wpAny_pure q1
    | some v =>
      refine wpAny_bind (wpAny_mono q1 (fun _ s2 q2 => wpAny_bind (wpAny_mono q2 (fun _ s3 q3 => wpAny_bind (wpAny_mono q3 (fun ok s4 q4 => ?_) fun _ _ e => e)) fun _ _ e => e)) fun _ _ e => e)
      cases ok with
      | false => exact wpAny_pure ⟨rfl, q4⟩
      | true =>
        have q4 : Behind prog w A elt G scope pos j acc env _ _ s4 := q4
        unfold Behind at q4
        rw [h1] at q4
        exact wpAny_bind (wpAny_bind (wpAny_mono q4 (fun x s5 q5 => wpAny_bind (wpAny_mono q5 (fun _ s6 q6 => wpAny_pure (wpAny_pure ⟨rfl, q6⟩)) fun _ _ e => e)) fun _ _ e => e))
theorem start_any (hg : ∃ g, G[j]? = some g ∧ g.is_async = 0) (a : codeAny (model prog w) A (.compLoop (.ListComp elt G scope pos) j it acc env) R s)
    (b : wpAny (model prog w) A (pyIter it) (fun it' s' => codeAny (model prog w) A (.compLoop (.ListComp elt G scope pos) j it' acc env) R s') (notedBy (model prog w) A env fun x s' => R (.error x) s') s) :
    codeAny (model prog w) A (.compStart (.ListComp elt G scope pos) j it acc env) R s := by
  obtain ⟨g, h0, ha⟩ := hg
  refine codeAny_of_tree ?_; show wpAny _ _ ((compStart (.ListComp elt G scope pos) j it acc env).onRaise (fun x => do noteFrame x env; standAt theWindowsPlace)) _ _ s
  refine wpAny_notedAt ?_
  unfold compStart
  have hcl : (clausesOf (.ListComp elt G scope pos))[j]? = some g := h0
  rw [hcl]
  simp only [Option.elim_some, ha]
  rw [if_neg (by simp)]
  refine wpAny_bind (wpAny_askSetting (wpAny_ite ?_))
  split
  · first | exact wpAny_bind (wpAny_pure (wpAny_pure (And.intro rfl a))) | exact wpAny_pure (And.intro rfl a)
  · first
      | exact wpAny_bind (wpAny_rule (wpAny_bind (wpAny_standAt (wpAny_bind (wpAny_mono b (fun it' s' h' => wpAny_pure (And.intro rfl h')) fun _ _ x => x)))))
      | (refine wpAny_bind (wpAny_rule ?_); exact wpAny_bind (wpAny_standAt (wpAny_bind (wpAny_mono b (fun it' s' h' => wpAny_pure (And.intro rfl h')) fun _ _ x => x))))
end
theorem Behind.mono {prog : Program} {w : World} {A : Around} {elt : Expr} {G : List Comprehension} {scope : Scope} {pos : Pos} {j : Nat} {acc : Value} {env : Env} {N : Value → Shared → Prop} {p p' : Shared → Prop} {s : Shared} (h : Behind prog w A elt G scope pos j acc env N p s) (k : ∀ s', p s' → p' s') : Behind prog w A elt G scope pos j acc env N p' s := by
  unfold Behind at h ⊢
  cases e : G[j + 1]? with
  | some g =>
    rw [e] at h
    exact wpAny_mono h (fun x s5 q5 => wpAny_mono q5 (fun it s6 q6 => codeAny_mono q6 fun r s' hr => by
      cases r with
      | ok f => exact k s' hr
      | error x => exact hr) fun _ _ z => z) fun _ _ z => z
  | none =>
    rw [e] at h
    exact wpAny_mono h (fun x s5 q5 => wpAny_mono q5 (fun _ s6 q6 => k s6 q6) fun _ _ z => z) fun _ _ z => z
theorem drop_cons {α : Type} {G r : List α} {n : Nat} {a : α} (h : G.drop n = a :: r) : G[n]? = some a := by
  have z := congrArg (·[0]?) h
  simpa using z
theorem drop_none {α : Type} {G : List α} {n : Nat} (h : G.drop n = []) : G[n]? = none := by
  have z := congrArg (·[0]?) h
  simpa using z
/-! what a block of several clauses does -/
def TIn : Type := L2.St → Hp → Addr → (Hp → Prop) → Prop
def tItem (te : TE) : TIn := fun σ H D Nx => te σ H fun y H1 => ∃ acc, H1 D = some (.lst acc) ∧ acc.length < sizeLine ∧ Nx (upd H1 D (.lst (acc ++ [y])))
/-- a further clause; us: its names and those of the clauses behind it -/
def tClause (wi : TI) (g : TG) (tt : TT) (us : List Nat) (t : TIn) : TIn := fun σ H D Nx => wi σ H fun J H1 => ∃ W : Nat → Nat → Hp → Prop, (∃ m, W 0 m H1) ∧ ∀ j k H2, W j k H2 →
  (J.stop j H2 ∧ Nx H2) ∨ (J.go j H2 ∧ ∃ Nx1 : Hp → Prop, (∀ H', Nx1 H' → ∃ k', k' < k ∧ W (j + 1) k' H') ∧ ∀ x H', J.yld j H2 x H' → g x (wipe σ us) H' fun σ1 H3 => wipe σ1 us = wipe σ us ∧ tt σ1 H3 fun b H4 => if b = true then t σ1 H4 D Nx1 else Nx1 H4)
inductive PIns (Y : Cx) (elt : Expr) : List Comprehension → List Nat → TIn → Prop
  | nil {te : TE} : PE Y elt te → PIns Y elt [] [] (tItem te)
  | cons {tg iter : Expr} {ifs : List Expr} {wi : TI} {g : TG} {tt : TT} {us vs : List Nat} {r : List Comprehension} {t : TIn} : PI Y tg iter wi → PG Y tg g → PTs Y ifs tt → (∀ i ∈ vs, i ∈ us) → (∀ env x, foldedSetIterable iter env x = pure x) → PIns Y elt r vs t → PIns Y elt (⟨tg, iter, ifs, 0⟩ :: r) us (tClause wi g tt us t)
section
variable {X : Cx}
theorem inner_ok {s3 : Shared} {H3 : Hp} {scope : Scope} {ce : Env} {fp : List Addr} {elt : Expr} {pos : Pos} {G : List Comprehension} {D : Addr} (hc : X.calm = true) (hce : (X.blk s3 H3 scope ce fp).env = ce) : ∀ {r : List Comprehension} {us : List Nat} {t : TIn}, PIns (X.blk s3 H3 scope ce fp) elt r us t →
    ∀ {j : Nat}, G.drop (j + 1) = r → ∀ {pins : List (Addr × Obj)} {σ : L2.St} {H : Hp} {s : Shared} {Nx : Hp → Prop} {N : Value → Shared → Prop}, Inv (X.blk s3 H3 scope ce fp) pins σ H s → t σ H D Nx →
      Behind X.prog X.w X.A elt G scope pos j (.ref D) ce N (fun s' => ∃ H', Inv (X.blk s3 H3 scope ce fp) pins (wipe σ us) H' s' ∧ Nx H') s := by
  intro r us t P
  induction P with
  | @nil te pe =>
    intro j hG pins σ H s Nx N I q
    have e : G[j + 1]? = none := drop_none hG
    unfold Behind
    rw [e]
    refine thnF (pe.run _ s σ H _ I q) fun z s1 ⟨yv, H1, I1, r1, acc, hD, hz, nx⟩ => ?_
    exact app_ok (X := X.blk s3 H3 scope ce fp) I1 hD hz r1 fun s2 I2 => ⟨_, I2, nx⟩
  | @cons tg iter ifs wi g tt us vs r t pi pg pt hv hs Pr ih =>
    intro j hG pins σ H s Nx N I q
    have e : G[j + 1]? = some ⟨tg, iter, ifs, 0⟩ := drop_cons hG
    have hG2 : G.drop (j + 1 + 1) = r := by
      have z := congrArg (List.drop 1) hG
      simpa [List.drop_drop] using z
    unfold Behind
    rw [e]
    refine thnF (pi.run _ s σ H _ I q) fun xv s1 hx => thnF hx fun itv s2 h2 => ?_
    obtain ⟨it, fp1, tn, J, H2, e1, I2, T, st2, f2, W, ⟨m, w0⟩, turn⟩ := h2
    subst e1
    have stat : ∀ {H' : Hp}, (∀ b ∈ fp1, H' b = none) → ∀ b ∈ fp1, FpOk (X.blk s3 H3 scope ce fp) pins H' b := fun hn b hb => ⟨hn b hb, (f2 b hb).2⟩
    have hnx : ∀ g', G[j + 1 + 1]? = some g' → g'.is_async = 0 ∧ ∀ x, foldedSetIterable g'.iter ce x = pure x := by
      intro g' hg'
      cases Pr with
      | nil pe =>
        rw [drop_none hG2] at hg'
        cases hg'
      | cons a b c d e f =>
        rw [drop_cons hG2] at hg'
        cases hg'
        exact ⟨rfl, e ce⟩
    have loop : codeAny (model X.prog X.w) X.A (.compLoop (.ListComp elt G scope pos) (j + 1) (.ref it) (.ref D) ce) (fun r s' => match r with | .ok _ => ∃ H', Inv (X.blk s3 H3 scope ce fp) pins (wipe σ us) H' s' ∧ Nx H' | .error _ => False) s2 := by
      refine loop_any e hnx (fun k s' => ∃ jj H', Inv (X.blk s3 H3 scope ce fp) pins (wipe σ us) H' s' ∧ tn jj s'.heap ∧ (∀ b ∈ fp1, H' b = none) ∧ W jj k H') ?_ m ⟨0, H2, I2.weak (wipe_length _ _) (fun j v e => (wipe_some e).1), st2, fun b hb => (f2 b hb).1, w0⟩
      rintro k s4 ⟨jj, H4, I4, st4, n4, w4⟩
      rcases turn jj k H4 w4 with ⟨stop, nx⟩ | ⟨go, Nx1, hNx1, step⟩
      · refine thnF (T.done (X.blk s3 H3 scope ce fp) rfl rfl rfl hc jj _ s4 (wipe σ us) H4 (fun _ _ => False) I4 (stat n4) st4 stop) fun r s5 ⟨hr, I5⟩ => ?_
        subst hr
        exact ⟨_, I5, nx⟩
      · refine thnF (T.item (X.blk s3 H3 scope ce fp) rfl rfl rfl hc jj _ s4 (wipe σ us) H4 (fun _ _ => False) I4 (stat n4) st4 go) fun r s5 ⟨u, hr, h5⟩ => ?_
        subst hr
        refine thnF h5 fun _ s6 ⟨x, H6, I6, r6, y6, st6, n6⟩ => ?_
        have I6' := I6.pinned (stat n6) (T.obj _ _ st6)
        refine thnF (pg.run _ s6 (wipe σ us) H6 x u _ I6' r6 (step x H6 y6)) fun _ s7 ⟨σ7, H7, I7, hw, q7⟩ => ?_
        refine thnF (pt.run _ s7 σ7 H7 _ I7 q7) fun b s8 ⟨H8, I8, q8⟩ => ?_
        have fin : ∀ {σ' : L2.St} {s' : Shared} {H' : Hp}, Inv (X.blk s3 H3 scope ce fp) (pins ++ pinsAt fp1 s6.heap) σ' H' s' → (wipe σ us).length = σ'.length → (∀ (n : Nat) v, (wipe σ us)[n]? = some (some v) → σ'[n]? = some (some v)) → Nx1 H' → ∃ m, m < k ∧ ∃ jj H', Inv (X.blk s3 H3 scope ce fp) pins (wipe σ us) H' s' ∧ tn jj s'.heap ∧ (∀ b ∈ fp1, H' b = none) ∧ W jj m H' := fun {σ' s' H'} I' hl hk nx => by
          obtain ⟨m', hm, w'⟩ := hNx1 H' nx
          have pin' : ∀ b ∈ fp1, ∀ o, s6.heap.get? b = some o → s'.heap.get? b = some o ∧ H' b = none := fun b hb o eo => by
            have z := I'.pin (b, o) (List.mem_append_right _ (List.mem_append_right _ (mem_pinsAt hb eo)))
            exact ⟨z.1, z.2.1⟩
          refine ⟨m', hm, jj + 1, H', I'.unpinned.weak hl hk, T.keep _ _ _ st6 fun b hb o eo => (pin' b hb o eo).1, fun b hb => ?_, w'⟩
          obtain ⟨o, eo, _⟩ := T.obj _ _ st6 b hb
          exact (pin' b hb o eo).2
        have hl7 : (wipe σ us).length = σ7.length := by rw [← hw, wipe_length]
        have hk7 : ∀ (n : Nat) v, (wipe σ us)[n]? = some (some v) → σ7[n]? = some (some v) := fun n v z => by
          rw [← hw] at z
          exact (wipe_some z).1
        cases b with
        | false =>
          simp only [Bool.false_eq_true, if_false] at q8 ⊢
          exact fin I8 hl7 hk7 q8
        | true =>
          simp only [if_true] at q8 ⊢
          refine (ih hG2 I8 q8).mono fun s' ⟨H', I', nx⟩ => fin I' (hl7.trans (wipe_length _ _).symm) (fun n v z => ?_) nx
          rw [← hw] at z
          obtain ⟨z1, z2⟩ := wipe_some z
          rw [wipe_out fun y => z2 (hv n y)]
          exact z1
    exact start_any ⟨_, e, rfl⟩ loop (T.self X.A 0 _ _ _ st2 loop)
/-- the whole block: the first clause's source is the def's own; us: all names of the block -/
def tLcN (wi : TI) (g : TG) (tt : TT) (t : TIn) (us : List Nat) : TE := fun σ H Q => wi σ H fun J H1 => ∀ D, H1 D = none → ∃ W : Nat → Nat → Hp → Prop, (∃ m, W 0 m (upd H1 D (.lst []))) ∧ ∀ i m H, W i m H →
  (J.stop i H ∧ Q (.ref D) H) ∨ (J.go i H ∧ ∃ Nx : Hp → Prop, (∀ H', Nx H' → ∃ m', m' < m ∧ W (i + 1) m' H') ∧ ∀ x H', J.yld i H x H' → g x (wipe σ us) H' fun σ2 H2 => wipe σ2 us = wipe σ us ∧ tt σ2 H2 fun b H3 => if b = true then t σ2 H3 D Nx else Nx H3)
theorem lcN_core {pins : List (Addr × Obj)} {s : Shared} {σ : L2.St} {H : Hp} {Q : VK} {elt tg iter : Expr} {ifs : List Expr} {rest : List Comprehension} {scope : Scope} {own : List (Str × Nat)} {vs : List Nat} {pos pos' : Pos} {wi : TI} {g : TG} {tt : TT} {t : TIn} {use : Option (Value → Sem Unit)} {Qf : Value → Shared → Prop}
    (hc : X.calm = true) (hN : X.N.Nodup) (I : Inv X pins σ H s) (hi : PI X tg iter wi) (ok : BlkOk X.N X.env.scope scope own) (hv : ∀ i ∈ vs, i ∈ own.map (·.2))
    (hq : ∀ (s : Shared) (H : Hp) (C : Addr) (cl : List (Str × Addr)) (fp : List Addr), PG (X.blk s H scope (compEnvC scope cl C X.env) fp) tg g ∧ PTs (X.blk s H scope (compEnvC scope cl C X.env) fp) ifs tt ∧ PIns (X.blk s H scope (compEnvC scope cl C X.env) fp) elt rest vs t)
    (hs : ∀ x, foldedSetIterable iter X.env x = pure x) (h : tLcN wi g tt t (own.map (·.2)) σ H Q)
    (hRR : ∀ D C s' m H', Inv X pins σ H' s' → Q (.ref D) H' → s'.heap.Ns C m → FpOk X pins H' C → compPost (model X.prog X.w) X.A X.xe use Qf (.ref D) C (.ok .next) s') :
    wpAny (model X.prog X.w) X.A (comprehension (.ListComp elt (⟨tg, iter, ifs, 0⟩ :: rest) scope pos) scope X.env pos' (newList []) false (eval iter X.env) use) Qf X.xe s := by
  have hfree : ∀ y ∈ scope.names, y.2 = .free → ∃ c, X.env.cells.lookup y.1 = some c := fun y hy e => (ok.free y hy e).elim (fun k => I.ok.has _ (.inl k)) fun k => I.ok.has _ (.inr k)
  refine wpAny_comprehension_free (use := use) rfl hs (closure_ok hfree) ok.kind (fun y hy e => by rw [ok.uniq y hy, e]) (thn (hi.run pins s σ H _ I h) fun xv s1 hx => thn hx fun itv s2 h2 => ?_)
  obtain ⟨it, fp, tn, J, H2, e, I2, T, st2, f2, q⟩ := h2
  subst e
  refine wpAny_newObj_type (newEnv_comp ?_) (by show 0 ≤ sizeLine; decide)
  generalize hD : s2.heap.objs.size = D
  obtain ⟨W, ⟨m0, w0⟩, turn⟩ := q D (I2.hok.fresh (Nat.le_of_eq hD))
  generalize hs3 : ({ s2 with heap := s2.heap.push { cls := .type "list", data := .seq ([] : List Value).toArray } } : Shared) = s3
  have h3 : s3.heap = s2.heap.push { cls := .type "list", data := .seq ([] : List Value).toArray } := by rw [← hs3]
  have I3 : Inv X pins σ (upd H2 D (.lst [])) s3 := by
    rw [← hs3]
    exact I2.laid (t' := s2.toks) (fun b o e => Heap.get?_push_of_some _ e) (Nat.le_of_eq hD) ⟨Nat.zero_le _, [], 0, .nil, by rw [← hD]; exact Heap.get?_push_size _ rfl⟩
  have f3 : ∀ b ∈ fp, FpOk X pins (upd H2 D (.lst [])) b ∧ b < s3.heap.objs.size := fun b hb => by
    obtain ⟨o, e, _⟩ := T.obj _ _ st2 b hb
    have lt := Heap.lt_size e
    exact ⟨⟨by rw [upd_ne (by rw [← hD]; exact Nat.ne_of_lt lt)]; exact (f2 b hb).1, (f2 b hb).2⟩, by rw [h3, Heap.size_push]; exact Nat.lt_succ_of_lt lt⟩
  have st3 : tn 0 s3.heap := T.keep _ _ _ st2 fun b _ o e => by rw [h3]; exact Heap.get?_push_of_some _ e
  have I4 := block_start I3 ok hN f3
  obtain ⟨pg, pt, pin⟩ := hq s3 (upd H2 D (.lst [])) s3.heap.objs.size (cellsFrom (s3.heap.objs.size + 1) scope.names (cloFrom X.env.cells scope.names [])) fp
  show codeAny _ _ (.compStart (.ListComp elt (⟨tg, iter, ifs, 0⟩ :: rest) scope pos) 0 (.ref it) (.ref D) (compEnvC scope (cellsFrom (s3.heap.objs.size + 1) scope.names (cloFrom X.env.cells scope.names [])) s3.heap.objs.size X.env)) (compPost (model X.prog X.w) X.A X.xe use Qf (.ref D) s3.heap.objs.size) { s3 with heap := pushCells (s3.heap.push { cls := .type "dict", data := .dict #[] }) scope.names }
  have nfp : ∀ b ∈ fp, (upd H2 D (.lst [])) b = none := fun b hb => (f3 b hb).1.1
  generalize hce : compEnvC scope (cellsFrom (s3.heap.objs.size + 1) scope.names (cloFrom X.env.cells scope.names [])) s3.heap.objs.size X.env = ce at I4 pg pt pin ⊢
  have cL : ce.locals = s3.heap.objs.size := by subst hce; rfl
  generalize hH3 : upd H2 D (.lst []) = H3 at I3 I4 pg pt pin w0 nfp f3
  generalize hs4 : ({ s3 with heap := pushCells (s3.heap.push { cls := .type "dict", data := .dict #[] }) scope.names } : Shared) = s4 at I4 ⊢
  have st4 : tn 0 s4.heap := T.keep _ _ _ st3 fun b _ o e => by rw [← hs4]; exact pushCells_keeps _ _ _ _ (Heap.get?_push_of_some _ e)
  have stat : ∀ {σ' : L2.St} {H' : Hp} {s' : Shared}, Inv (X.blk s3 H3 scope ce fp) [] σ' H' s' → (∀ b ∈ fp, H' b = none) → ∀ b ∈ fp, FpOk (X.blk s3 H3 scope ce fp) [] H' b := fun {σ' H' s'} I' hn b hb => ⟨hn b hb, (I'.ok.exf b hb).1, I'.ok.exfs b hb, .inl hb, fun x c e => (I'.ok.exf b hb).2 x c e, fun p hp => absurd (show p ∈ ([] : List (Addr × Obj)) ++ [] from hp) (by simp)⟩
  have hnx : ∀ g', (⟨tg, iter, ifs, 0⟩ :: rest : List Comprehension)[0 + 1]? = some g' → g'.is_async = 0 ∧ ∀ x, foldedSetIterable g'.iter ce x = pure x := by
    intro g' hg'
    cases pin with
    | nil pe => cases hg'
    | cons a b c d e f =>
      cases hg'
      exact ⟨rfl, e ce⟩
  have loop : codeAny (model X.prog X.w) X.A (.compLoop (.ListComp elt (⟨tg, iter, ifs, 0⟩ :: rest) scope pos) 0 (.ref it) (.ref D) ce) (compPost (model X.prog X.w) X.A X.xe use Qf (.ref D) s3.heap.objs.size) s4 := by
    refine loop_any rfl hnx (fun n s' => ∃ i H', Inv (X.blk s3 H3 scope ce fp) [] (wipe σ (own.map (·.2))) H' s' ∧ tn i s'.heap ∧ (∀ b ∈ fp, H' b = none) ∧ W i n H') ?_ m0 ⟨0, H3, I4, st4, nfp, w0⟩
    rintro n s5 ⟨i, H5, I5, st5, n5, w5⟩
    rcases turn i n H5 w5 with ⟨stop, qq⟩ | ⟨go, Nx, hNx, step⟩
    · refine thnF (T.done (X.blk s3 H3 scope ce fp) rfl rfl rfl hc i [] s5 _ H5 (fun _ _ => False) I5 (stat I5 n5) st5 stop) fun r s6 ⟨hr, I6⟩ => ?_
      subst hr
      have I7 : Inv X pins σ H5 s6 := I3.call' (ch := fp) I6.os I6.base I6.hok I6.bare fun b hb => ⟨(f3 b hb).1.2.2.2.1, (f3 b hb).1.2.1, (f3 b hb).1.2.2.2.2.1, (f3 b hb).1.2.2.2.2.2⟩
      have nC : H5 s3.heap.objs.size = none := by
        have z : H5 ce.locals = none := I6.free
        rwa [cL] at z
      obtain ⟨m, hn, _⟩ := I6.loc
      have hn : s6.heap.Ns ce.locals m := hn
      rw [cL] at hn
      exact hRR D s3.heap.objs.size s6 m H5 I7 qq hn (I3.fpOk (Nat.le_refl _) nC)
    · refine thnF (T.item (X.blk s3 H3 scope ce fp) rfl rfl rfl hc i [] s5 _ H5 (fun _ _ => False) I5 (stat I5 n5) st5 go) fun r s6 ⟨u, hr, h6⟩ => ?_
      subst hr
      refine thnF h6 fun _ s7 ⟨x, H7, I7, r7, y7, st7, n7⟩ => ?_
      have I7' := I7.pinned (stat I7 n7) (T.obj _ _ st7)
      refine thnF (pg.run _ s7 _ H7 x u _ I7' r7 (step x H7 y7)) fun _ s8 ⟨σ8, H8, I8, hw8, q8⟩ => ?_
      refine thnF (pt.run _ s8 σ8 H8 _ I8 q8) fun b s9 ⟨H9, I9, q9⟩ => ?_
      have fin : ∀ {σ9 : L2.St} {s' : Shared} {H' : Hp}, Inv (X.blk s3 H3 scope ce fp) ([] ++ pinsAt fp s7.heap) σ9 H' s' → (wipe σ (own.map (·.2))).length = σ9.length → (∀ (j : Nat) v, (wipe σ (own.map (·.2)))[j]? = some (some v) → σ9[j]? = some (some v)) → Nx H' →
          ∃ m, m < n ∧ ∃ i H', Inv (X.blk s3 H3 scope ce fp) [] (wipe σ (own.map (·.2))) H' s' ∧ tn i s'.heap ∧ (∀ b ∈ fp, H' b = none) ∧ W i m H' := fun {σ9 s' H'} I' hl hk nx => by
        obtain ⟨m', hm, w'⟩ := hNx H' nx
        have pin' : ∀ b ∈ fp, ∀ o, s7.heap.get? b = some o → s'.heap.get? b = some o ∧ H' b = none := fun b hb o e => by
          have z := I'.pin (b, o) (List.mem_append_right _ (List.mem_append_right _ (mem_pinsAt hb e)))
          exact ⟨z.1, z.2.1⟩
        refine ⟨m', hm, i + 1, H', (I'.unpinned (pins := [])).weak hl hk, T.keep _ _ _ st7 fun b hb o e => (pin' b hb o e).1, fun b hb => ?_, w'⟩
        obtain ⟨o, e, _⟩ := T.obj _ _ st7 b hb
        exact (pin' b hb o e).2
      have hl8 : (wipe σ (own.map (·.2))).length = σ8.length := by rw [← hw8, wipe_length]
      cases b with
      | false =>
        simp only [Bool.false_eq_true, if_false] at q9 ⊢
        exact fin I9 hl8 (fun j v e => by rw [← hw8] at e; exact (wipe_some e).1) q9
      | true =>
        simp only [if_true] at q9 ⊢
        refine (inner_ok (G := ⟨tg, iter, ifs, 0⟩ :: rest) hc rfl pin (j := 0) rfl I9 q9).mono fun s' ⟨H', I', nx⟩ => fin I' (hl8.trans (wipe_length _ _).symm) (fun n v z => ?_) nx
        rw [← hw8] at z
        obtain ⟨z1, z2⟩ := wipe_some z
        rw [wipe_out fun y => z2 (hv n y)]
        exact z1
  exact start_any ⟨_, rfl, rfl⟩ loop (T.self X.A 0 _ _ _ st4 loop)
/-- a block of several clauses as a value -/
theorem pe_lcN {elt tg iter : Expr} {ifs : List Expr} {rest : List Comprehension} {scope : Scope} {own : List (Str × Nat)} {vs : List Nat} {pos : Pos} {wi : TI} {g : TG} {tt : TT} {t : TIn} (hc : X.calm = true) (hN : X.N.Nodup) (hi : PI X tg iter wi) (ok : BlkOk X.N X.env.scope scope own) (hv : ∀ i ∈ vs, i ∈ own.map (·.2))
    (hq : ∀ (s : Shared) (H : Hp) (C : Addr) (cl : List (Str × Addr)) (fp : List Addr), PG (X.blk s H scope (compEnvC scope cl C X.env) fp) tg g ∧ PTs (X.blk s H scope (compEnvC scope cl C X.env) fp) ifs tt ∧ PIns (X.blk s H scope (compEnvC scope cl C X.env) fp) elt rest vs t)
    (hs : ∀ x, foldedSetIterable iter X.env x = pure x := by intro _; rfl) : PE X (.ListComp elt (⟨tg, iter, ifs, 0⟩ :: rest) scope pos) (tLcN wi g tt t (own.map (·.2))) := by
  refine ⟨fun pins s σ H Q I h => ?_⟩; rw [eval_ListComp]
  refine lcN_core hc hN I hi ok hv hq hs h fun D C s' m H' I' q hn f => ⟨m, hn, fun h'' sb => ?_⟩
  obtain ⟨f0, f1, f2, f3, f4, f5⟩ := f
  exact ⟨.ref D, H', I'.turned (t' := s'.toks) (fun b o hb e => (sb.2 b hb).trans e) f0 f1 f3 f4 f5, rfl, q⟩
theorem ps_setLcN {i : Nat} {y : Str} {py : Pos} {elt tg iter : Expr} {ifs : List Expr} {rest : List Comprehension} {scope : Scope} {own : List (Str × Nat)} {vs : List Nat} {pos spos : Pos} {wi : TI} {g : TG} {tt : TT} {t : TIn} (hc : X.calm = true) (hN : X.N.Nodup) (hy : X.N[i]? = some y) (hyl : X.env.scope.names.lookup y = some .local)
    (hsw : swapsWith (.ListComp elt (⟨tg, iter, ifs, 0⟩ :: rest) scope pos) (some (.Name y py)) spos.line X.env = pure true) (hi : PI X tg iter wi) (ok : BlkOk X.N X.env.scope scope own) (hv : ∀ i ∈ vs, i ∈ own.map (·.2))
    (hq : ∀ (s : Shared) (H : Hp) (C : Addr) (cl : List (Str × Addr)) (fp : List Addr), PG (X.blk s H scope (compEnvC scope cl C X.env) fp) tg g ∧ PTs (X.blk s H scope (compEnvC scope cl C X.env) fp) ifs tt ∧ PIns (X.blk s H scope (compEnvC scope cl C X.env) fp) elt rest vs t)
    (hs : ∀ x, foldedSetIterable iter X.env x = pure x := by intro _; rfl) : PS X (.Assign [.Name y py] (.ListComp elt (⟨tg, iter, ifs, 0⟩ :: rest) scope pos) spos) (tAsg (tLcN wi g tt t (own.map (·.2))) (gName i)) := by
  refine ⟨fun pins s σ H D I h => ?_⟩; rw [exec_Assign_Name_used _ _ _ _ hsw]
  refine wpAny_bind (wpAny_standAt (wpAny_bind ?_))
  show wpAny _ X.A (do let _ ← comprehension (.ListComp elt (⟨tg, iter, ifs, 0⟩ :: rest) scope pos) scope X.env (firstIterPos (⟨tg, iter, ifs, 0⟩ :: rest) pos) (newList []) false (eval iter X.env) (some (assign (.Name y py) X.env))) _ _ s
  have h : tLcN wi g tt t (own.map (·.2)) σ H (fun x H1 => gName i x σ H1 D.nx) := h
  refine wpAny_bind (thn (lcN_core (Qf := fun _ s' => SP X pins D .next s') hc hN I hi ok hv hq hs h fun L C s' m H' I' q hn f => ?_) fun _ s' hq => wpAny_pure (wpAny_pure hq))
  show wpAny _ _ (assign (.Name y py) X.env (.ref L)) _ _ _
  refine wpAny_assign_Name (store_ok2 (v := V.ref L) I' hN hy (.inl hyl) rfl (fun s2 I2 ⟨a, sb, ha⟩ => ?_) (.inr hyl))
  obtain ⟨f0, f1, f2, f3, f4, f5⟩ := f
  have haC : C ≠ a := ha.elim (fun z => by rw [z]; exact f1) fun z e => f4 y a z e.symm
  exact ⟨m, hn.sameBut sb haC, fun h3 sb3 => ⟨_, H', I2.turned (t' := s2.toks) (fun b o hb e => (sb3.2 b hb).trans e) f0 f1 f3 f4 f5, q⟩⟩
end
end Pl
namespace Pl
open PySem PySem.Spec PyProof.Rows L2 PySem.MeetsSeq PySem.MeetsSeq2 PySem.MeetsSeq3 PySem.SeqAt
/-! enumerate of a tuple -/
theorem meets_enum1 {v : Value} {o : Obj} {H : Heap → Prop} (B : Begins v o H) : Meets (Builtin.«enumerate.__new__» ⟨[.type "enumerate", v], []⟩) (fun _ R s => H s.heap ∧ R (.ok (.ret (.ref (s.heap.push o).objs.size))) { s with heap := (s.heap.push o).push { cls := .type "enumerate", data := .fields #[.none, .bool false, .ref s.heap.objs.size, rawInt 0, .none, .none] } }) :=
  .of_wp fun prog w A R s h => by
    obtain ⟨hp, g, d, tk, os⟩ := s
    obtain ⟨h1, h⟩ := h
    have hsub := sub_enumerate
    have q1 : ∀ {A' : Around} {E : Value → Shared → Prop} {Q : Value → Shared → Prop}, Q (.ref hp.objs.size) ⟨hp.push o, g, d, tk, os⟩ → wpAny (model prog w) A' (pyIter v) Q E ⟨hp, g, d, tk, os⟩ := fun q => B.iter prog w _ _ ⟨hp, g, d, tk, os⟩ _ h1 q
    wp_walk using q1
    refine wpAny_stack_any fun st => wpAny_pure ?_
    split
    · rename_i c _ _ _ _ _
      cases (c == Value.type "enumerate") <;> (wp_walk using q1; exact ⟨_, rfl, h⟩)
    · wp_walk using q1; exact ⟨_, rfl, h⟩
theorem call_enum1 {prog : Program} {w : World} {A : Around} {E : Value → Shared → Prop} {s : Shared} {v : Value} {o : Obj} {H : Heap → Prop} {Q : Value → Shared → Prop} (B : Begins v o H) (h1 : H s.heap)
    (h : ∀ h', IsEnum h' (s.heap.objs.size + 1) s.heap.objs.size 0 .none → h'.get? s.heap.objs.size = some o → (∀ b ob, s.heap.get? b = some ob → h'.get? b = some ob) → Q (.ref (s.heap.objs.size + 1)) { s with heap := h' }) :
    wpAny (model prog w) A (call (.type "enumerate") [v]) Q E s := by
  refine callType_new F.called_enumerate (by decide) (F.typeCall_enumerate_1 _) (F.newCall_enumerate_1 _) (fun obj => F.args_object_init_2 obj _) F.entry_enumerate_new (meets_enum1 B) ⟨h1, ?_⟩
  have hz : (s.heap.push o).objs.size = s.heap.objs.size + 1 := Heap.size_push ..
  show _ ∧ _
  rw [hz]
  have he : IsEnum ((s.heap.push o).push { cls := .type "enumerate", data := .fields #[.none, .bool false, .ref s.heap.objs.size, rawInt 0, .none, .none] }) (s.heap.objs.size + 1) s.heap.objs.size 0 .none := by
    have z := Heap.get?_push_size (s.heap.push o) (o := { cls := .type "enumerate", data := .fields #[.none, .bool false, .ref s.heap.objs.size, rawInt 0, .none, .none] }) rfl
    rwa [hz] at z
  exact ⟨⟨_, he, rfl⟩, h _ he (Heap.get?_push_of_some _ (Heap.get?_push_size _ B.free)) fun b ob x => Heap.get?_push_of_some _ (Heap.get?_push_of_some _ x)⟩
/-- the tuple at a, each item in a new pair -/
def IteT (K : PySem.W.Frag) (a : Addr) : It :=
  ⟨fun i H => ∃ (xs : List V) (x : V), SqT K H a xs ∧ xs[i]? = some x, fun i H v H' => ∃ T x, v = .ref T ∧ H T = none ∧ H' = upd H T (.tup [.int (i : Nat), x]) ∧ ∀ xs, SqT K H a xs → xs[i]? = some x, fun i H => ∃ xs : List V, SqT K H a xs ∧ xs.length = i⟩
theorem turn_enumT {P : Program} {w : World} {K : PySem.W.Frag} {elts : List Expr} {kk : Nat} {tpos : Pos} (a e it : Addr) :
    Turn P w K (.Tuple elts kk tpos) (IteT K a) [e, it] e (fun i h => (∃ old, IsEnum h e it ((i : Nat) : Int) old) ∧ h.IsTupleIter it a i ∧ e ≠ it) where
  mem := by simp
  obj := fun i h st b hb => by
    obtain ⟨⟨old, he⟩, ⟨o, ho, hc, hd⟩, _⟩ := st
    rcases (by simpa using hb : b = e ∨ b = it) with z | z
    · rw [z]; exact ⟨_, he, fun v q => nomatch q⟩
    · rw [z]; exact ⟨o, ho, fun v q => by rw [hd] at q; cases q⟩
  keep := fun i h h' st k => by
    obtain ⟨⟨old, he⟩, hi, hne⟩ := st
    exact ⟨⟨old, k e (by simp) _ he⟩, hi.at fun o q => k it (by simp) o q, hne⟩
  item := by
    intro X hP hw hK hc i pins s σ H E I hf st hg
    subst hP hw hK
    obtain ⟨⟨old, he⟩, hit, hne⟩ := st
    obtain ⟨xs, x, hq, hx⟩ := hg
    obtain ⟨its, rv, p, hz⟩ := I.tuple hq
    obtain ⟨u, hu, ru⟩ := rv.get hx
    have hel : e < s.heap.objs.size := Heap.lt_size he
    have hil : it < s.heap.objs.size := by obtain ⟨_, q, _⟩ := hit; exact Heap.lt_size q
    have ta : s.heap.IsTuple a its.toArray := p
    have hai : a ≠ it := fun z => by
      obtain ⟨o1, q1, c1, _⟩ := hit
      obtain ⟨o2, q2, c2, _⟩ := ta
      rw [z, q1] at q2
      cases q2
      rw [c1] at c2
      exact absurd c2 (by intro z; injection z with z; exact absurd z (by decide))
    have hea : e ≠ a := fun z => by
      obtain ⟨o2, q2, c2, _⟩ := ta
      rw [← z, show s.heap.get? e = some _ from he] at q2
      cases q2
      exact absurd c2 (by intro z; injection z with z; exact absurd z (by decide))
    have lt : i < its.toArray.size := by
      have := (List.getElem?_eq_some_iff.mp hu).1
      simpa using this
    refine wpAny_pyNext_enum_itemD (Draws.tuple (A := X.A.in1) (I.ok.hd hc) it a hai its.toArray) he ⟨hit, ta⟩ lt hne (by simp [hne, hea]) fun y h' tk hy ho ⟨hit', _⟩ hT hsz hk => ?_
    obtain rfl : y = u := by
      have z : its.toArray[i]? = some y := hy
      rw [List.getElem?_toArray, hu] at z
      exact (Option.some.inj z).symm
    refine ⟨_, rfl, wpAny_letOwnedTupleGo_enum (s := { s with heap := h', toks := tk + 1 }) ho fun h'' he' sb => ?_⟩
    have hT2 : h''.get? s.heap.objs.size = some { cls := .type "tuple", data := .seq #[.int i tk, y] } := (sb.2 _ (Nat.ne_of_gt hel)).trans hT
    have new : ObjOk X.prog X.w (upd H s.heap.objs.size (.tup [.int (i : Nat), x])) h'' s.heap.objs.size (.tup [.int (i : Nat), x]) := ⟨by show 2 ≤ sizeLine; decide, [.int i tk, y], .cons ⟨_, rfl⟩ (.cons ru .nil), ⟨_, hT2, rfl, _, rfl⟩⟩
    have I1 : Inv X pins σ (upd H s.heap.objs.size (.tup [.int (i : Nat), x])) { s with heap := h'', toks := tk + 1 } := I.turnedNew (ch := [e, it]) (fun b ob hb q => (sb.2 b (fun z => hb (by simp [z]))).trans (hk b ob (fun z => hb (by simp [z])) (fun z => hb (by simp [z])) q)) hf (Nat.le_refl _) new
    refine ⟨.ref s.heap.objs.size, _, I1, rfl, ⟨_, x, rfl, I.hok.fresh (Nat.le_refl _), rfl, fun ys hy => by rw [I.tuple_inj hy hq]; exact hx⟩, ⟨⟨y, ?_⟩, hit'.at fun o q => (sb.2 it (Ne.symm hne)).trans q, hne⟩, fun b hb => ?_⟩
    · rw [show ((i + 1 : Nat) : Int) = (i : Int) + 1 by omega]; exact he'
    · have hb' : b < s.heap.objs.size := by
        rcases (by simpa using hb : b = e ∨ b = it) with z | z
        · rw [z]; exact hel
        · rw [z]; exact hil
      rw [upd_ne (Nat.ne_of_lt hb')]
      exact (hf b hb).1
  done := by
    intro X hP hw hK hc i pins s σ H E I hf st hg
    subst hP hw hK
    obtain ⟨⟨old, he⟩, hit, hne⟩ := st
    obtain ⟨xs, hq, hx⟩ := hg
    obtain ⟨its, rv, p, hz⟩ := I.tuple hq
    obtain ⟨f0, f1, f2, f3, f4, f5⟩ := hf it (by simp)
    have hl := rv.length
    have en : its.toArray.size = i := by simp; omega
    have ta : s.heap.IsTuple a its.toArray := p
    have hai : a ≠ it := fun z => by
      obtain ⟨o1, q1, c1, _⟩ := hit
      obtain ⟨o2, q2, c2, _⟩ := ta
      rw [z, q1] at q2
      cases q2
      rw [c1] at c2
      exact absurd c2 (by intro z; injection z with z; exact absurd z (by decide))
    rw [← en] at hit
    exact wpAny_pyNext_enum_endD (Draws.tuple (A := X.A.in1) (I.ok.hd hc) it a hai its.toArray) he ⟨hit, ta⟩ fun h' eb => ⟨rfl, I.turned (t' := s.toks) (fun b o hb q => eb b o hb q) f0 f1 f3 f4 f5⟩
  self := fun A i s Q E st h => by
    obtain ⟨⟨_, he⟩, _⟩ := st
    exact wpAny_pyIter_enum he h
def iEnumT (K : PySem.W.Frag) (ta : TA) : TI := fun σ H R => ta σ H fun vs H1 => ∃ a xs, vs = [.ref a] ∧ SqT K H1 a xs ∧ R (IteT K a) H1
theorem pi_enumT {X : Cx} {e : Expr} {ta : TA} {p pos tpos : Pos} {elts : List Expr} {kk : Nat} (hg : Gl X "enumerate") (hm : X.mg "enumerate" = none) (ha : PA X [e] ta) (hs : starEach [e] X.env = [(false, eval e X.env)] := by rfl) : PI X (.Tuple elts kk tpos) (.Call (.Name "enumerate" p) [e] [] pos) (iEnumT X.K ta) := by
  refine ⟨fun pins s σ H R I h => ?_⟩; refine Call_ (ld_blt I hg hm boot_enumerate (PyProof.Rows.callWith_type1 (thn (ha.run pos pins s σ H _ I h) fun us s1 ⟨vs, H1, I1, r1, q1⟩ => ?_) hs rfl))
  obtain ⟨a, xs, ex, hq, q⟩ := q1
  subst ex
  cases r1 with
  | cons r rr =>
    cases rr
    cases r
    obtain ⟨its, rv, p', hz⟩ := I1.tuple hq
    have ta' : s1.heap.IsTuple a its.toArray := p'
    refine call_enum1 (begins_tuple a its.toArray) ta' fun h' he hit hk => wpAny_pyIter_enum he ?_
    have I2 : Inv X pins σ H1 { s1 with heap := h' } := I1.kept (t' := s1.toks) hk
    refine ⟨s1.heap.objs.size + 1, [s1.heap.objs.size + 1, s1.heap.objs.size], _, _, H1, rfl, I2, turn_enumT a (s1.heap.objs.size + 1) s1.heap.objs.size, ⟨⟨.none, he⟩, ⟨_, hit, rfl, rfl⟩, Nat.succ_ne_self _⟩, fun b hb => ?_, q⟩
    have hle : s1.heap.objs.size ≤ b := by
      rcases (by simpa using hb : b = s1.heap.objs.size + 1 ∨ b = s1.heap.objs.size) with z | z
      · rw [z]; exact Nat.le_succ _
      · rw [z]; exact Nat.le_refl _
    exact I1.fpOk hle (I1.hok.fresh hle)
theorem walk_enumT {K : PySem.W.Frag} {a : Addr} {xs : List V} : Walk (IteT K a) xs.length (fun H => SqT K H a xs) (YPair (fun i => some (.int (i : Nat))) (fun i => xs[i]?)) := by
  refine ⟨?_, ?_, ?_⟩
  · intro i H hi q
    exact ⟨xs, xs[i], q, by simp [hi]⟩
  · intro H q
    exact ⟨xs, q, rfl⟩
  · rintro i H v H' hi q ⟨T, x, e, n, e2, h1⟩
    exact ⟨T, _, x, e, n, e2, rfl, h1 xs q⟩
end Pl
namespace Pl
open PySem PySem.Spec PyProof.Rows L2 PySem.MeetsSeq PySem.MeetsSeq2 PySem.MeetsSeq3 PySem.SeqAt
section
variable {X : Cx}


end
end Pl
namespace Pl
open PySem PySem.Spec PyProof.Rows L2 PySem.MeetsSeq PySem.MeetsSeq2 PySem.MeetsSeq3 PySem.SeqAt
section
variable {X : Cx}


end
end Pl
namespace Pl
open PySem PySem.Spec PyProof.Rows L2 PySem.MeetsSeq PySem.MeetsSeq2 PySem.MeetsSeq3 PySem.SeqAt
/-! blocks of any number of clauses -/
section
variable {kx vx t i t1 i1 : Expr} {ifs ifs1 : List Expr} {G : List Comprehension} {scope : Scope} {pos : Pos} {it : Value} {D : Addr} {acc : Value} {env : Env} {j : Nat}
theorem dturn_mid (h0 : G[j]? = some ⟨t, i, ifs, 0⟩) (h1 : G[j + 1]? = some ⟨t1, i1, ifs1, 0⟩) : compTurn (.DictComp kx vx G scope pos) j it acc env = (do
    standAt i.pos
    match ← pyNext it with
    | none => pure (.done .next)
    | some v =>
      letOwnedTupleGo t it v
      assign t env v
      let mut ok := true
      for c in ifs do if ok then ok ← isTrue c env (eval c env)
      if ok then
        let x ← eval i1 env
        standAt i1.pos
        let x ← foldedSetIterable i1 env x
        let _ ← runOwn (.compStart (.DictComp kx vx G scope pos) (j + 1) (← holding [x] (pyIter x)) acc env) env
      again (.compLoop (.DictComp kx vx G scope pos) j it acc env)) := by
  unfold compTurn
  dsimp only
  rw [h0]
  dsimp only
  rw [h1]
  rfl
theorem dturn_last (h0 : G[j]? = some ⟨t, i, ifs, 0⟩) (h1 : G[j + 1]? = none) : compTurn (.DictComp kx vx G scope pos) j it (.ref D) env = (do
    standAt i.pos
    match ← pyNext it with
    | none => pure (.done .next)
    | some v =>
      letOwnedTupleGo t it v
      assign t env v
      let mut ok := true
      for c in ifs do if ok then ok ← isTrue c env (eval c env)
      if ok then
        (do
          let kv ← eval kx env
          let vv ← holding [kv] (eval vx env)
          standAt { kx.pos with endLine := vx.pos.endLine, endCol := vx.pos.endCol }
          holding [kv, vv] (dictSet D kv vv))
      again (.compLoop (.DictComp kx vx G scope pos) j it (.ref D) env)) := by
  unfold compTurn
  dsimp only
  rw [h0]
  dsimp only
  rw [h1]
  rfl
end
section
variable {prog : Program} {w : World} {A : Around} {R : Result → Shared → Prop} {s : Shared} {kx vx t i : Expr} {ifs : List Expr} {G : List Comprehension} {scope : Scope} {pos : Pos} {it : Value} {D : Addr} {env : Env} {j : Nat}
/-- what runs behind a clause's store and tests -/
def BehindD (prog : Program) (w : World) (A : Around) (kx vx : Expr) (G : List Comprehension) (scope : Scope) (pos : Pos) (j : Nat) (D : Addr) (env : Env) (N : Value → Shared → Prop) (post : Shared → Prop) (s : Shared) : Prop :=
  match G[j + 1]? with
  | some g => wpAny (model prog w) A (eval g.iter env) (fun x s5 => wpAny (model prog w) A (pyIter x) (fun it1 s6 => codeAny (model prog w) A (.compStart (.DictComp kx vx G scope pos) (j + 1) it1 (.ref D) env) (fun r s' => match r with | .ok _ => post s' | .error _ => False) s6) N s5) N s
  | none => wpAny (model prog w) A (eval kx env) (fun x s5 => wpAny (model prog w) A (eval vx env) (fun y s6 => wpAny (model prog w) A (dictSet D x y) (fun _ s7 => post s7) N s6) N s5) N s
theorem dloop_any (h0 : G[j]? = some ⟨t, i, ifs, 0⟩) (hb : ∀ g, G[j + 1]? = some g → g.is_async = 0 ∧ ∀ x, foldedSetIterable g.iter env x = pure x) (I : Nat → Shared → Prop)
    (turn : ∀ n s, I n s → wpAny (model prog w) A (pyNext it) (fun r s1 => match r with
      | none => R (.ok .next) s1
      | some v => wpAny (model prog w) A (letOwnedTupleGo t it v) (fun _ s2 => wpAny (model prog w) A (assign t env v) (fun _ s3 => wpAny (model prog w) A (forIn ifs true fun c r => if r = true then do let ok ← isTrue c env (eval c env); pure (ForInStep.yield ok) else pure (ForInStep.yield r)) (fun ok s4 =>
          if ok = true then BehindD prog w A kx vx G scope pos j D env (notedBy (model prog w) A env fun e s' => R (.error e) s') (fun s' => ∃ m, m < n ∧ I m s') s4 else ∃ m, m < n ∧ I m s4)
          (notedBy (model prog w) A env fun e s' => R (.error e) s') s3) (notedBy (model prog w) A env fun e s' => R (.error e) s') s2) (notedBy (model prog w) A env fun e s' => R (.error e) s') s1) (notedBy (model prog w) A env fun e s' => R (.error e) s') s)
    (n : Nat) (h : I n s) : codeAny (model prog w) A (.compLoop (.DictComp kx vx G scope pos) j it (.ref D) env) R s := by
  refine codeAny_loop rfl I (fun n s hI => ?_) n h; show wpAny _ A ((compTurn (.DictComp kx vx G scope pos) j it (.ref D) env).onRaise (fun x => do noteFrame x env; theTreesLotGoes x)) _ _ s
  refine wpAny_noted ?_
  have T := turn n s hI
  cases h1 : G[j + 1]? with
  | some g =>
    obtain ⟨t1, i1, ifs1, as⟩ := g
    obtain ⟨ha, hs⟩ := hb _ h1
    obtain rfl : as = 0 := ha
    rw [dturn_mid h0 h1]
    refine wpAny_bind (wpAny_standAt (wpAny_bind (wpAny_mono T (fun r s1 q1 => ?_) fun _ _ e => e)))
    cases r with
    | none => exact wpAny_pure q1
    | some v =>
      refine wpAny_bind (wpAny_mono q1 (fun _ s2 q2 => wpAny_bind (wpAny_mono q2 (fun _ s3 q3 => wpAny_bind (wpAny_mono q3 (fun ok s4 q4 => ?_) fun _ _ e => e)) fun _ _ e => e)) fun _ _ e => e)
      cases ok with
      | false => exact wpAny_pure ⟨rfl, q4⟩
      | true =>
        have q4 : BehindD prog w A kx vx G scope pos j D env _ _ s4 := q4
        unfold BehindD at q4
        rw [h1] at q4
        refine wpAny_bind (wpAny_mono q4 (fun x s5 q5 => ?_) fun _ _ e => e)
        refine wpAny_bind (wpAny_standAt (wpAny_bind (wpAny_of_eq (hs x) (wpAny_bind (wpAny_holding (wpAny_mono q5 (fun it1 s6 q6 => ?_) fun _ _ e => e))))))
        refine wpAny_bind (wpAny_runOwn ?_)
        rw [Around.mark_none]
        refine codeAny_mono q6 fun r s' hr => ?_
        cases r with
        | ok f => first | exact wpAny_pure ⟨rfl, hr⟩ | exact wpAny_bind (wpAny_pure (wpAny_pure ⟨rfl, hr⟩))
        | error e => exact hr.elim
  | none =>
    rw [dturn_last h0 h1]
    refine wpAny_bind (wpAny_standAt (wpAny_bind (wpAny_mono T (fun r s1 q1 => ?_) fun _ _ e => e)))
    cases r with
    | none => exact wpAny_pure q1
    | some v =>
      refine wpAny_bind (wpAny_mono q1 (fun _ s2 q2 => wpAny_bind (wpAny_mono q2 (fun _ s3 q3 => wpAny_bind (wpAny_mono q3 (fun ok s4 q4 => ?_) fun _ _ e => e)) fun _ _ e => e)) fun _ _ e => e)
      cases ok with
      | false => exact wpAny_pure ⟨rfl, q4⟩
      | true =>
        have q4 : BehindD prog w A kx vx G scope pos j D env _ _ s4 := q4
        unfold BehindD at q4
        rw [h1] at q4
        exact wpAny_bind (wpAny_bind (wpAny_mono q4 (fun kv s5 q5 => wpAny_bind (wpAny_holding (wpAny_mono q5 (fun vv s6 q6 => wpAny_bind (wpAny_standAt (wpAny_holding (wpAny_mono q6 (fun _ s7 q7 => wpAny_pure ⟨rfl, q7⟩) fun _ _ e => e)))) fun _ _ e => e))) fun _ _ e => e))
theorem dstart_any (hg : ∃ g, G[j]? = some g ∧ g.is_async = 0) (a : codeAny (model prog w) A (.compLoop (.DictComp kx vx G scope pos) j it (.ref D) env) R s)
    (b : wpAny (model prog w) A (pyIter it) (fun it' s' => codeAny (model prog w) A (.compLoop (.DictComp kx vx G scope pos) j it' (.ref D) env) R s') (notedBy (model prog w) A env fun x s' => R (.error x) s') s) :
    codeAny (model prog w) A (.compStart (.DictComp kx vx G scope pos) j it (.ref D) env) R s := by
  obtain ⟨g, h0, ha⟩ := hg
  refine codeAny_of_tree ?_; show wpAny _ _ ((compStart (.DictComp kx vx G scope pos) j it (.ref D) env).onRaise (fun x => do noteFrame x env; standAt theWindowsPlace)) _ _ s
  refine wpAny_notedAt ?_
  unfold compStart
  have hcl : (clausesOf (.DictComp kx vx G scope pos))[j]? = some g := h0
  rw [hcl]
  simp only [Option.elim_some, ha]
  rw [if_neg (by simp)]
  refine wpAny_bind (wpAny_askSetting (wpAny_ite ?_))
  split
  · first | exact wpAny_bind (wpAny_pure (wpAny_pure (And.intro rfl a))) | exact wpAny_pure (And.intro rfl a)
  · first
      | exact wpAny_bind (wpAny_rule (wpAny_bind (wpAny_standAt (wpAny_bind (wpAny_mono b (fun it' s' h' => wpAny_pure (And.intro rfl h')) fun _ _ x => x)))))
      | (refine wpAny_bind (wpAny_rule ?_); exact wpAny_bind (wpAny_standAt (wpAny_bind (wpAny_mono b (fun it' s' h' => wpAny_pure (And.intro rfl h')) fun _ _ x => x))))
end
theorem BehindD.mono {prog : Program} {w : World} {A : Around} {kx vx : Expr} {G : List Comprehension} {scope : Scope} {pos : Pos} {j : Nat} {D : Addr} {env : Env} {N : Value → Shared → Prop} {p p' : Shared → Prop} {s : Shared} (h : BehindD prog w A kx vx G scope pos j D env N p s) (k : ∀ s', p s' → p' s') : BehindD prog w A kx vx G scope pos j D env N p' s := by
  unfold BehindD at h ⊢
  cases e : G[j + 1]? with
  | some g =>
    rw [e] at h
    exact wpAny_mono h (fun x s5 q5 => wpAny_mono q5 (fun it s6 q6 => codeAny_mono q6 fun r s' hr => by
      cases r with
      | ok f => exact k s' hr
      | error x => exact hr) fun _ _ z => z) fun _ _ z => z
  | none =>
    rw [e] at h
    exact wpAny_mono h (fun x s5 q5 => wpAny_mono q5 (fun y s6 q6 => wpAny_mono q6 (fun _ s7 q7 => k s7 q7) fun _ _ z => z) fun _ _ z => z) fun _ _ z => z
theorem d_dictSetT {X : Cx} {pins : List (Addr × Obj)} {σ : L2.St} {H : Hp} {s : Shared} {E : Value → Shared → Prop} {D b : Addr} {kvs : List (List Key × V)} {k : List Key} {v : V} {u r : Value} {Q : Unit → Shared → Prop} (hu : X.A.units + 1 < cLine) (I : Inv X pins σ H s) (hD : H D = some (.dT kvs)) (eb : H b = some (.tup (k.map kV))) (hz : kvs.length < sizeLine)
    (ry : RelV (.ref b) u) (rv : RelV v r) (h : ∀ s', Inv X pins σ (upd H D (.dT (putK kvs k v))) s' → Q () s') : wpAny (model X.prog X.w) X.A (dictSet D u r) Q E s := by
  cases (show u = Value.ref b from ry)
  obtain ⟨z, hd, xs, rel, dd⟩ := dt_of I.hok hD
  have hz : xs.length ≤ sizeLine := by rw [← Paired.length rel]; exact z
  have hl : (putK kvs k v).length ≤ sizeLine := by have := length_putK kvs k v; omega
  refine wpAny_dictSet_heap (hsz := hz) (by show X.A.units < cLine; omega) (key_of I.hok eb) dd fun h' dd' hs => h _ ?_
  obtain ⟨q, es, ep, hq, h2, h3, h4, _, h5⟩ := dd'
  refine d_write I (by rw [hD]; exact True.intro) hs ⟨q, hq⟩ ⟨hl, hd, _, (rel.put k eb rv).keeps fun c ys ec => ?_, q, es, ep, hq, h2, h3, h4, h5⟩
  rw [upd_ne (ne_of ec hD (fun z => nomatch z))]
  exact ec
/-! what a block of several clauses does -/
def tItemD (tk tv : TE) : TIn := fun σ H D Nx => tk σ H fun y H1 => tv σ H1 fun z H2 => ∃ kvs k b, y = .ref b ∧ H2 b = some (.tup (k.map kV)) ∧ H2 D = some (.dT kvs) ∧ kvs.length < sizeLine ∧ Nx (upd H2 D (.dT (putK kvs k z)))
inductive PInsD (Y : Cx) (kx vx : Expr) : List Comprehension → List Nat → TIn → Prop
  | nil {tk tv : TE} : PE Y kx tk → PE Y vx tv → PInsD Y kx vx [] [] (tItemD tk tv)
  | cons {tg iter : Expr} {ifs : List Expr} {wi : TI} {g : TG} {tt : TT} {us vs : List Nat} {r : List Comprehension} {t : TIn} : PI Y tg iter wi → PG Y tg g → PTs Y ifs tt → (∀ i ∈ vs, i ∈ us) → (∀ env x, foldedSetIterable iter env x = pure x) → PInsD Y kx vx r vs t → PInsD Y kx vx (⟨tg, iter, ifs, 0⟩ :: r) us (tClause wi g tt us t)
section
variable {X : Cx}
theorem dinner_ok {s3 : Shared} {H3 : Hp} {scope : Scope} {ce : Env} {fp : List Addr} {kx vx : Expr} {pos : Pos} {G : List Comprehension} {D : Addr} (hc : X.calm = true) (hu : X.A.units + 1 < cLine) (hce : (X.blk s3 H3 scope ce fp).env = ce) : ∀ {r : List Comprehension} {us : List Nat} {t : TIn}, PInsD (X.blk s3 H3 scope ce fp) kx vx r us t →
    ∀ {j : Nat}, G.drop (j + 1) = r → ∀ {pins : List (Addr × Obj)} {σ : L2.St} {H : Hp} {s : Shared} {Nx : Hp → Prop} {N : Value → Shared → Prop}, Inv (X.blk s3 H3 scope ce fp) pins σ H s → t σ H D Nx →
      BehindD X.prog X.w X.A kx vx G scope pos j D ce N (fun s' => ∃ H', Inv (X.blk s3 H3 scope ce fp) pins (wipe σ us) H' s' ∧ Nx H') s := by
  intro r us t P
  induction P with
  | @nil tk tv pk pe =>
    intro j hG pins σ H s Nx N I q
    have e : G[j + 1]? = none := drop_none hG
    unfold BehindD
    rw [e]
    refine thnF (pk.run _ s σ H _ I q) fun z s1 ⟨yk, H1, I1, r1, q1⟩ => ?_
    refine thnF (pe.run _ s1 σ H1 _ I1 q1) fun z2 s2 ⟨yv, H2, I2, r2, kvs, k, b, ek, hb, hD, hz, nx⟩ => ?_
    subst ek
    exact d_dictSetT (X := X.blk s3 H3 scope ce fp) hu I2 hD hb hz r1 r2 fun s3 I3 => ⟨_, I3, nx⟩
  | @cons tg iter ifs wi g tt us vs r t pi pg pt hv hs Pr ih =>
    intro j hG pins σ H s Nx N I q
    have e : G[j + 1]? = some ⟨tg, iter, ifs, 0⟩ := drop_cons hG
    have hG2 : G.drop (j + 1 + 1) = r := by
      have z := congrArg (List.drop 1) hG
      simpa [List.drop_drop] using z
    unfold BehindD
    rw [e]
    refine thnF (pi.run _ s σ H _ I q) fun xv s1 hx => thnF hx fun itv s2 h2 => ?_
    obtain ⟨it, fp1, tn, J, H2, e1, I2, T, st2, f2, W, ⟨m, w0⟩, turn⟩ := h2
    subst e1
    have stat : ∀ {H' : Hp}, (∀ b ∈ fp1, H' b = none) → ∀ b ∈ fp1, FpOk (X.blk s3 H3 scope ce fp) pins H' b := fun hn b hb => ⟨hn b hb, (f2 b hb).2⟩
    have hnx : ∀ g', G[j + 1 + 1]? = some g' → g'.is_async = 0 ∧ ∀ x, foldedSetIterable g'.iter ce x = pure x := by
      intro g' hg'
      cases Pr with
      | nil pk pe =>
        rw [drop_none hG2] at hg'
        cases hg'
      | cons a b c d e f =>
        rw [drop_cons hG2] at hg'
        cases hg'
        exact ⟨rfl, e ce⟩
    have loop : codeAny (model X.prog X.w) X.A (.compLoop (.DictComp kx vx G scope pos) (j + 1) (.ref it) (.ref D) ce) (fun r s' => match r with | .ok _ => ∃ H', Inv (X.blk s3 H3 scope ce fp) pins (wipe σ us) H' s' ∧ Nx H' | .error _ => False) s2 := by
      refine dloop_any e hnx (fun k s' => ∃ jj H', Inv (X.blk s3 H3 scope ce fp) pins (wipe σ us) H' s' ∧ tn jj s'.heap ∧ (∀ b ∈ fp1, H' b = none) ∧ W jj k H') ?_ m ⟨0, H2, I2.weak (wipe_length _ _) (fun j v e => (wipe_some e).1), st2, fun b hb => (f2 b hb).1, w0⟩
      rintro k s4 ⟨jj, H4, I4, st4, n4, w4⟩
      rcases turn jj k H4 w4 with ⟨stop, nx⟩ | ⟨go, Nx1, hNx1, step⟩
      · refine thnF (T.done (X.blk s3 H3 scope ce fp) rfl rfl rfl hc jj _ s4 (wipe σ us) H4 (fun _ _ => False) I4 (stat n4) st4 stop) fun r s5 ⟨hr, I5⟩ => ?_
        subst hr
        exact ⟨_, I5, nx⟩
      · refine thnF (T.item (X.blk s3 H3 scope ce fp) rfl rfl rfl hc jj _ s4 (wipe σ us) H4 (fun _ _ => False) I4 (stat n4) st4 go) fun r s5 ⟨u, hr, h5⟩ => ?_
        subst hr
        refine thnF h5 fun _ s6 ⟨x, H6, I6, r6, y6, st6, n6⟩ => ?_
        have I6' := I6.pinned (stat n6) (T.obj _ _ st6)
        refine thnF (pg.run _ s6 (wipe σ us) H6 x u _ I6' r6 (step x H6 y6)) fun _ s7 ⟨σ7, H7, I7, hw, q7⟩ => ?_
        refine thnF (pt.run _ s7 σ7 H7 _ I7 q7) fun b s8 ⟨H8, I8, q8⟩ => ?_
        have fin : ∀ {σ' : L2.St} {s' : Shared} {H' : Hp}, Inv (X.blk s3 H3 scope ce fp) (pins ++ pinsAt fp1 s6.heap) σ' H' s' → (wipe σ us).length = σ'.length → (∀ (n : Nat) v, (wipe σ us)[n]? = some (some v) → σ'[n]? = some (some v)) → Nx1 H' → ∃ m, m < k ∧ ∃ jj H', Inv (X.blk s3 H3 scope ce fp) pins (wipe σ us) H' s' ∧ tn jj s'.heap ∧ (∀ b ∈ fp1, H' b = none) ∧ W jj m H' := fun {σ' s' H'} I' hl hk nx => by
          obtain ⟨m', hm, w'⟩ := hNx1 H' nx
          have pin' : ∀ b ∈ fp1, ∀ o, s6.heap.get? b = some o → s'.heap.get? b = some o ∧ H' b = none := fun b hb o eo => by
            have z := I'.pin (b, o) (List.mem_append_right _ (List.mem_append_right _ (mem_pinsAt hb eo)))
            exact ⟨z.1, z.2.1⟩
          refine ⟨m', hm, jj + 1, H', I'.unpinned.weak hl hk, T.keep _ _ _ st6 fun b hb o eo => (pin' b hb o eo).1, fun b hb => ?_, w'⟩
          obtain ⟨o, eo, _⟩ := T.obj _ _ st6 b hb
          exact (pin' b hb o eo).2
        have hl7 : (wipe σ us).length = σ7.length := by rw [← hw, wipe_length]
        have hk7 : ∀ (n : Nat) v, (wipe σ us)[n]? = some (some v) → σ7[n]? = some (some v) := fun n v z => by
          rw [← hw] at z
          exact (wipe_some z).1
        cases b with
        | false =>
          simp only [Bool.false_eq_true, if_false] at q8 ⊢
          exact fin I8 hl7 hk7 q8
        | true =>
          simp only [if_true] at q8 ⊢
          refine (ih hG2 I8 q8).mono fun s' ⟨H', I', nx⟩ => fin I' (hl7.trans (wipe_length _ _).symm) (fun n v z => ?_) nx
          rw [← hw] at z
          obtain ⟨z1, z2⟩ := wipe_some z
          rw [wipe_out fun y => z2 (hv n y)]
          exact z1
    exact dstart_any ⟨_, e, rfl⟩ loop (T.self X.A 0 _ _ _ st2 loop)
/-- the whole block: the first clause's source is the def's own; us: all names of the block -/
def tDcN (wi : TI) (g : TG) (tt : TT) (t : TIn) (us : List Nat) : TE := fun σ H Q => wi σ H fun J H1 => ∀ D, H1 D = none → ∃ W : Nat → Nat → Hp → Prop, (∃ m, W 0 m (upd H1 D (.dT []))) ∧ ∀ i m H, W i m H →
  (J.stop i H ∧ Q (.ref D) H) ∨ (J.go i H ∧ ∃ Nx : Hp → Prop, (∀ H', Nx H' → ∃ m', m' < m ∧ W (i + 1) m' H') ∧ ∀ x H', J.yld i H x H' → g x (wipe σ us) H' fun σ2 H2 => wipe σ2 us = wipe σ us ∧ tt σ2 H2 fun b H3 => if b = true then t σ2 H3 D Nx else Nx H3)
theorem dcN_core {pins : List (Addr × Obj)} {s : Shared} {σ : L2.St} {H : Hp} {Q : VK} {kx vx tg iter : Expr} {ifs : List Expr} {rest : List Comprehension} {scope : Scope} {own : List (Str × Nat)} {vs : List Nat} {pos pos' : Pos} {wi : TI} {g : TG} {tt : TT} {t : TIn} {use : Option (Value → Sem Unit)} {Qf : Value → Shared → Prop}
    (hc : X.calm = true) (hu : X.A.units + 1 < cLine) (hN : X.N.Nodup) (I : Inv X pins σ H s) (hi : PI X tg iter wi) (ok : BlkOk X.N X.env.scope scope own) (hv : ∀ i ∈ vs, i ∈ own.map (·.2))
    (hq : ∀ (s : Shared) (H : Hp) (C : Addr) (cl : List (Str × Addr)) (fp : List Addr), PG (X.blk s H scope (compEnvC scope cl C X.env) fp) tg g ∧ PTs (X.blk s H scope (compEnvC scope cl C X.env) fp) ifs tt ∧ PInsD (X.blk s H scope (compEnvC scope cl C X.env) fp) kx vx rest vs t)
    (hs : ∀ x, foldedSetIterable iter X.env x = pure x) (h : tDcN wi g tt t (own.map (·.2)) σ H Q)
    (hRR : ∀ D C s' m H', Inv X pins σ H' s' → Q (.ref D) H' → s'.heap.Ns C m → FpOk X pins H' C → compPost (model X.prog X.w) X.A X.xe use Qf (.ref D) C (.ok .next) s') :
    wpAny (model X.prog X.w) X.A (comprehension (.DictComp kx vx (⟨tg, iter, ifs, 0⟩ :: rest) scope pos) scope X.env pos' newDict false (eval iter X.env) use) Qf X.xe s := by
  have hfree : ∀ y ∈ scope.names, y.2 = .free → ∃ c, X.env.cells.lookup y.1 = some c := fun y hy e => (ok.free y hy e).elim (fun k => I.ok.has _ (.inl k)) fun k => I.ok.has _ (.inr k)
  refine wpAny_comprehension_free (use := use) rfl hs (closure_ok hfree) ok.kind (fun y hy e => by rw [ok.uniq y hy, e]) (thn (hi.run pins s σ H _ I h) fun xv s1 hx => thn hx fun itv s2 h2 => ?_)
  obtain ⟨it, fp, tn, J, H2, e, I2, T, st2, f2, q⟩ := h2
  subst e
  refine wpAny_newObj_type (newEnv_comp ?_)
  generalize hD : s2.heap.objs.size = D
  obtain ⟨W, ⟨m0, w0⟩, turn⟩ := q D (I2.hok.fresh (Nat.le_of_eq hD))
  generalize hs3 : ({ s2 with heap := s2.heap.push { cls := .type "dict", data := .dict #[] } } : Shared) = s3
  have h3 : s3.heap = s2.heap.push { cls := .type "dict", data := .dict #[] } := by rw [← hs3]
  have I3 : Inv X pins σ (upd H2 D (.dT [])) s3 := by
    rw [← hs3]
    refine I2.laid (t' := s2.toks) (fun b o e => Heap.get?_push_of_some _ e) (Nat.le_of_eq hD) ?_
    rw [← hD]
    exact dt_empty s2.heap I2.big
  have f3 : ∀ b ∈ fp, FpOk X pins (upd H2 D (.dT [])) b ∧ b < s3.heap.objs.size := fun b hb => by
    obtain ⟨o, e, _⟩ := T.obj _ _ st2 b hb
    have lt := Heap.lt_size e
    exact ⟨⟨by rw [upd_ne (by rw [← hD]; exact Nat.ne_of_lt lt)]; exact (f2 b hb).1, (f2 b hb).2⟩, by rw [h3, Heap.size_push]; exact Nat.lt_succ_of_lt lt⟩
  have st3 : tn 0 s3.heap := T.keep _ _ _ st2 fun b _ o e => by rw [h3]; exact Heap.get?_push_of_some _ e
  have I4 := block_start I3 ok hN f3
  obtain ⟨pg, pt, pin⟩ := hq s3 (upd H2 D (.dT [])) s3.heap.objs.size (cellsFrom (s3.heap.objs.size + 1) scope.names (cloFrom X.env.cells scope.names [])) fp
  show codeAny _ _ (.compStart (.DictComp kx vx (⟨tg, iter, ifs, 0⟩ :: rest) scope pos) 0 (.ref it) (.ref D) (compEnvC scope (cellsFrom (s3.heap.objs.size + 1) scope.names (cloFrom X.env.cells scope.names [])) s3.heap.objs.size X.env)) (compPost (model X.prog X.w) X.A X.xe use Qf (.ref D) s3.heap.objs.size) { s3 with heap := pushCells (s3.heap.push { cls := .type "dict", data := .dict #[] }) scope.names }
  have nfp : ∀ b ∈ fp, (upd H2 D (.dT [])) b = none := fun b hb => (f3 b hb).1.1
  generalize hce : compEnvC scope (cellsFrom (s3.heap.objs.size + 1) scope.names (cloFrom X.env.cells scope.names [])) s3.heap.objs.size X.env = ce at I4 pg pt pin ⊢
  have cL : ce.locals = s3.heap.objs.size := by subst hce; rfl
  generalize hH3 : upd H2 D (.dT []) = H3 at I3 I4 pg pt pin w0 nfp f3
  generalize hs4 : ({ s3 with heap := pushCells (s3.heap.push { cls := .type "dict", data := .dict #[] }) scope.names } : Shared) = s4 at I4 ⊢
  have st4 : tn 0 s4.heap := T.keep _ _ _ st3 fun b _ o e => by rw [← hs4]; exact pushCells_keeps _ _ _ _ (Heap.get?_push_of_some _ e)
  have stat : ∀ {σ' : L2.St} {H' : Hp} {s' : Shared}, Inv (X.blk s3 H3 scope ce fp) [] σ' H' s' → (∀ b ∈ fp, H' b = none) → ∀ b ∈ fp, FpOk (X.blk s3 H3 scope ce fp) [] H' b := fun {σ' H' s'} I' hn b hb => ⟨hn b hb, (I'.ok.exf b hb).1, I'.ok.exfs b hb, .inl hb, fun x c e => (I'.ok.exf b hb).2 x c e, fun p hp => absurd (show p ∈ ([] : List (Addr × Obj)) ++ [] from hp) (by simp)⟩
  have hnx : ∀ g', (⟨tg, iter, ifs, 0⟩ :: rest : List Comprehension)[0 + 1]? = some g' → g'.is_async = 0 ∧ ∀ x, foldedSetIterable g'.iter ce x = pure x := by
    intro g' hg'
    cases pin with
    | nil pk pe => cases hg'
    | cons a b c d e f =>
      cases hg'
      exact ⟨rfl, e ce⟩
  have loop : codeAny (model X.prog X.w) X.A (.compLoop (.DictComp kx vx (⟨tg, iter, ifs, 0⟩ :: rest) scope pos) 0 (.ref it) (.ref D) ce) (compPost (model X.prog X.w) X.A X.xe use Qf (.ref D) s3.heap.objs.size) s4 := by
    refine dloop_any rfl hnx (fun n s' => ∃ i H', Inv (X.blk s3 H3 scope ce fp) [] (wipe σ (own.map (·.2))) H' s' ∧ tn i s'.heap ∧ (∀ b ∈ fp, H' b = none) ∧ W i n H') ?_ m0 ⟨0, H3, I4, st4, nfp, w0⟩
    rintro n s5 ⟨i, H5, I5, st5, n5, w5⟩
    rcases turn i n H5 w5 with ⟨stop, qq⟩ | ⟨go, Nx, hNx, step⟩
    · refine thnF (T.done (X.blk s3 H3 scope ce fp) rfl rfl rfl hc i [] s5 _ H5 (fun _ _ => False) I5 (stat I5 n5) st5 stop) fun r s6 ⟨hr, I6⟩ => ?_
      subst hr
      have I7 : Inv X pins σ H5 s6 := I3.call' (ch := fp) I6.os I6.base I6.hok I6.bare fun b hb => ⟨(f3 b hb).1.2.2.2.1, (f3 b hb).1.2.1, (f3 b hb).1.2.2.2.2.1, (f3 b hb).1.2.2.2.2.2⟩
      have nC : H5 s3.heap.objs.size = none := by
        have z : H5 ce.locals = none := I6.free
        rwa [cL] at z
      obtain ⟨m, hn, _⟩ := I6.loc
      have hn : s6.heap.Ns ce.locals m := hn
      rw [cL] at hn
      exact hRR D s3.heap.objs.size s6 m H5 I7 qq hn (I3.fpOk (Nat.le_refl _) nC)
    · refine thnF (T.item (X.blk s3 H3 scope ce fp) rfl rfl rfl hc i [] s5 _ H5 (fun _ _ => False) I5 (stat I5 n5) st5 go) fun r s6 ⟨u, hr, h6⟩ => ?_
      subst hr
      refine thnF h6 fun _ s7 ⟨x, H7, I7, r7, y7, st7, n7⟩ => ?_
      have I7' := I7.pinned (stat I7 n7) (T.obj _ _ st7)
      refine thnF (pg.run _ s7 _ H7 x u _ I7' r7 (step x H7 y7)) fun _ s8 ⟨σ8, H8, I8, hw8, q8⟩ => ?_
      refine thnF (pt.run _ s8 σ8 H8 _ I8 q8) fun b s9 ⟨H9, I9, q9⟩ => ?_
      have fin : ∀ {σ9 : L2.St} {s' : Shared} {H' : Hp}, Inv (X.blk s3 H3 scope ce fp) ([] ++ pinsAt fp s7.heap) σ9 H' s' → (wipe σ (own.map (·.2))).length = σ9.length → (∀ (j : Nat) v, (wipe σ (own.map (·.2)))[j]? = some (some v) → σ9[j]? = some (some v)) → Nx H' →
          ∃ m, m < n ∧ ∃ i H', Inv (X.blk s3 H3 scope ce fp) [] (wipe σ (own.map (·.2))) H' s' ∧ tn i s'.heap ∧ (∀ b ∈ fp, H' b = none) ∧ W i m H' := fun {σ9 s' H'} I' hl hk nx => by
        obtain ⟨m', hm, w'⟩ := hNx H' nx
        have pin' : ∀ b ∈ fp, ∀ o, s7.heap.get? b = some o → s'.heap.get? b = some o ∧ H' b = none := fun b hb o e => by
          have z := I'.pin (b, o) (List.mem_append_right _ (List.mem_append_right _ (mem_pinsAt hb e)))
          exact ⟨z.1, z.2.1⟩
        refine ⟨m', hm, i + 1, H', (I'.unpinned (pins := [])).weak hl hk, T.keep _ _ _ st7 fun b hb o e => (pin' b hb o e).1, fun b hb => ?_, w'⟩
        obtain ⟨o, e, _⟩ := T.obj _ _ st7 b hb
        exact (pin' b hb o e).2
      have hl8 : (wipe σ (own.map (·.2))).length = σ8.length := by rw [← hw8, wipe_length]
      cases b with
      | false =>
        simp only [Bool.false_eq_true, if_false] at q9 ⊢
        exact fin I9 hl8 (fun j v e => by rw [← hw8] at e; exact (wipe_some e).1) q9
      | true =>
        simp only [if_true] at q9 ⊢
        refine (dinner_ok (G := ⟨tg, iter, ifs, 0⟩ :: rest) hc hu rfl pin (j := 0) rfl I9 q9).mono fun s' ⟨H', I', nx⟩ => fin I' (hl8.trans (wipe_length _ _).symm) (fun n v z => ?_) nx
        rw [← hw8] at z
        obtain ⟨z1, z2⟩ := wipe_some z
        rw [wipe_out fun y => z2 (hv n y)]
        exact z1
  exact dstart_any ⟨_, rfl, rfl⟩ loop (T.self X.A 0 _ _ _ st4 loop)
/-- a block of several clauses as a value -/
theorem pe_dcN {kx vx tg iter : Expr} {ifs : List Expr} {rest : List Comprehension} {scope : Scope} {own : List (Str × Nat)} {vs : List Nat} {pos : Pos} {wi : TI} {g : TG} {tt : TT} {t : TIn} (hc : X.calm = true) (hu : X.A.units + 1 < cLine) (hN : X.N.Nodup) (hi : PI X tg iter wi) (ok : BlkOk X.N X.env.scope scope own) (hv : ∀ i ∈ vs, i ∈ own.map (·.2))
    (hq : ∀ (s : Shared) (H : Hp) (C : Addr) (cl : List (Str × Addr)) (fp : List Addr), PG (X.blk s H scope (compEnvC scope cl C X.env) fp) tg g ∧ PTs (X.blk s H scope (compEnvC scope cl C X.env) fp) ifs tt ∧ PInsD (X.blk s H scope (compEnvC scope cl C X.env) fp) kx vx rest vs t)
    (hs : ∀ x, foldedSetIterable iter X.env x = pure x := by intro _; rfl) : PE X (.DictComp kx vx (⟨tg, iter, ifs, 0⟩ :: rest) scope pos) (tDcN wi g tt t (own.map (·.2))) := by
  refine ⟨fun pins s σ H Q I h => ?_⟩; rw [arm_eval_DictComp]
  refine dcN_core hc hu hN I hi ok hv hq hs h fun D C s' m H' I' q hn f => ⟨m, hn, fun h'' sb => ?_⟩
  obtain ⟨f0, f1, f2, f3, f4, f5⟩ := f
  exact ⟨.ref D, H', I'.turned (t' := s'.toks) (fun b o hb e => (sb.2 b hb).trans e) f0 f1 f3 f4 f5, rfl, q⟩
end
end Pl
namespace Pl
open PySem PySem.Spec PyProof.Rows L2
section
variable {X : Cx}



/-! repr of data with dicts -/








end





end Pl
/-! list(zip(s, t)) of two tuples -/
namespace ZL
open PySem PySem.W PySem.Calls PySem.Spec
section
variable {prog : Program} {w : World} {A : Around} {E : Value → Shared → Prop} {s : Shared}
/-- zip.__next__ while the tuple that it gave out is held, over tuples -/
theorem held {z TI TO T i1 i2 l1 l2 : Addr} {f : Bool} {oT : Obj} {k1 k2 : Nat} {xs ys : Array Value} {Q : Value → Shared → Prop} (hh : A.handled = none) (D : ZipApart z TI TO i1 i2 l1 l2)
    (hz : IsZipHeld s.heap z TI TO T f) (hT : s.heap.get? T = some oT) (hTI : PySem.IsPair s.heap TI (.ref i1) (.ref i2))
    (h1 : s.heap.IsTupleIter i1 l1 k1) (h2 : s.heap.IsTupleIter i2 l2 k2) (hl1 : s.heap.IsTuple l1 xs) (hl2 : s.heap.IsTuple l2 ys)
    (hQ : ∀ x y, xs[k1]? = some x → ys[k2]? = some y → ∀ h', IsZipHeld h' z TI TO T true → h'.IsTupleIter i1 l1 (k1 + 1) → h'.IsTupleIter i2 l2 (k2 + 1) → PySem.IsPair h' s.heap.objs.size x y → h'.objs.size = s.heap.objs.size + 1 →
      (∀ c o, c ≠ z → c ≠ i1 → c ≠ i2 → s.heap.get? c = some o → h'.get? c = some o) → Q (.ref s.heap.objs.size) { s with heap := h' })
    (hE : (xs[k1]? = none ∨ ys[k2]? = none) → ∀ h' e, (∀ c o, c ≠ z → c ≠ i1 → c ≠ i2 → s.heap.get? c = some o → h'.get? c = some o) → (∃ o, h'.get? e = some o ∧ o.cls = .type "StopIteration") → E (.ref e) { s with heap := h' }) :
    wpAny (model prog w) A (Builtin.«zip.__next__» ⟨[.ref z], []⟩) (fun fin s' => ∃ v, fin = .done (.ret v) ∧ Q v s') E s := by
  show wpAny _ _ (field (.ref z) 2 >>= _) _ _ _
  refine wpAny_bind (wpAny_field hz rfl (x := .bool false) rfl ?_)
  show wpAny _ _ (field (.ref z) 3 >>= _) _ _ _
  refine wpAny_bind (wpAny_field hz rfl (x := .ref TI) rfl (wpAny_bind (wpAny_seqItems hTI rfl ?_)))
  show wpAny _ _ (Builtin.SmallTypes.ownedTupleIsFree (.ref z) >>= _) _ _ _
  refine wpAny_bind (wpAny_tupleHeld_zip hz hT fun h₁ hz₁ hs₁ => ?_)
  simp only [Bool.false_eq_true, if_false]
  refine wpAny_bind ?_
  rw [← Array.forIn_toList]
  simp only [List.forIn_cons, List.forIn_nil]
  refine wpAny_bind (wpAny_bind (wpAny_holding ?_))
  have g1 := h1.extBut hs₁.extBut D.i1z
  have p1 := hl1.extBut hs₁.extBut D.l1z
  show wpAny _ _ (Builtin.SmallTypes.nextOf (.ref i1) >>= _) _ _ _
  cases ex : xs[k1]? with
  | none => exact wpAny_bind (RZ.nextOf_tuple_end (s := { s with heap := h₁ }) hh g1 p1 ex fun h₂ e hs₂ he => hE (.inl ex) h₂ e (fun c o c1 c2 _ q => hs₂ _ _ c2 (hs₁.extBut _ _ c1 q)) he)
  | some x =>
    refine wpAny_bind (RZ.nextOf_tuple_item (s := { s with heap := h₁ }) g1 p1 ex fun h₂ h1₂ hs₂ => wpAny_pure (wpAny_pure ?_))
    refine wpAny_bind (wpAny_bind (wpAny_holding ?_))
    have g2 := (h2.extBut hs₁.extBut D.i2z).extBut hs₂.extBut D.i12.symm
    have p2 := (hl2.extBut hs₁.extBut D.l2z).extBut hs₂.extBut D.l2i1
    show wpAny _ _ (Builtin.SmallTypes.nextOf (.ref i2) >>= _) _ _ _
    cases ey : ys[k2]? with
    | none => exact wpAny_bind (RZ.nextOf_tuple_end (s := { s with heap := h₂ }) hh g2 p2 ey fun h₃ e hs₃ he => hE (.inr ey) h₃ e (fun c o c1 c2 c3 q => hs₃ _ _ c3 (hs₂.extBut _ _ c2 (hs₁.extBut _ _ c1 q))) he)
    | some y =>
      refine wpAny_bind (RZ.nextOf_tuple_item (s := { s with heap := h₂ }) g2 p2 ey fun h₃ h2₃ hs₃ => wpAny_pure (wpAny_pure (wpAny_pure ?_)))
      show wpAny _ _ (newTuple [x, y] >>= _) _ _ _
      refine wpAny_bind (wpAny_newTuple (wpAny_pure ⟨_, rfl, ?_⟩))
      have sz : h₃.objs.size = s.heap.objs.size := by rw [hs₃.1, hs₂.1, hs₁.1]
      have z3 : IsZipHeld h₃ z TI TO T true := hs₃.extBut _ _ D.i2z.symm (hs₂.extBut _ _ D.i1z.symm hz₁)
      have q1 := h1₂.extBut hs₃.extBut D.i12
      have np : PySem.IsPair (h₃.push { cls := .type "tuple", data := .seq #[x, y] }) h₃.objs.size x y := Heap.get?_push_size _ rfl
      have ns : (h₃.push { cls := .type "tuple", data := .seq #[x, y] }).objs.size = h₃.objs.size + 1 := Heap.size_push ..
      show Q (.ref h₃.objs.size) _
      rw [sz] at np ns ⊢
      exact hQ x y ex ey _ (Heap.get?_push_of_some _ z3) (q1.at fun o q => Heap.get?_push_of_some _ q) (h2₃.at fun o q => Heap.get?_push_of_some _ q) np ns fun c o c1 c2 c3 q => Heap.get?_push_of_some _ (hs₃.extBut _ _ c3 (hs₂.extBut _ _ c2 (hs₁.extBut _ _ c1 q)))
/-- what a zip over two tuples is between two turns -/
def St (h : Heap) (z TI TO i1 i2 l1 l2 S : Addr) (xs ys : Array Value) (k : Nat) : Prop :=
  PySem.IsPair h TI (.ref i1) (.ref i2) ∧ h.IsTupleIter i1 l1 k ∧ h.IsTupleIter i2 l2 k ∧ h.IsTuple l1 xs ∧ h.IsTuple l2 ys ∧
  ((IsZip h z TI TO .none ∧ ∃ a b, PySem.IsPair h TO a b) ∨ ∃ (T : Addr) (f : Bool) (oT : Obj), IsZipHeld h z TI TO T f ∧ h.get? T = some oT ∧ T ≠ z ∧ T ≠ i1 ∧ T ≠ i2 ∧ T ≠ S)
theorem St.keep {h h' : Heap} {z TI TO i1 i2 l1 l2 S : Addr} {xs ys : Array Value} {k : Nat} (x : St h z TI TO i1 i2 l1 l2 S xs ys k) (up : ∀ b o, b ≠ S → h.get? b = some o → h'.get? b = some o) (n : S ≠ z ∧ S ≠ TI ∧ S ≠ TO ∧ S ≠ i1 ∧ S ≠ i2 ∧ S ≠ l1 ∧ S ≠ l2) : St h' z TI TO i1 i2 l1 l2 S xs ys k := by
  obtain ⟨n1, n2, n3, n4, n5, n6, n7⟩ := n
  obtain ⟨a1, a2, a3, a4, a5, a6⟩ := x
  refine ⟨up _ _ n2.symm a1, a2.at fun o e => up _ _ n4.symm e, a3.at fun o e => up _ _ n5.symm e, ?_, ?_, ?_⟩
  · obtain ⟨o, ho, r⟩ := a4
    exact ⟨o, up _ _ n6.symm ho, r⟩
  · obtain ⟨o, ho, r⟩ := a5
    exact ⟨o, up _ _ n7.symm ho, r⟩
  · rcases a6 with ⟨b1, a, b, b2⟩ | ⟨T, f, oT, b1, b2, t1, t2, t3, t4⟩
    · exact .inl ⟨up _ _ n1.symm b1, a, b, up _ _ n3.symm b2⟩
    · exact .inr ⟨T, f, oT, up _ _ n1.symm b1, up _ _ t4 b2, t1, t2, t3, t4⟩
theorem tupAt {h h' : Heap} {l : Addr} {xs : Array Value} (x : h.IsTuple l xs) (up : ∀ o, h.get? l = some o → h'.get? l = some o) : h'.IsTuple l xs := by
  obtain ⟨o, ho, r⟩ := x
  exact ⟨o, up _ ho, r⟩
/-- the next pair -/
theorem nxt {z TI TO i1 i2 l1 l2 S : Addr} {xs ys : Array Value} {k : Nat} {x y : Value} {Q : Option Value → Shared → Prop} (hh : A.handled = none) (D : ZipApart z TI TO i1 i2 l1 l2) (st : St s.heap z TI TO i1 i2 l1 l2 S xs ys k) (hS : S < s.heap.objs.size) (ex : xs[k]? = some x) (ey : ys[k]? = some y)
    (hQ : ∀ h', St h' z TI TO i1 i2 l1 l2 S xs ys (k + 1) → PySem.IsPair h' s.heap.objs.size x y → h'.objs.size = s.heap.objs.size + 1 → (∀ c o, c ≠ z → c ≠ TO → c ≠ i1 → c ≠ i2 → s.heap.get? c = some o → h'.get? c = some o) → Q (some (.ref s.heap.objs.size)) { s with heap := h' }) :
    wpAny (model prog w) A (pyNext (.ref z)) Q E s := by
  obtain ⟨a1, a2, a3, a4, a5, a6⟩ := st
  have lz : ∀ {a : Addr} {o : Obj}, s.heap.get? a = some o → s.heap.objs.size ≠ a := fun e => Nat.ne_of_gt (Heap.lt_size e)
  have n1 : s.heap.objs.size ≠ i1 := by obtain ⟨o, e, _⟩ := a2; exact lz e
  have n2 : s.heap.objs.size ≠ i2 := by obtain ⟨o, e, _⟩ := a3; exact lz e
  rcases a6 with ⟨b1, a, b, b2⟩ | ⟨T, f, oT, b1, b2, t1, t2, t3, t4⟩
  · refine RZ.pyNext_zipT_item D b1 a1 b2 a2 a3 a4 a5 ex ey fun h' c1 c2 c3 c4 c5 c6 c7 => hQ h' ⟨c7 _ _ D.TIz D.TITO D.TIi1 D.TIi2 a1, c3, c4, tupAt a4 fun o e => c7 _ _ D.l1z D.l1TO D.l1i1 D.l1i2 e, tupAt a5 fun o e => c7 _ _ D.l2z D.l2TO D.l2i1 D.l2i2 e, .inr ⟨s.heap.objs.size, false, _, c1, c5, lz b1, n1, n2, Nat.ne_of_gt hS⟩⟩ c5 c6 c7
  · have hTy : s.TypeIs (.ref z) "zip" := ⟨_, b1, rfl⟩
    unfold pyNext
    refine wpAny_bind (wpAny_attempt (wpAny_callSpecial?_slot (name := Str.ofString "__next__") hTy F.slot_zip_next (wpAny_call_entry F.slot_zip_next hTy F.entry_zip_next (held hh D b1 b2 a1 a2 a3 a4 a5 (fun x' y' ex' ey' h' c1 c3 c4 c5 c6 c7 => ?_) (fun he => ?_)) (F.args_zip_next_1 _))))
    · rw [ex] at ex'
      rw [ey] at ey'
      cases ex'
      cases ey'
      exact wpAny_pure (hQ h' ⟨c7 _ _ D.TIz D.TIi1 D.TIi2 a1, c3, c4, tupAt a4 fun o e => c7 _ _ D.l1z D.l1i1 D.l1i2 e, tupAt a5 fun o e => c7 _ _ D.l2z D.l2i1 D.l2i2 e, .inr ⟨T, true, oT, c1, c7 _ _ t1 t2 t3 b2, t1, t2, t3, t4⟩⟩ c5 c6 fun c o d1 _ d3 d4 e => c7 c o d1 d3 d4 e)
    · rcases he with he | he
      · rw [ex] at he; cases he
      · rw [ey] at he; cases he
/-- no more pairs -/
theorem fin {z TI TO i1 i2 l1 l2 S : Addr} {xs ys : Array Value} {k : Nat} {Q : Option Value → Shared → Prop} (hh : A.handled = none) (D : ZipApart z TI TO i1 i2 l1 l2) (st : St s.heap z TI TO i1 i2 l1 l2 S xs ys k) (ex : xs[k]? = none)
    (hQ : ∀ h', (∀ c o, c ≠ z → c ≠ TO → c ≠ i1 → c ≠ i2 → s.heap.get? c = some o → h'.get? c = some o) → Q none { s with heap := h' }) : wpAny (model prog w) A (pyNext (.ref z)) Q E s := by
  obtain ⟨a1, a2, a3, a4, a5, a6⟩ := st
  rcases a6 with ⟨b1, a, b, b2⟩ | ⟨T, f, oT, b1, b2, t1, t2, t3, t4⟩
  · exact RZ.pyNext_zipT_end hh D b1 a1 b2 a2 a3 a4 a5 (.inl ex) hQ
  · have hTy : s.TypeIs (.ref z) "zip" := ⟨_, b1, rfl⟩
    unfold pyNext
    refine wpAny_bind (wpAny_attempt (wpAny_callSpecial?_slot (name := Str.ofString "__next__") hTy F.slot_zip_next (wpAny_call_entry F.slot_zip_next hTy F.entry_zip_next (held hh D b1 b2 a1 a2 a3 a4 a5 (fun x' y' ex' => ?_) (fun _ h' e hk he => ?_)) (F.args_zip_next_1 _))))
    · rw [ex] at ex'; cases ex'
    · obtain ⟨o, ho, hc⟩ := he
      exact wpAny_bind (wpAny_isInstance (T := "StopIteration") (b := true) ⟨o, ho, hc⟩ isSubtype_stop (wpAny_pure (hQ _ fun c o d1 _ d3 d4 q => hk c o d1 d3 d4 q)))
end
/-- the pairs made so far -/
structure Md (xs ys : Array Value) (lo : Addr) (h : Heap) (as : List Addr) : Prop where
  rise : as.Pairwise (· < ·)
  above : ∀ a ∈ as, lo ≤ a
  pairs : ∀ (j : Nat) (a : Addr), as[j]? = some a → ∃ x y, xs[j]? = some x ∧ ys[j]? = some y ∧ PySem.IsPair h a x y
section
variable {prog : Program} {w : World} {A : Around} {E : Value → Shared → Prop} {s : Shared} {R : Result → Shared → Prop} {z TI TO i1 i2 l1 l2 S lo : Addr} {xs ys : Array Value}
theorem loop (hh : A.handled = none) (D : ZipApart z TI TO i1 i2 l1 l2) (ln : xs.size = ys.size) (hn : xs.size ≤ sizeLine) (nS : S ≠ z ∧ S ≠ TI ∧ S ≠ TO ∧ S ≠ i1 ∧ S ≠ i2 ∧ S ≠ l1 ∧ S ≠ l2) (low : S < lo ∧ z < lo ∧ TO < lo ∧ i1 < lo ∧ i2 < lo) (res : Value) {h₁ : Heap}
    (hR : ∀ h' tk acc c as, (∀ b o, b ≠ S → b ≠ z → b ≠ TO → b ≠ i1 → b ≠ i2 → h₁.get? b = some o → h'.get? b = some o) → h'.get? S = some { cls := .type "list", dict := none, data := .seq acc c, slots := #[] } → as.length = xs.size → Md xs ys lo h' as → acc.toList = as.map Value.ref →
      R (.ok (.ret res)) { s with heap := h', toks := tk }) :
    ∀ (k i : Nat) (h : Heap) (tk c : Nat) (acc : Array Value) (as : List Addr), xs.size - i = k → i ≤ xs.size → St h z TI TO i1 i2 l1 l2 S xs ys i → (∀ b o, b ≠ S → b ≠ z → b ≠ TO → b ≠ i1 → b ≠ i2 → h₁.get? b = some o → h.get? b = some o) →
      h.get? S = some { cls := .type "list", dict := none, data := .seq acc c, slots := #[] } → acc.toList = as.map Value.ref → as.length = i → Md xs ys lo h as → lo ≤ h.objs.size →
      codeAny (model prog w) A (.builtin "list.extend.loop" ⟨[.ref S, .ref z, res], []⟩) R { s with heap := h, toks := tk } := by
  obtain ⟨lS, lz, lTO, l1', l2'⟩ := low
  intro k
  induction k with
  | zero =>
    intro i h tk c acc as hk hi st keep hS hacc hal md hl
    refine codeAny_builtin PySem.F.entry_extend_loop ?_
    rw [Around.under_plainId PySem.F.plain_extend_loop _]
    show wpAny _ A.in1 (pyNext (.ref z) >>= _) _ _ _
    refine wpAny_bind (fin (s := { s with heap := h, toks := tk }) (A := A.in1) hh D st (Array.getElem?_eq_none (by omega)) fun h' kp => wpAny_pure (hR h' tk acc c as (fun b o b1 b2 b3 b4 b5 e => kp b o b2 b3 b4 b5 (keep b o b1 b2 b3 b4 b5 e)) (kp S _ nS.1 nS.2.2.1 nS.2.2.2.1 nS.2.2.2.2.1 hS) (by omega) ⟨md.rise, md.above, fun j a hj => ?_⟩ hacc))
    obtain ⟨x, y, e1, e2, e3⟩ := md.pairs j a hj
    have ab := md.above a (List.mem_of_getElem? hj)
    exact ⟨x, y, e1, e2, kp a _ (Nat.ne_of_gt (Nat.lt_of_lt_of_le lz ab)) (Nat.ne_of_gt (Nat.lt_of_lt_of_le lTO ab)) (Nat.ne_of_gt (Nat.lt_of_lt_of_le l1' ab)) (Nat.ne_of_gt (Nat.lt_of_lt_of_le l2' ab)) e3⟩
  | succ k ih =>
    intro i h tk c acc as hk hi st keep hS hacc hal md hl
    have lt : i < xs.size := by omega
    have ex : xs[i]? = some xs[i] := Array.getElem?_eq_getElem lt
    have ey : ys[i]? = some (ys[i]'(by omega)) := Array.getElem?_eq_getElem (by omega)
    generalize xs[i] = x at ex
    generalize (ys[i]'(by omega)) = y at ey
    have sz : acc.size = i := by rw [← Array.length_toList, hacc, List.length_map, hal]
    refine codeAny_builtin PySem.F.entry_extend_loop ?_
    rw [Around.under_plainId PySem.F.plain_extend_loop _]
    show wpAny _ A.in1 (pyNext (.ref z) >>= _) _ _ _
    refine wpAny_bind (nxt (s := { s with heap := h, toks := tk }) (A := A.in1) (S := S) hh D st (Heap.lt_size hS) ex ey fun h' st' pr hz kp => ?_)
    dsimp only at pr hz kp ⊢
    have hS' := kp S _ nS.1 nS.2.2.1 nS.2.2.2.1 nS.2.2.2.2.1 hS
    have up : ∀ b o, b ≠ S → h'.get? b = some o → (h'.update S (Obj.mapSeq (·.push (Value.ref h.objs.size)))).get? b = some o := fun b o hb e => (Heap.get?_update_other _ _ (Ne.symm hb)).trans e
    have hSl : S < h.objs.size := Heap.lt_size hS
    show wpAny _ A.in1 (updateSeq S (·.push (Value.ref h.objs.size)) >>= _) _ _ _
    have new := up _ _ (Nat.ne_of_gt hSl) pr
    refine wpAny_bind ?_
    refine wpAny_updateSeq hS' rfl (wpAny_pure ⟨plainId_quiet PySem.F.plain_extend_loop _, ih (i + 1) _ tk _ (acc.push (Value.ref h.objs.size)) (as ++ [h.objs.size]) (by omega) lt (st'.keep up nS)
      (fun b o b1 b2 b3 b4 b5 e => up b o b1 (kp b o b2 b3 b4 b5 (keep b o b1 b2 b3 b4 b5 e))) (Heap.get?_update_self _ hS' rfl) (by rw [Array.toList_push, hacc, List.map_append]; rfl) (by rw [List.length_append, hal]; rfl) ⟨?_, ?_, ?_⟩ (Nat.le_of_lt (Nat.lt_of_le_of_lt hl (Heap.lt_size new)))⟩) (by rw [sz]; omega) (by show (acc.push (Value.ref h.objs.size)).size ≤ sizeLine + 1; rw [Array.size_push, sz]; omega)
    · refine List.pairwise_append.mpr ⟨md.rise, List.pairwise_singleton _ _, fun a ha b hb => ?_⟩
      rw [List.mem_singleton.mp hb]
      obtain ⟨j, hj⟩ := List.mem_iff_getElem?.mp ha
      obtain ⟨_, _, _, _, e⟩ := md.pairs j a hj
      exact Heap.lt_size e
    · intro a ha
      rcases List.mem_append.mp ha with ha | ha
      · exact md.above a ha
      · rw [List.mem_singleton.mp ha]; exact hl
    · intro j b hj
      by_cases c1 : j < as.length
      · rw [List.getElem?_append_left c1] at hj
        obtain ⟨x', y', e1, e2, e3⟩ := md.pairs j b hj
        have ab := md.above b (List.mem_of_getElem? hj)
        exact ⟨x', y', e1, e2, up b _ (Nat.ne_of_gt (Nat.lt_of_lt_of_le lS ab)) (kp b _ (Nat.ne_of_gt (Nat.lt_of_lt_of_le lz ab)) (Nat.ne_of_gt (Nat.lt_of_lt_of_le lTO ab)) (Nat.ne_of_gt (Nat.lt_of_lt_of_le l1' ab)) (Nat.ne_of_gt (Nat.lt_of_lt_of_le l2' ab)) e3)⟩
      · rw [List.getElem?_append_right (by omega)] at hj
        have j0 : j - as.length = 0 := by
          have := (List.getElem?_eq_some_iff.mp hj).1
          simp at this
          omega
        rw [j0] at hj
        have eb : h.objs.size = b := by simpa using hj
        subst eb
        have : j = i := by omega
        subst this
        exact ⟨x, y, ex, ey, new⟩
theorem zip_no_len : typeLookup (.type "zip") "__len__" = pure none := am_miss_of_fast (by decide +kernel)
theorem zip_no_hint : typeLookup (.type "zip") "__length_hint__" = pure none := am_miss_of_fast (by decide +kernel)
theorem hint {r : Addr} {Q : Bool → Shared → Prop} (hT : s.TypeIs (.ref r) "zip") (h : Q true s) : wpAny (model prog w) A (Builtin.List.listLengthHint (.ref r)) Q E s := by
  unfold Builtin.List.listLengthHint
  refine wpAny_bind (wpAny_specialOf hT zip_no_len ?_)
  wp_delta
  refine wpAny_ite_split (fun hab => absurd hab (by decide)) (fun _ => ?_)
  refine wpAny_ite_split (fun hab => absurd hab (by decide)) (fun _ => ?_)
  refine wpAny_bind (wpAny_specialOf hT zip_no_hint ?_)
  exact wpAny_pure h
theorem ext (hh : A.handled = none) (D : ZipApart z TI TO i1 i2 l1 l2) (ln : xs.size = ys.size) (hn : xs.size ≤ sizeLine) (nS : S ≠ z ∧ S ≠ TI ∧ S ≠ TO ∧ S ≠ i1 ∧ S ≠ i2 ∧ S ≠ l1 ∧ S ≠ l2) (res : Value) (c₀ : Nat) (hz : IsZip s.heap z TI TO .none)
    (st : St s.heap z TI TO i1 i2 l1 l2 S xs ys 0) (hS : s.heap.get? S = some { cls := .type "list", data := .seq #[] c₀ })
    (hR : ∀ h' tk acc c as, (∀ b o, b ≠ S → b ≠ z → b ≠ TO → b ≠ i1 → b ≠ i2 → s.heap.get? b = some o → h'.get? b = some o) → h'.get? S = some { cls := .type "list", dict := none, data := .seq acc c, slots := #[] } → as.length = xs.size → Md xs ys s.heap.objs.size h' as → acc.toList = as.map Value.ref →
      R (.ok (.ret res)) { s with heap := h', toks := tk }) :
    wpAny (model prog w) A.in1 (Builtin.List.listExtendWith (.ref S) (.ref z) res)
      (fun fin s' => match fin with | .done f => R (.ok f) s' | .again c' => c'.quiet = true ∧ codeAny (model prog w) A c' R s') (fun e s' => R (.error e) s') s := by
  have low : S < s.heap.objs.size ∧ z < s.heap.objs.size ∧ TO < s.heap.objs.size ∧ i1 < s.heap.objs.size ∧ i2 < s.heap.objs.size := by
    obtain ⟨a1, ⟨o1, e1, _⟩, ⟨o2, e2, _⟩, _, _, a6⟩ := id st
    refine ⟨Heap.lt_size hS, Heap.lt_size hz, ?_, Heap.lt_size e1, Heap.lt_size e2⟩
    rcases a6 with ⟨_, a, b, b2⟩ | ⟨T, f, oT, b1, _⟩
    · exact Heap.lt_size b2
    · have z1 : some _ = some _ := (show s.heap.get? z = some _ from hz).symm.trans (show s.heap.get? z = some _ from b1)
      injection z1 with z2
      injection z2 with _ _ z3
      injection z3 with z4
      simp [rawInt] at z4
  have key : ∀ (h : Heap) (c₁ tk : Nat), (∀ b o, b ≠ S → s.heap.get? b = some o → h.get? b = some o) → s.heap.objs.size ≤ h.objs.size → h.get? S = some { cls := .type "list", data := .seq #[] c₁ } →
      codeAny (model prog w) A (.builtin "list.extend.loop" ⟨[.ref S, .ref z, res], []⟩) R { s with heap := h, toks := tk } := fun h c₁ tk hk hl hS₁ =>
    loop (h₁ := s.heap) (lo := s.heap.objs.size) hh D ln hn nS low res hR xs.size 0 h tk c₁ #[] [] (Nat.sub_zero _) (Nat.zero_le _) (st.keep hk nS) (fun b o hb _ _ _ _ e => hk b o hb e) hS₁ rfl rfl ⟨List.Pairwise.nil, (fun _ ha => nomatch ha), (fun j a hj => by simp at hj)⟩ hl
  have hT : s.TypeIs (.ref z) "zip" := ⟨_, hz, rfl⟩
  unfold Builtin.List.listExtendWith
  refine wpAny_bind (wpAny_typeOf (T := "zip") hT ?_)
  have e1 : Builtin.List.listSameRef (.ref S) (.ref z) = false := by simp [Builtin.List.listSameRef, nS.1]
  have e2 : (Value.type "zip" == Value.type "list") = false := by decide
  have e3 : (Value.type "zip" == Value.type "tuple") = false := by decide
  simp only [e1, e2, e3, Bool.or_false, Bool.false_eq_true, if_false]
  refine wpAny_bind (wpAny_pyIter_zip hz ?_)
  refine wpAny_bind (wpAny_holding (hint hT ?_))
  refine wpAny_ite_split (fun _ => ?_) (fun hab => absurd rfl hab)
  refine wpAny_bind (wpAny_rule (wpAny_bind ?_))
  show wpAny _ _ (updateSeq S (·.push .none) >>= fun _ => updateSeq S (·.pop)) _ _ _
  refine wpAny_bind (wpAny_updateSeq hS rfl ?_)
  have hS₂ := Heap.get?_update_self (Obj.mapSeq (·.push Value.none)) hS rfl
  refine wpAny_updateSeq (hz := by seq_fits) hS₂ rfl ?_
  have hS₃ := Heap.get?_update_self (Obj.mapSeq (·.pop)) hS₂ rfl
  refine wpAny_pure ⟨plainId_quiet PySem.F.plain_extend_loop _, key _ _ _ (fun b o hb e => (Heap.get?_update_other _ _ (Ne.symm hb)).trans ((Heap.get?_update_other _ _ (Ne.symm hb)).trans e)) ?_ hS₃⟩
  exact Nat.le_of_eq ((Heap.SameBut.update _ S _).1.trans (Heap.SameBut.update _ S _).1).symm
theorem call {Q : Value → Shared → Prop} (hh : A.handled = none) (D : ZipApart z TI TO i1 i2 l1 l2) (ln : xs.size = ys.size) (hn : xs.size ≤ sizeLine) (hz : IsZip s.heap z TI TO .none) (hTI : PySem.IsPair s.heap TI (.ref i1) (.ref i2)) (hTO : PySem.IsPair s.heap TO .none .none)
    (h1 : s.heap.IsTupleIter i1 l1 0) (h2 : s.heap.IsTupleIter i2 l2 0) (hl1 : s.heap.IsTuple l1 xs) (hl2 : s.heap.IsTuple l2 ys)
    (hQ : ∀ h' tk acc c as, (∀ b o, b ≠ z → b ≠ TO → b ≠ i1 → b ≠ i2 → s.heap.get? b = some o → h'.get? b = some o) → h'.get? s.heap.objs.size = some { cls := .type "list", dict := none, data := .seq acc c, slots := #[] } → as.length = xs.size → Md xs ys (s.heap.objs.size + 1) h' as → acc.toList = as.map Value.ref →
      Q (.ref s.heap.objs.size) { s with heap := h', toks := tk }) : wpAny (model prog w) A (PySem.call (.type "list") [.ref z]) Q E s := by
  have lt : ∀ {a : Addr} {o : Obj}, s.heap.get? a = some o → s.heap.objs.size ≠ a := fun e => Nat.ne_of_gt (Heap.lt_size e)
  have nS : s.heap.objs.size ≠ z ∧ s.heap.objs.size ≠ TI ∧ s.heap.objs.size ≠ TO ∧ s.heap.objs.size ≠ i1 ∧ s.heap.objs.size ≠ i2 ∧ s.heap.objs.size ≠ l1 ∧ s.heap.objs.size ≠ l2 := by
    obtain ⟨o1, e1, _⟩ := h1
    obtain ⟨o2, e2, _⟩ := h2
    obtain ⟨o3, e3, _⟩ := hl1
    obtain ⟨o4, e4, _⟩ := hl2
    exact ⟨lt hz, lt hTI, lt hTO, lt e1, lt e2, lt e3, lt e4⟩
  refine callType_codes (Q₁ := fun obj s₁ => obj = .ref s.heap.objs.size ∧ s₁ = { s with heap := s.heap.push { cls := .type "list", data := .seq #[] } }) PySem.F.called_list (PySem.F.typeCall_list_1 _) PySem.F.entry_list_init (code_list_new _ ⟨rfl, rfl⟩) fun obj s₁ q₁ => ?_
  obtain ⟨rfl, rfl⟩ := q₁
  have hS : (s.heap.push { cls := .type "list", data := .seq #[] }).get? s.heap.objs.size = some { cls := .type "list", data := .seq #[] } := Heap.get?_push_size _ rfl
  refine ⟨⟨_, hS, rfl⟩, PySem.F.args_list_init_2 _ _, ?_⟩
  show wpAny _ _ (do let old ← Builtin.List.listItems (.ref s.heap.objs.size); Builtin.List.listUpdate (.ref s.heap.objs.size) (fun _ => #[]); letGo old.toList.reverse; Builtin.List.listExtendWith (.ref s.heap.objs.size) (.ref z) .none) _ _ _
  refine wpAny_bind ?_
  unfold Builtin.List.listItems
  refine wpAny_bind (wpAny_seqItems hS rfl (wpAny_pure ?_))
  show wpAny _ _ (updateSeq s.heap.objs.size (fun _ => #[]) >>= fun _ => letGo (#[] : Array Value).toList.reverse >>= fun _ => Builtin.List.listExtendWith (.ref s.heap.objs.size) (.ref z) .none) _ _ _
  refine wpAny_bind (wpAny_updateSeq hS rfl ?_)
  have hS₂ := Heap.get?_update_self (Obj.mapSeq (fun _ => (#[] : Array Value))) hS rfl
  have oth : ∀ b o, b ≠ s.heap.objs.size → s.heap.get? b = some o → ((s.heap.push { cls := .type "list", data := .seq #[] }).update s.heap.objs.size (Obj.mapSeq (fun _ => (#[] : Array Value)))).get? b = some o :=
    fun b o hb e => (Heap.get?_update_other _ _ (Ne.symm hb)).trans (Heap.get?_push_of_some _ e)
  have size2 : ((s.heap.push { cls := .type "list", data := .seq #[] }).update s.heap.objs.size (Obj.mapSeq (fun _ => (#[] : Array Value)))).objs.size = s.heap.objs.size + 1 := (Heap.SameBut.update _ _ _).1.trans (Heap.size_push ..)
  refine wpAny_bind (wpAny_letGo ?_)
  obtain ⟨n1, n2, n3, n4, n5, n6, n7⟩ := id nS
  refine ext (A := A.in1) hh D ln hn nS .none _ (oth _ _ n1.symm hz) ⟨oth _ _ n2.symm hTI, h1.at fun o e => oth _ _ n4.symm e, h2.at fun o e => oth _ _ n5.symm e, tupAt hl1 fun o e => oth _ _ n6.symm e, tupAt hl2 fun o e => oth _ _ n7.symm e, .inl ⟨oth _ _ n1.symm hz, _, _, oth _ _ n3.symm hTO⟩⟩ hS₂ fun h' tk acc c as hk hS' hl md hacc => ?_
  rw [size2] at md
  exact ⟨rfl, hQ h' tk acc c as (fun b o b1 b2 b3 b4 e => hk b o (Nat.ne_of_lt (Heap.lt_size e)) b1 b2 b3 b4 (oth b o (Nat.ne_of_lt (Heap.lt_size e)) e)) hS' hl md hacc⟩
end
end ZL
namespace Pl
open PySem PySem.Spec PyProof.Rows L2
/-- several objects laid at once -/
def updAll (H : Hp) : List (Addr × HO) → Hp
  | [] => H
  | p :: ps => upd (updAll H ps) p.1 p.2
theorem updAll_no {H : Hp} {b : Addr} : ∀ {ps : List (Addr × HO)}, b ∉ ps.map (·.1) → updAll H ps b = H b
  | [], _ => rfl
  | p :: ps, h => by
    rw [List.map_cons, List.mem_cons, not_or] at h
    show upd (updAll H ps) p.1 p.2 b = _
    rw [upd_ne h.1]
    exact updAll_no h.2
theorem updAll_get {H : Hp} : ∀ {ps : List (Addr × HO)} {p : Addr × HO}, (ps.map (·.1)).Nodup → p ∈ ps → updAll H ps p.1 = some p.2
  | [], _, _, h => nomatch h
  | q :: ps, p, nd, h => by
    rw [List.map_cons, List.nodup_cons] at nd
    show upd (updAll H ps) q.1 q.2 p.1 = _
    rcases List.mem_cons.mp h with rfl | h
    · exact upd_same
    · have ne : p.1 ≠ q.1 := fun e => nd.1 (by rw [← e]; exact List.mem_map.mpr ⟨p, h, rfl⟩)
      rw [upd_ne ne]
      exact updAll_get nd.2 h
theorem updAll_same {H : Hp} {ps : List (Addr × HO)} (h : ∀ p ∈ ps, H p.1 = none) : Same H (updAll H ps) := fun b o e => by
  rw [updAll_no]
  · exact e
  · intro hb
    obtain ⟨p, hp, rfl⟩ := List.mem_map.mp hb
    rw [h p hp] at e
    cases e
theorem adds {X : Cx} {pins : List (Addr × Obj)} {σ : L2.St} {H : Hp} {s : Shared} {tk : Nat} (I : Inv X pins σ H s) : ∀ (ps : List (Addr × HO)) (h' : Heap), (∀ b u, s.heap.get? b = some u → h'.get? b = some u) → (∀ p ∈ ps, s.heap.objs.size ≤ p.1) → (ps.map (·.1)).Nodup →
    (∀ p ∈ ps, ∀ (H' : Hp) (G : Heap), G.get? p.1 = h'.get? p.1 → ObjOk X.prog X.w H' G p.1 p.2) → Inv X pins σ (updAll H ps) { s with heap := h', toks := tk }
  | [], h', k, _, _, _ => I.kept k
  | p :: ps, h', k, lo, nd, ok => by
    rw [List.map_cons, List.nodup_cons] at nd
    obtain ⟨G, g1, g2⟩ := restrict h' fun b => decide (b ≠ p.1)
    have gk : ∀ b, b ≠ p.1 → G.get? b = h'.get? b := fun b hb => g1 b (decide_eq_true hb)
    have gn : G.get? p.1 = none := g2 p.1 (decide_eq_false (fun z => z rfl))
    have lp := lo p List.mem_cons_self
    have J := adds (tk := tk) I ps G (fun b u e => by
      rw [gk b (Nat.ne_of_lt (Nat.lt_of_lt_of_le (Heap.lt_size e) lp))]
      exact k b u e) (fun q hq => lo q (List.mem_cons_of_mem _ hq)) nd.2 (fun q hq H' G' e => ok q (List.mem_cons_of_mem _ hq) H' G' (by
        rw [e, gk]
        intro z
        exact nd.1 (by rw [← z]; exact List.mem_map.mpr ⟨q, hq, rfl⟩)))
    refine J.laidN (h' := h') (t' := tk) (fun b u e => ?_) gn ?_ (ok p List.mem_cons_self _ h' rfl)
    · by_cases z : b = p.1
      · rw [z] at e
        rw [show G.get? p.1 = some u from e] at gn
        cases gn
      · rw [← gk b z]
        exact e
    · rw [updAll_no nd.1]
      exact I.hok.fresh lp
/-- pairs in the heap -/
inductive PrA (H : Hp) : List V → List V → List V → Prop
  | nil : PrA H [] [] []
  | cons {q : Addr} {x y : V} {ws xs ys : List V} : H q = some (.tup [x, y]) → PrA H ws xs ys → PrA H (.ref q :: ws) (x :: xs) (y :: ys)
def prs : List Addr → List V → List V → List (Addr × HO)
  | a :: as, x :: xs, y :: ys => (a, .tup [x, y]) :: prs as xs ys
  | _, _, _ => []
theorem prs_fst : ∀ {as : List Addr} {xs ys : List V}, as.length = xs.length → as.length = ys.length → (prs as xs ys).map (·.1) = as
  | [], xs, ys, _, _ => by cases xs <;> cases ys <;> rfl
  | a :: as, [], _, h, _ => nomatch h
  | a :: as, x :: xs, [], _, h => nomatch h
  | a :: as, x :: xs, y :: ys, h1, h2 => by
    show a :: (prs as xs ys).map (·.1) = _
    rw [prs_fst (by simpa using h1) (by simpa using h2)]
theorem prs_mem {p : Addr × HO} : ∀ {as : List Addr} {xs ys : List V}, p ∈ prs as xs ys → ∃ (j : Nat) (a : Addr) (x y : V), as[j]? = some a ∧ xs[j]? = some x ∧ ys[j]? = some y ∧ p = (a, .tup [x, y])
  | [], _, _, h => nomatch h
  | a :: as, [], _, h => nomatch h
  | a :: as, x :: xs, [], h => nomatch h
  | a :: as, x :: xs, y :: ys, h => by
    rcases List.mem_cons.mp h with h | h
    · exact ⟨0, a, x, y, rfl, rfl, rfl, h⟩
    · obtain ⟨j, b, u, v, e1, e2, e3, e4⟩ := prs_mem h
      exact ⟨j + 1, b, u, v, e1, e2, e3, e4⟩
theorem prA_of {G : Hp} : ∀ {as : List Addr} {xs ys : List V}, as.length = xs.length → as.length = ys.length → (∀ p ∈ prs as xs ys, G p.1 = some p.2) → PrA G (as.map V.ref) xs ys
  | [], [], [], _, _, _ => .nil
  | [], x :: xs, _, h, _, _ => nomatch h
  | [], [], y :: ys, _, h, _ => nomatch h
  | a :: as, [], _, h, _, _ => nomatch h
  | a :: as, x :: xs, [], _, h, _ => nomatch h
  | a :: as, x :: xs, y :: ys, h1, h2, g => .cons (g (a, .tup [x, y]) List.mem_cons_self) (prA_of (by simpa using h1) (by simpa using h2) fun p hp => g p (List.mem_cons_of_mem _ hp))
theorem valsAt : ∀ {xs : List V} {us : List Value} {j : Nat} {x : V}, Vals xs us → xs[j]? = some x → ∃ u, us[j]? = some u ∧ RelV x u
  | _, _, _, _, .nil, h => by cases h
  | _, _, 0, _, .cons r _, h => by
    cases h
    exact ⟨_, rfl, r⟩
  | _, _, j + 1, _, .cons _ t, h => by
    obtain ⟨u, e, r⟩ := valsAt (j := j) t (by simpa using h)
    exact ⟨u, by simpa using e, r⟩
theorem valsRef : ∀ (as : List Addr), Vals (as.map V.ref) (as.map Value.ref)
  | [] => .nil
  | a :: as => .cons rfl (valsRef as)
def tLstZip (K : PySem.W.Frag) (ta : TA) : TE := fun σ H Q => ta σ H fun vs H1 => ∃ (a b : Addr) (xs ys : List V), vs = [.ref a, .ref b] ∧ SqT K H1 a xs ∧ SqT K H1 b ys ∧ xs.length = ys.length ∧
  ∀ (L : Addr) (ws : List V) (H2 : Hp), Same H1 H2 → H1 L = none → H2 L = some (.lst ws) → PrA H2 ws xs ys → Q (.ref L) H2
section
variable {X : Cx}
theorem pe_listZip {e e2 : Expr} {ta : TA} {p p2 pos pos2 : Pos} (hc : X.calm = true) (hgl : Gl X "list") (hml : X.mg "list" = none) (hgz : Gl X "zip") (hmz : X.mg "zip" = none) (ha : PA X [e, e2] ta)
    (na : starEach [.Call (.Name "zip" p2) [e, e2] [] pos2] X.env = (false, eval (.Call (.Name "zip" p2) [e, e2] [] pos2) X.env) :: starEach [] X.env := by rfl)
    (hs : starEach [e, e2] X.env = (false, eval e X.env) :: starEach [e2] X.env := by rfl) (hpl : (backTo pos2 (starEach [e2] X.env)).any (·.1) = false := by rfl) :
    PE X (.Call (.Name "list" p) [.Call (.Name "zip" p2) [e, e2] [] pos2] [] pos) (tLstZip X.K ta) := by
  refine ⟨fun pins s σ H Q I h => ?_⟩
  refine Call_ (ld_blt I hgl hml boot_list (PyProof.Rows.callWith_type1 (args_cons (thn (Q := fun v s2 => ∃ (s1 : Shared) (H1 : Hp) (a b : Addr) (xs ys : List V) (us vs : List Value) (h2 : Heap), v = .ref (s1.heap.objs.size + 4) ∧ s2 = { s1 with heap := h2 } ∧ Inv X pins σ H1 s1 ∧
      IsZip h2 (s1.heap.objs.size + 4) (s1.heap.objs.size + 2) (s1.heap.objs.size + 3) .none ∧ PySem.IsPair h2 (s1.heap.objs.size + 2) (.ref s1.heap.objs.size) (.ref (s1.heap.objs.size + 1)) ∧ PySem.IsPair h2 (s1.heap.objs.size + 3) .none .none ∧ h2.IsTupleIter s1.heap.objs.size a 0 ∧ h2.IsTupleIter (s1.heap.objs.size + 1) b 0 ∧ h2.objs.size = s1.heap.objs.size + 5 ∧
      (∀ c o, s1.heap.get? c = some o → h2.get? c = some o) ∧ s1.heap.IsTuple a us.toArray ∧ s1.heap.IsTuple b vs.toArray ∧ Vals xs us ∧ Vals ys vs ∧ xs.length ≤ sizeLine ∧ xs.length = ys.length ∧
      ∀ (L : Addr) (ws : List V) (H2 : Hp), Same H1 H2 → H1 L = none → H2 L = some (.lst ws) → PrA H2 ws xs ys → Q (.ref L) H2) ?_ fun v s2 q => args_nil ?_) na) na))
  · refine Call_ (ld_blt I hgz hmz PyProof.Rows.boot_zip (PyProof.Rows.callWith_type1 (thn (ha.run pos2 pins s σ H _ I h) fun us s1 ⟨vs, H1, I1, r1, q1⟩ => ?_) hs hpl))
    obtain ⟨a, b, xs, ys, rfl, sa, sb, ln, q⟩ := q1
    obtain ⟨u1, u2, rfl, ra, rb⟩ := vals2 r1
    cases ra
    cases rb
    obtain ⟨its, rv, p1, z1⟩ := I1.tuple sa
    obtain ⟨its2, rv2, p2', z2⟩ := I1.tuple sb
    refine RZ.call_zipT (show s1.heap.IsTuple a its.toArray from p1) (show s1.heap.IsTuple b its2.toArray from p2') fun h2 hz hTI hTO h1 h2' hsz hk => ?_
    exact ⟨s1, H1, a, b, xs, ys, its, its2, h2, rfl, rfl, I1, hz, hTI, hTO, h1, h2', hsz, hk, p1, p2', rv, rv2, by omega, ln, q⟩
  · obtain ⟨s1, H1, a, b, xs, ys, us, vs, h2, rfl, rfl, I1, hz, hTI, hTO, h1, h2', hsz, hk, p1, p2', rv, rv2, hn, ln, q⟩ := q
    have la : a < s1.heap.objs.size := by obtain ⟨o, ho, _⟩ := p1; exact Heap.lt_size ho
    have lb : b < s1.heap.objs.size := by obtain ⟨o, ho, _⟩ := p2'; exact Heap.lt_size ho
    have lx := rv.length
    have ly := rv2.length
    refine ZL.call (s := { s1 with heap := h2 }) (I1.ok.hd hc) (PySem.W.ktu_apart s1.heap.objs.size a b la lb) (by rw [List.size_toArray, List.size_toArray]; omega) (by rw [List.size_toArray]; omega) hz hTI hTO h1 h2' (ZL.tupAt p1 fun o e => hk _ _ e) (ZL.tupAt p2' fun o e => hk _ _ e) fun h' tk acc c as keep hS hl md hacc => ?_
    dsimp only at hS md keep ⊢
    rw [List.size_toArray] at hl
    rw [hsz] at hS md ⊢
    have asl : as.length = xs.length := by omega
    have nd : (((s1.heap.objs.size + 5, HO.lst (as.map V.ref)) :: prs as xs ys).map (·.1)).Nodup := by
      rw [List.map_cons, prs_fst asl (by omega), List.nodup_cons]
      refine ⟨fun z => ?_, md.rise.imp (fun h => Nat.ne_of_lt h)⟩
      exact Nat.not_succ_le_self _ (md.above _ z)
    have lo : ∀ p ∈ (s1.heap.objs.size + 5, HO.lst (as.map V.ref)) :: prs as xs ys, s1.heap.objs.size ≤ p.1 := fun p hp => by
      rcases List.mem_cons.mp hp with rfl | hp
      · exact Nat.le_add_right _ _
      · obtain ⟨j, a, x, y, e1, _, _, rfl⟩ := prs_mem hp
        exact Nat.le_trans (Nat.le_add_right _ 6) (md.above a (List.mem_of_getElem? e1))
    have ne : ∀ {b : Addr} {o : Obj}, s1.heap.get? b = some o → ∀ i, b ≠ s1.heap.objs.size + i := fun e i z => by
      have lt := Heap.lt_size e
      rw [z] at lt
      exact Nat.not_lt.mpr (Nat.le_add_right _ i) lt
    have J := adds (tk := tk) I1 ((s1.heap.objs.size + 5, HO.lst (as.map V.ref)) :: prs as xs ys) h' (fun b o e => keep b o (ne e 4) (ne e 3) (ne e 0) (ne e 1) (hk _ _ e)) lo nd (fun p hp H' G eG => by
      rcases List.mem_cons.mp hp with rfl | hp
      · refine ⟨by rw [List.length_map]; omega, as.map Value.ref, c, valsRef as, ?_⟩
        rw [← hacc, Array.toArray_toList]
        exact eG.trans hS
      · obtain ⟨j, a, x, y, e1, e2, e3, rfl⟩ := prs_mem hp
        obtain ⟨u, v, g1, g2, g3⟩ := md.pairs j a e1
        obtain ⟨u', g4, r1⟩ := valsAt rv e2
        obtain ⟨v', g5, r2⟩ := valsAt rv2 e3
        rw [List.getElem?_toArray] at g1 g2
        rw [g4] at g1
        rw [g5] at g2
        cases g1
        cases g2
        exact ⟨by show 2 ≤ sizeLine; decide, [u, v], .cons r1 (.cons r2 .nil), _, eG.trans g3, rfl, _, rfl⟩)
    refine ⟨.ref (s1.heap.objs.size + 5), _, J, rfl, q _ _ _ (updAll_same fun p hp => I1.hok.fresh (lo p hp)) (I1.hok.fresh (Nat.le_add_right _ _)) (updAll_get nd List.mem_cons_self) ?_⟩
    exact prA_of asl (by omega) fun p hp => updAll_get nd (List.mem_cons_of_mem _ hp)
end
end Pl
/-! min(xs, default=None) of a list of tuples of ints -/
namespace Pl
open PySem PySem.Spec PyProof.Rows L2
/-- the order of tuples of ints -/
def lx : List Int → List Int → Bool
  | [], [] => false
  | [], _ :: _ => true
  | _ :: _, [] => false
  | a :: as, b :: bs => decide (a < b) || (decide (a = b) && lx as bs)
theorem lx_irr : ∀ a : List Int, lx a a = false
  | [] => rfl
  | a :: as => by simp [lx, lx_irr as]
theorem lx_trans : ∀ {a b c : List Int}, lx a b = true → lx b c = true → lx a c = true
  | [], [], _, h, _ => nomatch h
  | [], _ :: _, [], _, h => nomatch h
  | [], _ :: _, _ :: _, _, _ => rfl
  | _ :: _, [], _, h, _ => nomatch h
  | _ :: _, _ :: _, [], _, h => nomatch h
  | a :: as, b :: bs, c :: cs, h1, h2 => by
    simp only [lx, Bool.or_eq_true, Bool.and_eq_true, decide_eq_true_eq] at h1 h2 ⊢
    rcases h1 with h1 | ⟨h1, h1'⟩ <;> rcases h2 with h2 | ⟨h2, h2'⟩
    · left; omega
    · left; omega
    · left; omega
    · right; exact ⟨by omega, lx_trans h1' h2'⟩
theorem lx_tri : ∀ {a b : List Int}, lx a b = false → lx b a = false → a = b
  | [], [], _, _ => rfl
  | [], _ :: _, h, _ => nomatch h
  | _ :: _, [], _, h => nomatch h
  | a :: as, b :: bs, h1, h2 => by
    simp only [lx, Bool.or_eq_false_iff, Bool.and_eq_false_iff, decide_eq_false_iff_not] at h1 h2
    have e : a = b := by omega
    subst e
    have e2 : as = bs := lx_tri (by simpa using h1.2) (by simpa using h2.2)
    rw [e2]
def tpD (g : List Int) : PyData := .tuple (g.map PyData.int)
theorem dataLt_lx : ∀ a b : List Int, PySem.W.dataLt (tpD a) (tpD b) = lx a b := by
  have key : ∀ a b : List Int, PyProof.Rows.lexLt itemOrd (PySem.W.keyToksAll (a.map PyData.int)) (PySem.W.keyToksAll (b.map PyData.int)) = lx a b := by
    intro a
    induction a with
    | nil =>
      intro b
      cases b with
      | nil =>
        show PyProof.Rows.lexLt itemOrd [Sum.inl 0] [Sum.inl 0] = false
        rw [lex_self (O := itemOrd)]
        rfl
      | cons b bs =>
        rw [List.map_cons, PySem.W.toks_all_cons]
        show PyProof.Rows.lexLt itemOrd [Sum.inl 0] (Sum.inl 1 :: _) = true
        rw [lex_diff (O := itemOrd) (by intro h; cases h)]
        rfl
    | cons a as ih =>
      intro b
      cases b with
      | nil =>
        rw [List.map_cons, PySem.W.toks_all_cons]
        show PyProof.Rows.lexLt itemOrd (Sum.inl 1 :: _) [Sum.inl 0] = false
        rw [lex_diff (O := itemOrd) (by intro h; cases h)]
        rfl
      | cons b bs =>
        rw [List.map_cons, List.map_cons, PySem.W.toks_all_cons, PySem.W.toks_all_cons, lex_self (O := itemOrd)]
        show PyProof.Rows.lexLt itemOrd (Sum.inl a :: PySem.W.keyToksAll _) (Sum.inl b :: PySem.W.keyToksAll _) = _
        by_cases e : a = b
        · subst e
          rw [lex_self (O := itemOrd), ih]
          simp [lx]
        · rw [lex_diff (O := itemOrd) (by intro h; cases h; exact e rfl)]
          show decide (a < b) = _
          simp [lx, e]
  intro a b
  show PyProof.Rows.lexLt itemOrd (PySem.W.keyToks (tpD a)) (PySem.W.keyToks (tpD b)) = _
  unfold tpD
  simp only [PySem.W.keyToks]
  exact key a b
theorem alikeInts : ∀ a b : List Int, PySem.W.alikeAll (a.map PyData.int) (b.map PyData.int) = true
  | [], b => by cases b <;> rfl
  | _ :: _, [] => rfl
  | a :: as, b :: bs => by
    show (PySem.W.alike (.int a) (.int b) && PySem.W.alikeAll (as.map PyData.int) (bs.map PyData.int)) = true
    rw [alikeInts as bs]
    rfl
theorem minD_lx : ∀ (ys : List (List Int)) (y : List Int), ∃ g, PySem.W.minD (tpD y) (ys.map tpD) = tpD g ∧ g ∈ y :: ys ∧ ∀ z ∈ y :: ys, lx z g = false := by
  intro ys
  induction ys with
  | nil => exact fun y => ⟨y, rfl, List.mem_cons_self, fun z hz => by rw [List.mem_singleton.mp hz]; exact lx_irr y⟩
  | cons k ys ih =>
    intro y
    have e : PySem.W.minD (tpD y) ((k :: ys).map tpD) = PySem.W.minD (if PySem.W.dataLt (tpD k) (tpD y) then tpD k else tpD y) (ys.map tpD) := rfl
    rw [e, dataLt_lx]
    cases c : lx k y with
    | true =>
      obtain ⟨g, e1, m, all⟩ := ih k
      refine ⟨g, by simpa using e1, ?_, fun z hz => ?_⟩
      · exact List.mem_cons_of_mem _ m
      · rcases List.mem_cons.mp hz with rfl | hz
        · cases d : lx z g with
          | false => rfl
          | true =>
            have := lx_trans c d
            rw [all k List.mem_cons_self] at this
            cases this
        · exact all z hz
    | false =>
      obtain ⟨g, e1, m, all⟩ := ih y
      refine ⟨g, by simpa using e1, ?_, fun z hz => ?_⟩
      · rcases List.mem_cons.mp m with rfl | m
        · exact List.mem_cons_self
        · exact List.mem_cons_of_mem _ (List.mem_cons_of_mem _ m)
      · rcases List.mem_cons.mp hz with rfl | hz
        · exact all z List.mem_cons_self
        · rcases List.mem_cons.mp hz with rfl | hz
          · cases d : lx z g with
            | false => rfl
            | true =>
              cases f : lx g y with
              | false =>
                have e2 := lx_tri (all y List.mem_cons_self) f
                subst e2
                rw [c] at d
                cases d
              | true =>
                have := lx_trans d f
                rw [c] at this
                cases this
          · exact all z (List.mem_cons_of_mem _ hz)
theorem depthTp : ∀ gs : List (List Int), PyData.depthAll (gs.map tpD) ≤ 2
  | [] => by simp [PyData.depthAll]
  | g :: gs => by
    have h := depthTp gs
    have h2 : ∀ l : List Int, PyData.depthAll (l.map PyData.int) ≤ 1 := fun l => by
      induction l with
      | nil => simp [PyData.depthAll]
      | cons x l ih => simp only [List.map_cons, PyData.depthAll, PyData.depth]; omega
    have h3 := h2 g
    simp only [List.map_cons, PyData.depthAll, tpD, PyData.depth]
    omega
def rMinDef (K : PySem.W.Frag) : List V → List V → Hp → VK → Prop := fun vs zs H Q => ∃ (a : Addr) (ws : List V) (gs : List (List Int)), vs = [V.ref a] ∧ zs = [.non] ∧ SqL K H a ws ∧ DpAll K H ws (gs.map tpD) ∧ (gs = [] → Q .non H) ∧
  ∀ (i : Nat) (v : V) (g : List Int), ws[i]? = some v → gs[i]? = some g → (∀ z ∈ gs, lx z g = false) → Q v H
theorem cr_minDef {X : Cx} (hc : X.calm = true) (hu : X.A.units + 64 < cLine) : CallRK X (.builtin "min") [Str.ofString "default"] (rMinDef X.K) := by
  intro pins s σ H vs zs us ws Q I r rz h
  obtain ⟨a, wv, gs, rfl, rfl, sq, dp, q0, q⟩ := h
  obtain rfl := Vals.ref1 r
  obtain ⟨w1, rfl, e1⟩ := vals1 rz
  obtain rfl : w1 = Value.none := e1
  obtain ⟨its, rv, hl, hz⟩ := I.list sq
  obtain ⟨as, rd⟩ := Dp.readsAll I _ _ _ dp rv
  have dt := depthTp gs
  refine PySem.W.min_list_default (I.ok.hd hc) hl.isList (by simpa using rd) ⟨fun x hx y hy => ?_, fun x hx e => ?_⟩ (by omega) (fun e h' tk hk => ?_) fun y ys i v h' tk bs e ev rd2 hk => ?_
  · obtain ⟨g, _, rfl⟩ := List.mem_map.mp hx
    obtain ⟨g', _, rfl⟩ := List.mem_map.mp hy
    exact alikeInts g g'
  · obtain ⟨g, _, rfl⟩ := List.mem_map.mp hx
    cases e
  · exact ⟨.non, H, I.kept hk, rfl, q0 (List.map_eq_nil_iff.mp e)⟩
  · cases gs with
    | nil => cases e
    | cons g0 gs =>
      rw [List.map_cons] at e
      obtain ⟨rfl, rfl⟩ := List.cons.inj e
      obtain ⟨g, eg, m, all⟩ := minD_lx gs g0
      rw [eg] at rd2
      rw [List.getElem?_toArray] at ev
      have il : i < wv.length := by
        have := (List.getElem?_eq_some_iff.mp ev).1
        have := rv.length
        omega
      have ew : wv[i]? = some wv[i] := List.getElem?_eq_getElem il
      obtain ⟨u, eu, ru⟩ := valsAt rv ew
      rw [ev] at eu
      cases eu
      obtain ⟨cs, r3, li, _, _⟩ := PySem.W.readsAll_at (by simpa using rd) i v ev
      have e4 := (Reads.unique (PySem.W.reads_keeps hk r3) _ _ rd2).1
      have lg : i < (g0 :: gs).length := by simpa using li
      have eg2 : (g0 :: gs)[i]? = some (g0 :: gs)[i] := List.getElem?_eq_getElem lg
      have e5 : (List.map tpD (g0 :: gs)).getD i .none = tpD (g0 :: gs)[i] := by
        rw [List.getD_eq_getElem?_getD, List.getElem?_map, eg2]
        rfl
      rw [List.map_cons] at e5
      rw [e5] at e4
      have e6 : (g0 :: gs)[i] = g := by
        have z := PyData.tuple.inj e4
        exact (List.map_inj_right (f := PyData.int) (fun _ _ h => PyData.int.inj h)).mp z
      rw [e6] at eg2
      exact ⟨wv[i], H, I.kept hk, ru, q i _ g ew eg2 all⟩
/-- a star among the items, within a block -/
theorem pa_starK {X : Cx} {K : PySem.W.Frag} {e : Expr} {es : List Expr} {te : TE} {t : TA} {p : Pos} (he : PE X e te) (hr : PA X es t) (hK : X.K = K := by rfl) (hs : starEach (.Starred e p :: es) X.env = (true, eval e X.env) :: starEach es X.env := by rfl) : PA X (.Starred e p :: es) (StX.tStar K te t) := by
  subst hK
  exact StX.pa_star he hr hs
end Pl
/-! zip(t, l) of a tuple and a list; len(set(t)) of a tuple of ints -/
namespace ZM
open PySem PySem.Spec
section
variable {prog : Program} {w : World} {A : Around} {E : Value → Shared → Prop} {s : Shared} {z TI TO i1 i2 l1 l2 : Addr} {k : Nat} {xs ys : Array Value} {x y a b : Value}
/-- the next pair of a zip over a tuple and a list -/
theorem next_item {Q : Value → Shared → Prop} (D : ZipApart z TI TO i1 i2 l1 l2) (hz : IsZip s.heap z TI TO .none) (hTI : IsPair s.heap TI (.ref i1) (.ref i2)) (hTO : IsPair s.heap TO a b)
    (h1 : s.heap.IsTupleIter i1 l1 k) (h2 : s.heap.IsListIter i2 l2 k) (hl1 : s.heap.IsTuple l1 xs) (hl2 : s.heap.IsList l2 ys) (hx : xs[k]? = some x) (hy : ys[k]? = some y)
    (hQ : ∀ h', IsZip h' z TI TO (rawInt s.heap.objs.size) → IsPair h' TO x y → h'.IsTupleIter i1 l1 (k + 1) → h'.IsListIter i2 l2 (k + 1) → IsPair h' s.heap.objs.size x y → h'.objs.size = s.heap.objs.size + 1 →
      (∀ c o, c ≠ z → c ≠ TO → c ≠ i1 → c ≠ i2 → s.heap.get? c = some o → h'.get? c = some o) → Q (.ref s.heap.objs.size) { s with heap := h' }) :
    wpAny (model prog w) A (Builtin.«zip.__next__» ⟨[.ref z], []⟩) (fun fin s' => ∃ v, fin = .done (.ret v) ∧ Q v s') E s := by
  show wpAny _ _ (field (.ref z) 2 >>= _) _ _ _
  refine wpAny_bind (wpAny_field hz rfl (x := .bool false) rfl ?_)
  show wpAny _ _ (field (.ref z) 3 >>= _) _ _ _
  refine wpAny_bind (wpAny_field hz rfl (x := .ref TI) rfl (wpAny_bind (wpAny_seqItems hTI rfl ?_)))
  show wpAny _ _ (Builtin.SmallTypes.ownedTupleIsFree (.ref z) >>= _) _ _ _
  refine wpAny_bind ?_
  unfold Builtin.SmallTypes.ownedTupleIsFree
  refine wpAny_bind (wpAny_field hz rfl (x := .none) rfl (wpAny_pure ?_))
  simp only [if_true]
  refine wpAny_bind (wpAny_rule (wpAny_bind (wpAny_field hz rfl (x := .ref TO) rfl (wpAny_bind (wpAny_setField_rec hz (by simp) fun g1 z1 c1 => ?_)))))
  have z1 : IsZip g1 z TI TO .ellipsis := z1
  refine wpAny_bind ?_
  simp only [List.zipIdx_cons, List.zipIdx_nil, List.forIn_cons, List.forIn_nil]
  refine wpAny_bind (wpAny_bind (wpAny_onRaise ?_))
  show wpAny _ _ (Builtin.SmallTypes.nextOf (.ref i1) >>= _) _ _ _
  refine wpAny_bind (RZ.nextOf_tuple_item (h1.extBut c1.extBut D.i1z) (hl1.extBut c1.extBut D.l1z) hx fun g2 n1 c2 => wpAny_pure ?_)
  have t2 : IsPair g2 TO a b := c2.extBut _ _ D.TOi1 (c1.extBut _ _ D.TOz hTO)
  refine wpAny_bind (wpAny_seqItems t2 rfl (wpAny_bind (wpAny_updateSeq_pair t2 fun g3 t3 c3 => wpAny_bind (wpAny_letGo (wpAny_pure ?_)))))
  have t3 : IsPair g3 TO x b := t3
  refine wpAny_bind (wpAny_bind (wpAny_onRaise ?_))
  show wpAny _ _ (Builtin.SmallTypes.nextOf (.ref i2) >>= _) _ _ _
  refine wpAny_bind (wpAny_nextOf_list_item (((h2.extBut c1.extBut D.i2z).extBut c2.extBut D.i12.symm).extBut c3.extBut D.TOi2.symm) (((hl2.extBut c1.extBut D.l2z).extBut c2.extBut D.l2i1).extBut c3.extBut D.l2TO) hy fun g4 n2 c4 => wpAny_pure ?_)
  have t4 : IsPair g4 TO x b := c4.extBut _ _ D.TOi2 t3
  refine wpAny_bind (wpAny_seqItems t4 rfl (wpAny_bind (wpAny_updateSeq_pair t4 fun g5 t5 c5 => wpAny_bind (wpAny_letGo (wpAny_pure (wpAny_pure ?_))))))
  have t5 : IsPair g5 TO x y := t5
  refine wpAny_bind (wpAny_seqItems t5 rfl (wpAny_bind (wpAny_newTuple ?_)))
  have sz : g5.objs.size = s.heap.objs.size := by rw [c5.1, c4.1, c3.1, c2.1, c1.1]
  have z5 : IsZip g5 z TI TO .ellipsis := c5.extBut _ _ D.TOz.symm (c4.extBut _ _ D.i2z.symm (c3.extBut _ _ D.TOz.symm (c2.extBut _ _ D.i1z.symm z1)))
  have m1 := ((n1.extBut c3.extBut D.TOi1.symm).extBut c4.extBut D.i12).extBut c5.extBut D.TOi1.symm
  have m2 := n2.extBut c5.extBut D.TOi2.symm
  have lz : z < g5.objs.size := Heap.lt_size z5
  show wpAny _ _ (Builtin.SmallTypes.ownedTupleHandOut (.ref z) (.ref g5.objs.size) >>= _) _ _ _
  refine wpAny_bind ?_
  unfold Builtin.SmallTypes.ownedTupleHandOut
  have z6 : IsZip (g5.push { cls := .type "tuple", data := .seq #[x, y] }) z TI TO .ellipsis := Heap.get?_push_of_some _ z5
  refine wpAny_bind (wpAny_setField_rec z6 (by simp) fun g7 z7 c7 => ?_)
  have z7 : IsZip g7 z TI TO (rawInt g5.objs.size) := z7
  refine wpAny_setField_rec z7 (by simp) fun g8 z8 c8 => wpAny_pure ⟨_, rfl, ?_⟩
  have z8 : IsZip g8 z TI TO (rawInt g5.objs.size) := z8
  have up : ∀ c o, c ≠ z → g5.get? c = some o → g8.get? c = some o := fun c o n e => c8.extBut _ _ n (c7.extBut _ _ n (Heap.get?_push_of_some _ e))
  have new : IsPair g8 g5.objs.size x y := c8.extBut _ _ (Nat.ne_of_gt lz) (c7.extBut _ _ (Nat.ne_of_gt lz) (Heap.get?_push_size _ rfl))
  have s8 : g8.objs.size = g5.objs.size + 1 := by rw [c8.1, c7.1, Heap.size_push]
  show Q (.ref g5.objs.size) _
  rw [sz] at z8 new s8 ⊢
  exact hQ g8 z8 (up _ _ D.TOz t5) (m1.at fun o e => up _ o D.i1z e) (m2.at fun o e => up _ o D.i2z e) new s8 fun c o n1 n2 n3 n4 e => up c o n1 (c5.extBut _ _ n2 (c4.extBut _ _ n4 (c3.extBut _ _ n2 (c2.extBut _ _ n3 (c1.extBut _ _ n1 e)))))
theorem next_end {Q : Fin → Shared → Prop} (hh : A.handled = none) (D : ZipApart z TI TO i1 i2 l1 l2) (hz : IsZip s.heap z TI TO .none) (hTI : IsPair s.heap TI (.ref i1) (.ref i2)) (hTO : IsPair s.heap TO a b)
    (h1 : s.heap.IsTupleIter i1 l1 k) (h2 : s.heap.IsListIter i2 l2 k) (hl1 : s.heap.IsTuple l1 xs) (hl2 : s.heap.IsList l2 ys) (hend : xs[k]? = none ∨ ys[k]? = none)
    (hE : ∀ h' e, (∀ c o, c ≠ z → c ≠ TO → c ≠ i1 → c ≠ i2 → s.heap.get? c = some o → h'.get? c = some o) → (∃ o, h'.get? e = some o ∧ o.cls = .type "StopIteration") → E (.ref e) { s with heap := h' }) :
    wpAny (model prog w) A (Builtin.«zip.__next__» ⟨[.ref z], []⟩) Q E s := by
  show wpAny _ _ (field (.ref z) 2 >>= _) _ _ _
  refine wpAny_bind (wpAny_field hz rfl (x := .bool false) rfl ?_)
  show wpAny _ _ (field (.ref z) 3 >>= _) _ _ _
  refine wpAny_bind (wpAny_field hz rfl (x := .ref TI) rfl (wpAny_bind (wpAny_seqItems hTI rfl ?_)))
  show wpAny _ _ (Builtin.SmallTypes.ownedTupleIsFree (.ref z) >>= _) _ _ _
  refine wpAny_bind ?_
  unfold Builtin.SmallTypes.ownedTupleIsFree
  refine wpAny_bind (wpAny_field hz rfl (x := .none) rfl (wpAny_pure ?_))
  simp only [if_true]
  refine wpAny_bind (wpAny_rule (wpAny_bind (wpAny_field hz rfl (x := .ref TO) rfl (wpAny_bind (wpAny_setField_rec hz (by simp) fun g1 z1 c1 => ?_)))))
  have z1 : IsZip g1 z TI TO .ellipsis := z1
  refine wpAny_bind ?_
  simp only [List.zipIdx_cons, List.zipIdx_nil, List.forIn_cons, List.forIn_nil]
  refine wpAny_bind (wpAny_bind (wpAny_onRaise ?_))
  show wpAny _ _ (Builtin.SmallTypes.nextOf (.ref i1) >>= _) _ _ _
  have stop : ∀ (g : Heap) (e : Addr), IsZip g z TI TO .ellipsis → (∃ o, g.get? e = some o ∧ o.cls = .type "StopIteration") → e ≠ z := fun g e gz ⟨o, ho, hc⟩ q => by
    subst q
    rw [gz] at ho
    cases ho
    simp at hc
  cases ex : xs[k]? with
  | none =>
    refine wpAny_bind (RZ.nextOf_tuple_end hh (h1.extBut c1.extBut D.i1z) (hl1.extBut c1.extBut D.l1z) ex fun g2 e c2 he => ?_)
    have z2 : IsZip g2 z TI TO .ellipsis := c2 _ _ D.i1z.symm z1
    have ne := stop g2 e z2 he
    obtain ⟨o, ho, hc⟩ := he
    exact wpAny_setField_rec z2 (by simp) fun g3 _ c3 => hE g3 e (fun c o n1 _ n3 _ q => c3.extBut _ _ n1 (c2 _ _ n3 (c1.extBut _ _ n1 q))) ⟨o, c3.extBut _ _ ne ho, hc⟩
  | some x =>
    have ey : ys[k]? = none := by
      rcases hend with q | q
      · rw [ex] at q; cases q
      · exact q
    refine wpAny_bind (RZ.nextOf_tuple_item (h1.extBut c1.extBut D.i1z) (hl1.extBut c1.extBut D.l1z) ex fun g2 n1 c2 => wpAny_pure ?_)
    have t2 : IsPair g2 TO a b := c2.extBut _ _ D.TOi1 (c1.extBut _ _ D.TOz hTO)
    refine wpAny_bind (wpAny_seqItems t2 rfl (wpAny_bind (wpAny_updateSeq_pair t2 fun g3 t3 c3 => wpAny_bind (wpAny_letGo (wpAny_pure ?_)))))
    refine wpAny_bind (wpAny_bind (wpAny_onRaise ?_))
    show wpAny _ _ (Builtin.SmallTypes.nextOf (.ref i2) >>= _) _ _ _
    refine wpAny_bind (wpAny_nextOf_list_end hh (((h2.extBut c1.extBut D.i2z).extBut c2.extBut D.i12.symm).extBut c3.extBut D.TOi2.symm) (((hl2.extBut c1.extBut D.l2z).extBut c2.extBut D.l2i1).extBut c3.extBut D.l2TO) ey fun g4 e c4 he => ?_)
    have z4 : IsZip g4 z TI TO .ellipsis := c4 _ _ D.i2z.symm (c3.extBut _ _ D.TOz.symm (c2.extBut _ _ D.i1z.symm z1))
    have ne := stop g4 e z4 he
    obtain ⟨o, ho, hc⟩ := he
    exact wpAny_setField_rec z4 (by simp) fun g5 _ c5 => hE g5 e (fun c o n1 n2 n3 n4 q => c5.extBut _ _ n1 (c4 _ _ n4 (c3.extBut _ _ n2 (c2.extBut _ _ n3 (c1.extBut _ _ n1 q))))) ⟨o, c5.extBut _ _ ne ho, hc⟩
theorem py_item {Q : Option Value → Shared → Prop} (D : ZipApart z TI TO i1 i2 l1 l2) (hz : IsZip s.heap z TI TO .none) (hTI : IsPair s.heap TI (.ref i1) (.ref i2)) (hTO : IsPair s.heap TO a b)
    (h1 : s.heap.IsTupleIter i1 l1 k) (h2 : s.heap.IsListIter i2 l2 k) (hl1 : s.heap.IsTuple l1 xs) (hl2 : s.heap.IsList l2 ys) (hx : xs[k]? = some x) (hy : ys[k]? = some y)
    (hQ : ∀ h', IsZip h' z TI TO (rawInt s.heap.objs.size) → IsPair h' TO x y → h'.IsTupleIter i1 l1 (k + 1) → h'.IsListIter i2 l2 (k + 1) → IsPair h' s.heap.objs.size x y → h'.objs.size = s.heap.objs.size + 1 →
      (∀ c o, c ≠ z → c ≠ TO → c ≠ i1 → c ≠ i2 → s.heap.get? c = some o → h'.get? c = some o) → Q (some (.ref s.heap.objs.size)) { s with heap := h' }) :
    wpAny (model prog w) A (pyNext (.ref z)) Q E s := by
  have hT : s.TypeIs (.ref z) "zip" := ⟨_, hz, rfl⟩
  unfold pyNext
  exact wpAny_bind (wpAny_attempt (wpAny_callSpecial?_slot (name := Str.ofString "__next__") hT F.slot_zip_next (wpAny_call_entry F.slot_zip_next hT F.entry_zip_next
    (next_item D hz hTI hTO h1 h2 hl1 hl2 hx hy fun h' a1 a2 a3 a4 a5 a6 a7 => wpAny_pure (hQ h' a1 a2 a3 a4 a5 a6 a7)) (F.args_zip_next_1 _))))
theorem py_end {Q : Option Value → Shared → Prop} (hh : A.handled = none) (D : ZipApart z TI TO i1 i2 l1 l2) (hz : IsZip s.heap z TI TO .none) (hTI : IsPair s.heap TI (.ref i1) (.ref i2)) (hTO : IsPair s.heap TO a b)
    (h1 : s.heap.IsTupleIter i1 l1 k) (h2 : s.heap.IsListIter i2 l2 k) (hl1 : s.heap.IsTuple l1 xs) (hl2 : s.heap.IsList l2 ys) (hend : xs[k]? = none ∨ ys[k]? = none)
    (hQ : ∀ h', (∀ c o, c ≠ z → c ≠ TO → c ≠ i1 → c ≠ i2 → s.heap.get? c = some o → h'.get? c = some o) → Q none { s with heap := h' }) : wpAny (model prog w) A (pyNext (.ref z)) Q E s := by
  have hT : s.TypeIs (.ref z) "zip" := ⟨_, hz, rfl⟩
  unfold pyNext
  refine wpAny_bind (wpAny_attempt (wpAny_callSpecial?_slot (name := Str.ofString "__next__") hT F.slot_zip_next (wpAny_call_entry F.slot_zip_next hT F.entry_zip_next (next_end hh D hz hTI hTO h1 h2 hl1 hl2 hend fun h' e hk ⟨o, ho, hc⟩ => ?_) (F.args_zip_next_1 _))))
  exact wpAny_bind (wpAny_isInstance (T := "StopIteration") (b := true) ⟨o, ho, hc⟩ isSubtype_stop (wpAny_pure (hQ _ hk)))
end
/-- the five objects of zip(t, l) -/
def objs5 (h : Heap) (l1 l2 : Addr) : Heap :=
  ((((h.push { cls := .type "tuple_iterator", data := .fields #[.ref l1, .int 0 0] }).push { cls := .type "list_iterator", data := .fields #[.ref l2, .int 0 0] }).push { cls := .type "tuple", data := .seq #[.ref h.objs.size, .ref (h.objs.size + 1)] }).push { cls := .type "tuple", data := .seq #[.none, .none] }).push
    { cls := .type "zip", data := .fields #[.none, .bool false, .bool false, .ref (h.objs.size + 2), .ref (h.objs.size + 3)] }
theorem meets_new (l1 l2 : Addr) (xs ys : Array Value) :
    Meets (Builtin.«zip.__new__» ⟨[.type "zip", .ref l1, .ref l2], []⟩) (fun _ R s => s.heap.IsTuple l1 xs ∧ s.heap.IsList l2 ys ∧ R (.ok (.ret (.ref (s.heap.objs.size + 4)))) { s with heap := objs5 s.heap l1 l2 }) :=
  .of_wp fun prog w A R s h => by
    obtain ⟨hp, g, d, tk, os⟩ := s
    obtain ⟨hl1, hl2, h⟩ := h
    have hsub := sub_zip
    have hL1 : Heap.IsTuple (Shared.heap ⟨hp, g, d, tk, os⟩) l1 xs := hl1
    have hL2 : Heap.IsList (Shared.heap ⟨hp.push { cls := .type "tuple_iterator", data := .fields #[.ref l1, .int 0 0] }, g, d, tk, os⟩) l2 ys := hl2.push _
    have e1 : (hp.push { cls := .type "tuple_iterator", data := .fields #[.ref l1, .int 0 0] }).objs.size = hp.objs.size + 1 := Heap.size_push ..
    have e2 : ((hp.push { cls := .type "tuple_iterator", data := .fields #[.ref l1, .int 0 0] }).push { cls := .type "list_iterator", data := .fields #[.ref l2, .int 0 0] }).objs.size = hp.objs.size + 2 := by rw [Heap.size_push, e1]
    wp_walk using wpAny_pyIter_tuple hL1, wpAny_pyIter_list hL2
    refine ⟨_, rfl, ?_⟩
    simp only [Heap.size_push]
    exact h
theorem call_new {l1 l2 : Addr} {xs ys : Array Value} {prog : Program} {w : World} {A : Around} {E : Value → Shared → Prop} {s : Shared} {Q : Value → Shared → Prop} (hl1 : s.heap.IsTuple l1 xs) (hl2 : s.heap.IsList l2 ys)
    (h : ∀ h', IsZip h' (s.heap.objs.size + 4) (s.heap.objs.size + 2) (s.heap.objs.size + 3) .none → IsPair h' (s.heap.objs.size + 2) (.ref s.heap.objs.size) (.ref (s.heap.objs.size + 1)) → IsPair h' (s.heap.objs.size + 3) .none .none →
      h'.IsTupleIter s.heap.objs.size l1 0 → h'.IsListIter (s.heap.objs.size + 1) l2 0 → h'.objs.size = s.heap.objs.size + 5 → (∀ c o, s.heap.get? c = some o → h'.get? c = some o) → Q (.ref (s.heap.objs.size + 4)) { s with heap := h' }) :
    wpAny (model prog w) A (call (.type "zip") [.ref l1, .ref l2]) Q E s := by
  refine callType_new F.called_zip (by decide) (F.typeCall_zip_2 _ _) (F.newCall_zip_2 _ _) (fun obj => F.args_object_init_3 obj _ _) F.entry_zip_new (meets_new l1 l2 xs ys) ⟨hl1, hl2, ?_⟩
  generalize ho1 : ({ cls := .type "tuple_iterator", data := .fields #[.ref l1, .int 0 0] } : Obj) = o1
  generalize ho2 : ({ cls := .type "list_iterator", data := .fields #[.ref l2, .int 0 0] } : Obj) = o2
  generalize ho3 : ({ cls := .type "tuple", data := .seq #[.ref s.heap.objs.size, .ref (s.heap.objs.size + 1)] } : Obj) = o3
  generalize ho4 : ({ cls := .type "tuple", data := .seq #[.none, .none] } : Obj) = o4
  generalize ho5 : ({ cls := .type "zip", data := .fields #[.none, .bool false, .bool false, .ref (s.heap.objs.size + 2), .ref (s.heap.objs.size + 3)] } : Obj) = o5
  have e : objs5 s.heap l1 l2 = ((((s.heap.push o1).push o2).push o3).push o4).push o5 := by rw [← ho1, ← ho2, ← ho3, ← ho4, ← ho5]; rfl
  have z1 : (s.heap.push o1).objs.size = s.heap.objs.size + 1 := Heap.size_push ..
  have z2 : ((s.heap.push o1).push o2).objs.size = s.heap.objs.size + 2 := by rw [Heap.size_push, z1]
  have z3 : (((s.heap.push o1).push o2).push o3).objs.size = s.heap.objs.size + 3 := by rw [Heap.size_push, z2]
  have z4 : ((((s.heap.push o1).push o2).push o3).push o4).objs.size = s.heap.objs.size + 4 := by rw [Heap.size_push, z3]
  have n1 : o1.isFreed = false := by rw [← ho1]; rfl
  have n2 : o2.isFreed = false := by rw [← ho2]; rfl
  have n3 : o3.isFreed = false := by rw [← ho3]; rfl
  have n4 : o4.isFreed = false := by rw [← ho4]; rfl
  have n5 : o5.isFreed = false := by rw [← ho5]; rfl
  have g5 := Heap.get?_push_size ((((s.heap.push o1).push o2).push o3).push o4) n5
  have g4 := Heap.get?_push_of_some o5 (Heap.get?_push_size (((s.heap.push o1).push o2).push o3) n4)
  have g3 := Heap.get?_push_of_some o5 (Heap.get?_push_of_some o4 (Heap.get?_push_size ((s.heap.push o1).push o2) n3))
  have g2 := Heap.get?_push_of_some o5 (Heap.get?_push_of_some o4 (Heap.get?_push_of_some o3 (Heap.get?_push_size (s.heap.push o1) n2)))
  have g1 := Heap.get?_push_of_some o5 (Heap.get?_push_of_some o4 (Heap.get?_push_of_some o3 (Heap.get?_push_of_some o2 (Heap.get?_push_size s.heap n1))))
  rw [z4] at g5
  rw [z3] at g4
  rw [z2] at g3
  rw [z1] at g2
  rw [← e] at g1 g2 g3 g4 g5
  subst ho1 ho2 ho3 ho4 ho5
  exact ⟨⟨_, g5, rfl⟩, h _ g5 g3 g4 ⟨_, g1, rfl, rfl⟩ ⟨_, g2, rfl, rfl⟩ (by rw [e, Heap.size_push, z4]) fun c o x => by
    rw [e]
    exact Heap.get?_push_of_some _ (Heap.get?_push_of_some _ (Heap.get?_push_of_some _ (Heap.get?_push_of_some _ (Heap.get?_push_of_some _ x))))⟩
end ZM
namespace Pl
open PySem PySem.Spec PyProof.Rows L2
/-- the tuple at a and the list at b as they stand at each turn, the items in new pairs -/
def ItzM (K : PySem.W.Frag) (a b : Addr) : It :=
  ⟨fun i H => ∃ (xs ys : List V) (x y : V), SqT K H a xs ∧ SqL K H b ys ∧ xs[i]? = some x ∧ ys[i]? = some y,
    fun i H v H' => ∃ T x y, v = .ref T ∧ H T = none ∧ H' = upd H T (.tup [x, y]) ∧ (∀ xs, SqT K H a xs → xs[i]? = some x) ∧ ∀ ys, SqL K H b ys → ys[i]? = some y,
    fun i H => ∃ xs ys : List V, SqT K H a xs ∧ SqL K H b ys ∧ (xs.length ≤ i ∨ ys.length ≤ i)⟩
theorem list_inj {X : Cx} {pins : List (Addr × Obj)} {σ : L2.St} {H : Hp} {s : Shared} {a : Addr} {xs ys : List V} (I : Inv X pins σ H s) (h : SqL X.K H a xs) (h' : SqL X.K H a ys) : xs = ys := I.list_inj h h'
theorem turn_zipM {P : Program} {w : World} {K : PySem.W.Frag} {elts : List Expr} {kk : Nat} {tpos : Pos} {a b z TI TO i1 i2 : Addr} (D : ZipApart z TI TO i1 i2 a b) :
    Turn P w K (.Tuple elts kk tpos) (ItzM K a b) [z, TI, TO, i1, i2] z (fun i h => IsZip h z TI TO .none ∧ PySem.IsPair h TI (.ref i1) (.ref i2) ∧ (∃ x y, PySem.IsPair h TO x y) ∧ h.IsTupleIter i1 a i ∧ h.IsListIter i2 b i) where
  mem := by simp
  obj := fun i h st c hc => by
    obtain ⟨hz, hTI, ⟨x, y, hTO⟩, ⟨o1, e1, _, d1⟩, ⟨o2, e2, _, d2⟩⟩ := st
    rcases (by simpa using hc : c = z ∨ c = TI ∨ c = TO ∨ c = i1 ∨ c = i2) with q | q | q | q | q <;> rw [q]
    · exact ⟨_, hz, fun v q => nomatch q⟩
    · exact ⟨_, hTI, fun v q => nomatch q⟩
    · exact ⟨_, hTO, fun v q => nomatch q⟩
    · exact ⟨o1, e1, fun v q => by rw [d1] at q; cases q⟩
    · exact ⟨o2, e2, fun v q => by rw [d2] at q; cases q⟩
  keep := fun i h h' st k => by
    obtain ⟨hz, hTI, ⟨x, y, hTO⟩, h1, h2⟩ := st
    exact ⟨k z (by simp) _ hz, k TI (by simp) _ hTI, ⟨x, y, k TO (by simp) _ hTO⟩, h1.at fun o q => k i1 (by simp) o q, h2.at fun o q => k i2 (by simp) o q⟩
  item := by
    intro X hP hw hK hc i pins s σ H E I hf st hg
    subst hP hw hK
    obtain ⟨hz, hTI, ⟨x0, y0, hTO⟩, h1, h2⟩ := st
    obtain ⟨xs, ys, x, y, hqx, hqy, hx, hy⟩ := hg
    obtain ⟨its, rv, p, _⟩ := I.tuple hqx
    obtain ⟨its2, rv2, p2, _⟩ := I.list hqy
    obtain ⟨u, hu, ru⟩ := rv.get hx
    obtain ⟨u2, hu2, ru2⟩ := rv2.get hy
    have hzl : z < s.heap.objs.size := Heap.lt_size hz
    refine ZM.py_item D hz hTI hTO h1 h2 p p2.isList (x := u) (y := u2) (by simpa using hu) (by simpa using hu2) fun h' z' TO' h1' h2' hT hsz hk => ?_
    refine ⟨_, rfl, wpAny_letOwnedTupleGo_zip (s := { s with heap := h' }) z' fun h'' z'' sb => ?_⟩
    have hT2 : h''.get? s.heap.objs.size = some { cls := .type "tuple", data := .seq #[u, u2] } := (sb.2 _ (Nat.ne_of_gt hzl)).trans hT
    have new : ObjOk X.prog X.w (upd H s.heap.objs.size (.tup [x, y])) h'' s.heap.objs.size (.tup [x, y]) := ⟨by show 2 ≤ sizeLine; decide, [u, u2], .cons ru (.cons ru2 .nil), ⟨_, hT2, rfl, _, rfl⟩⟩
    have I1 : Inv X pins σ (upd H s.heap.objs.size (.tup [x, y])) { s with heap := h'' } :=
      I.turnedNew (t' := s.toks) (ch := [z, TI, TO, i1, i2]) (fun c o hb q => (sb.2 c (fun q' => hb (by simp [q']))).trans (hk c o (fun q' => hb (by simp [q'])) (fun q' => hb (by simp [q'])) (fun q' => hb (by simp [q'])) (fun q' => hb (by simp [q'])) q)) hf (Nat.le_refl _) new
    refine ⟨.ref s.heap.objs.size, _, I1, rfl, ⟨_, x, y, rfl, I.hok.fresh (Nat.le_refl _), rfl, fun l hl => by rw [I.tuple_inj hl hqx]; exact hx, fun l hl => by rw [list_inj I hl hqy]; exact hy⟩, ⟨z'', ?_, ⟨u, u2, ?_⟩, ?_, ?_⟩, fun c hcm => ?_⟩
    · exact (sb.2 _ D.TIz).trans (hk _ _ D.TIz D.TITO D.TIi1 D.TIi2 hTI)
    · exact (sb.2 _ D.TOz).trans TO'
    · exact h1'.at fun o q => (sb.2 _ D.i1z).trans q
    · exact h2'.at fun o q => (sb.2 _ D.i2z).trans q
    · have hlt : c < s.heap.objs.size := by
        rcases (by simpa using hcm : c = z ∨ c = TI ∨ c = TO ∨ c = i1 ∨ c = i2) with q | q | q | q | q <;> rw [q]
        · exact hzl
        · exact Heap.lt_size hTI
        · exact Heap.lt_size hTO
        · obtain ⟨_, e1, _⟩ := h1; exact Heap.lt_size e1
        · obtain ⟨_, e2, _⟩ := h2; exact Heap.lt_size e2
      rw [upd_ne (Nat.ne_of_lt hlt)]
      exact (hf c hcm).1
  done := by
    intro X hP hw hK hc i pins s σ H E I hf st hg
    subst hP hw hK
    obtain ⟨hz, hTI, ⟨x0, y0, hTO⟩, h1, h2⟩ := st
    obtain ⟨xs, ys, hqx, hqy, hend⟩ := hg
    obtain ⟨its, rv, p, _⟩ := I.tuple hqx
    obtain ⟨its2, rv2, p2, _⟩ := I.list hqy
    have l1 := rv.length
    have l2 := rv2.length
    have he : its.toArray[i]? = none ∨ its2.toArray[i]? = none := by
      rcases hend with q | q
      · exact .inl (by simp; omega)
      · exact .inr (by simp; omega)
    exact ZM.py_end (I.ok.hd hc) D hz hTI hTO h1 h2 p p2.isList he fun h' hk => ⟨rfl, I.turnedL (t' := s.toks) (ch := [z, TI, TO, i1, i2]) (fun c o hb q =>
      hk c o (fun q' => hb (by simp [q'])) (fun q' => hb (by simp [q'])) (fun q' => hb (by simp [q'])) (fun q' => hb (by simp [q'])) q) hf⟩
  self := fun A i s Q E st h => wpAny_pyIter_zip st.1 h
def iZipM (K : PySem.W.Frag) (ta : TA) : TI := fun σ H R => ta σ H fun vs H1 => ∃ a b xs ys, vs = [.ref a, .ref b] ∧ SqT K H1 a xs ∧ SqL K H1 b ys ∧ R (ItzM K a b) H1
theorem pi_zipM {X : Cx} {e e2 : Expr} {ta : TA} {p pos tpos : Pos} {elts : List Expr} {kk : Nat} (hg : Gl X "zip") (hm : X.mg "zip" = none) (ha : PA X [e, e2] ta)
    (hs : starEach [e, e2] X.env = (false, eval e X.env) :: starEach [e2] X.env := by rfl) (hpl : (backTo pos (starEach [e2] X.env)).any (·.1) = false := by rfl) :
    PI X (.Tuple elts kk tpos) (.Call (.Name "zip" p) [e, e2] [] pos) (iZipM X.K ta) := by
  refine ⟨fun pins s σ H R I h => ?_⟩
  refine Call_ (ld_blt I hg hm PyProof.Rows.boot_zip (PyProof.Rows.callWith_type1 (thn (ha.run pos pins s σ H _ I h) fun us s1 ⟨vs, H1, I1, r1, q1⟩ => ?_) hs hpl))
  obtain ⟨a, b, xs, ys, rfl, hqx, hqy, q⟩ := q1
  obtain ⟨u1, u2, rfl, ra, rb⟩ := vals2 r1
  cases ra
  cases rb
  obtain ⟨its, rv, p1, _⟩ := I1.tuple hqx
  obtain ⟨its2, rv2, p2, _⟩ := I1.list hqy
  obtain ⟨o1, ho1, _⟩ := id p1
  have fresh5 : ∀ c, c ∈ [s1.heap.objs.size + 4, s1.heap.objs.size + 2, s1.heap.objs.size + 3, s1.heap.objs.size, s1.heap.objs.size + 1] → FpOk X pins H1 c := fun c hcm => by
    have hle : s1.heap.objs.size ≤ c := by
      rcases (by simpa using hcm : c = s1.heap.objs.size + 4 ∨ c = s1.heap.objs.size + 2 ∨ c = s1.heap.objs.size + 3 ∨ c = s1.heap.objs.size ∨ c = s1.heap.objs.size + 1) with z | z | z | z | z <;> rw [z]
      · exact Nat.le_add_right _ _
      · exact Nat.le_add_right _ _
      · exact Nat.le_add_right _ _
      · exact Nat.le_refl _
      · exact Nat.le_add_right _ _
    exact I1.fpOk hle (I1.hok.fresh hle)
  refine ZM.call_new (show s1.heap.IsTuple a its.toArray from p1) p2.isList fun h' hz hTI hTO h1 h2 hsz hk => wpAny_pyIter_zip hz ?_
  have I2 : Inv X pins σ H1 { s1 with heap := h' } := I1.kept (t' := s1.toks) hk
  exact ⟨s1.heap.objs.size + 4, [s1.heap.objs.size + 4, s1.heap.objs.size + 2, s1.heap.objs.size + 3, s1.heap.objs.size, s1.heap.objs.size + 1], _, _, H1, rfl, I2, turn_zipM (PySem.W.ktu_apart s1.heap.objs.size a b (Heap.lt_size ho1) p2.lt), ⟨hz, hTI, ⟨_, _, hTO⟩, h1, h2⟩, fresh5, q⟩
theorem walk_zipM {K : PySem.W.Frag} {a b : Addr} {xs ys : List V} (ln : xs.length = ys.length) : Walk (ItzM K a b) xs.length (fun H => SqT K H a xs ∧ SqL K H b ys) (YPair (fun i => xs[i]?) (fun i => ys[i]?)) := by
  refine ⟨?_, ?_, ?_⟩
  · intro i H hi q
    exact ⟨xs, ys, xs[i], ys[i]'(by omega), q.1, q.2, List.getElem?_eq_getElem hi, List.getElem?_eq_getElem (by omega)⟩
  · intro H q
    exact ⟨xs, ys, q.1, q.2, .inl (Nat.le_refl _)⟩
  · rintro i H v H' hi q ⟨T, x, y, e, n, e2, h1, h2⟩
    exact ⟨T, x, y, e, n, e2, h1 xs q.1, h2 ys q.2⟩
/-! len(set(t)) of a tuple of ints -/
def tLenSetT (K : PySem.W.Frag) (ta : TE) : TE := fun σ H Q => ta σ H fun x H1 => ∃ (l : Addr) (ns : List Int), x = .ref l ∧ SqT K H1 l (ns.map V.int) ∧ ns.length ≤ 1000 ∧ ∀ ks : List Int, ks.Nodup → (∀ k, k ∈ ks ↔ k ∈ ns) → Q (.int (ks.length : Nat)) H1
theorem pe_lenSetT {X : Cx} {a : Expr} {ta : TE} {p p2 q pos : Pos} (hg : Gl X "len") (hm : X.mg "len" = none) (hg2 : Gl X "set") (hm2 : X.mg "set" = none) (ha : PE X a ta) (hc : X.calm = true := by rfl)
    (na : starEach [a] X.env = (false, eval a X.env) :: starEach [] X.env := by rfl) : PE X (.Call (.Name "len" p) [.Call (.Name "set" p2) [a] [] q] [] pos) (tLenSetT X.K ta) := by
  refine ⟨fun pins s σ H Q I h => ?_⟩
  refine Call_ (ld_blt I hg hm boot_len ?_)
  refine PyProof.Rows.callWith_builtin1 (PyProof.Rows.args_cons ?_ rfl) rfl rfl
  refine Call_ (ld_blt I hg2 hm2 PyProof.Rows.boot_set ?_)
  refine PyProof.Rows.callWith_type1 (PyProof.Rows.args_cons (thn (ha.run pins s σ H _ I h) fun v s1 ⟨x, H1, I1, r1, q1⟩ => PyProof.Rows.args_nil ?_) na) na rfl
  obtain ⟨l, ns, rfl, hq, hl, q1⟩ := q1
  cases r1
  obtain ⟨its, rv, pt, hz⟩ := I1.tuple hq
  have hi : IntsAre its.toArray.toList ns := by
    have := rv.ints
    simpa using this
  refine call_set_tupI ns (I1.ok.hd hc) (show s1.heap.IsTuple l its.toArray from pt) hi (by unfold scanBound; omega) fun h' tk c R1 hcn k => ?_
  obtain ⟨o, es, ep, t, ho, hex, hdt, g, nd, hm3, hb, hf, hn, hr, hl2⟩ := R1
  refine PyProof.Rows.args_nil ?_
  have I2 : Inv X pins σ H1 { s1 with heap := h', toks := tk } := I1.kept k
  have le : (es.toList.map keyOf).length = es.size := by rw [List.length_map, Array.length_toList]
  refine call_len_set ho hex hdt hf (by rw [hn]; omega) ⟨.int ((es.toList.map keyOf).length : Nat), H1, I2.tok _, ⟨_, by rw [le]⟩, q1 _ nd fun j => ?_⟩
  rw [← hm3 j]
  exact decide_eq_true_iff


end Pl

namespace Pl
open PySem PySem.Spec PyProof.Rows L2
/-! methods of lists within a comprehension -/

end Pl
namespace Pl
open PySem PySem.Spec PyProof.Rows L2
/-! str of a list or a tuple -/
section
variable {X : Cx}


end
end Pl
namespace Pl
open PySem PySem.Spec PyProof.Rows L2
/-! t.count(x) of a tuple of flat values -/



end Pl
/-! a run that is told nothing of what sleeping generators would do leaves them asleep -/
namespace GenZ
open PySem
open Sem (wp)
/-- none of these frames wakes anybody -/
def Own1 (F : Frame) : Prop := ∀ g k l c p, F ≠ .gen g k l c p
def OwnF (fs : List Frame) : Prop := ∀ F ∈ fs, Own1 F
theorem OwnF.split : ∀ {fs : List Frame}, OwnF fs → splitAtGen fs = none
  | [], _ => rfl
  | .ret k h g l c p kp :: fs, o => by
    show (splitAtGen fs).map _ = none
    rw [OwnF.split fun F hF => o F (List.mem_cons_of_mem _ hF)]
    rfl
  | .gen g k l c p :: fs, o => absurd rfl (o _ List.mem_cons_self g k l c p)
theorem OwnF.nil : OwnF [] := fun _ h => (nomatch h)

def OwnG (y : GenState) : Prop := ∀ k l c p fs cl, y = .suspended k l c p fs cl → OwnF fs
def OwnE (e : End) : Prop := ∀ v g l k c p fs, e = .susp v g l k c p fs → OwnF fs
theorem OwnE.ret {r : Result} : OwnE (.ret r) := fun _ _ _ _ _ _ _ z => (nomatch z)
theorem OwnE.gs {e : End} (h : OwnE e) : OwnG e.genState := by
  cases e with
  | ret r => intro _ _ _ _ _ _ z; cases z
  | susp v g l k c p fs => intro _ _ _ _ _ _ z; cases z; exact h _ _ _ _ _ _ _ rfl
def dumb (F : Frame) : Frame := .ret (fun _ => .unsupported "") none false [] F.where_.1 F.where_.2 []
/-- looks the same, but what it would do is not told -/
def hid : GenState → GenState
  | .suspended _ l c p fs cl => .suspended (fun _ => .unsupported "") l c p (fs.map dumb) cl
  | x => x
theorem hid_seen (x : GenState) : (hid x).seen = x.seen := by
  cases x with
  | suspended k l c p fs cl =>
    show (GenStatus.suspended, some ((c, p) :: (fs.map dumb).map Frame.where_)) = (GenStatus.suspended, some ((c, p) :: fs.map Frame.where_))
    rw [List.map_map]
    have e : (Frame.where_ ∘ dumb) = Frame.where_ := funext fun F => by cases F <;> rfl
    rw [e]
  | _ => rfl
theorem hid_bare (x : GenState) : (hid x).bare = x.bare := by cases x <;> rfl
/-- these sleep -/
def Slp (x : GenState) : Prop := ∃ k l c p fs cl, x = .suspended k l c p fs cl
/-- the told table and the true one -/
structure Rl (φ : Nat → Option GenState) (G G' : Array GenState) : Prop where
  size : G'.size = G.size
  old : ∀ i x, φ i = some x → Slp x ∧ G[i]? = some (hid x) ∧ G'[i]? = some x
  new : ∀ i y, φ i = none → G[i]? = some y → G'[i]? = some y ∧ OwnG y
variable {φ : Nat → Option GenState} {G G' : Array GenState}
theorem Rl.push (r : Rl φ G G') {y : GenState} (o : OwnG y) : Rl φ (G.push y) (G'.push y) := by
  have sz := r.size
  refine ⟨by rw [Array.size_push, Array.size_push, sz], fun i x e => ?_, fun i z e h => ?_⟩
  · obtain ⟨h1, h2, h3⟩ := r.old i x e
    have l1 := (Array.getElem?_eq_some_iff.mp h2).1
    refine ⟨h1, ?_, ?_⟩
    · rw [Array.getElem?_push, if_neg (by omega)]; exact h2
    · rw [Array.getElem?_push, if_neg (by omega)]; exact h3
  · rw [Array.getElem?_push] at h ⊢
    rw [sz]
    by_cases c : i = G.size
    · rw [if_pos c] at h ⊢
      cases h
      exact ⟨rfl, o⟩
    · rw [if_neg c] at h ⊢
      exact r.new i z e h
theorem Rl.set (r : Rl φ G G') {g : Nat} {y : GenState} (n : φ g = none) (o : OwnG y) : Rl φ (G.setIfInBounds g y) (G'.setIfInBounds g y) := by
  have sz := r.size
  refine ⟨by simp [sz], fun i x e => ?_, fun i z e h => ?_⟩
  · obtain ⟨h1, h2, h3⟩ := r.old i x e
    have ne : g ≠ i := fun q => by rw [q, e] at n; cases n
    rw [Array.getElem?_setIfInBounds_ne ne, Array.getElem?_setIfInBounds_ne ne]
    exact ⟨h1, h2, h3⟩
  · by_cases c : g = i
    · subst c
      rw [Array.getElem?_setIfInBounds_self] at h ⊢
      rw [sz]
      split at h
      · cases h
        rename_i q
        rw [if_pos q]
        exact ⟨rfl, o⟩
      · cases h
    · rw [Array.getElem?_setIfInBounds_ne c] at h ⊢
      exact r.new i z e h
theorem ownRun : OwnG .running := fun _ _ _ _ _ _ z => (nomatch z)
theorem ownFin : OwnG .finished := fun _ _ _ _ _ _ z => (nomatch z)
theorem ownFresh {c : Code} : OwnG (.fresh c) := fun _ _ _ _ _ _ z => (nomatch z)
/-- what is not asleep is told as it is -/
theorem Rl.awake (r : Rl φ G G') {g : Nat} {y : GenState} (h : G[g]? = some y) (n : ¬ Slp y) : φ g = none ∧ G'[g]? = some y := by
  cases e : φ g with
  | none => exact ⟨rfl, (r.new g y e h).1⟩
  | some x =>
    obtain ⟨⟨k, l, c, p, fs, cl, rfl⟩, h2, _⟩ := r.old g x e
    rw [h] at h2
    cases h2
    exact absurd ⟨_, _, _, _, _, _, rfl⟩ n
variable {M : Model}
theorem no_unsup {Γ : Ctx} {p : Pos} {t : Sem PySem.Fin} {fs : List Frame} {s s' : Shared} {e : End} (h : Runs M Γ p t fs s e s') : ∀ m, t ≠ .unsupported m := by
  induction h with
  | segRet _ _ ih _ => exact ih
  | segGen _ _ ih _ => exact ih
  | segSuspOut _ _ ih => exact ih
  | segSuspGen _ _ _ _ ih _ => exact ih
  | _ => intro m z; cases z
def sw (s : Shared) (G : Array GenState) : Shared := { s with gens := G }
theorem sim {Γ : Ctx} {p : Pos} {t : Sem PySem.Fin} {fs : List Frame} {s s' : Shared} {e : End} (h : Runs M Γ p t fs s e s') : OwnF fs → ∀ G', Rl φ s.gens G' → OwnE e ∧ ∃ G1, Rl φ s'.gens G1 ∧ Runs M Γ p t fs (sw s G') e (sw s' G1) := by
  induction h with
  | done => exact fun _ G' r => ⟨.ret, G', r, .done⟩
  | raise => exact fun _ G' r => ⟨.ret, G', r, .raise⟩
  | again hq _ ih => exact fun o G' r => let ⟨a, G1, b, c⟩ := ih o G' r; ⟨a, G1, b, .again hq c⟩
  | rule _ ih => exact fun o G' r => let ⟨a, G1, b, c⟩ := ih o G' r; ⟨a, G1, b, .rule c⟩
  | «at» _ ih => exact fun o G' r => let ⟨a, G1, b, c⟩ := ih o G' r; ⟨a, G1, b, .at c⟩
  | load h1 _ ih => exact fun o G' r => let ⟨a, G1, b, c⟩ := ih o G' r; ⟨a, G1, b, .load h1 c⟩
  | update h1 _ ih => exact fun o G' r => let ⟨a, G1, b, c⟩ := ih o G' r; ⟨a, G1, b, .update h1 c⟩
  | loadIfAlive _ ih => exact fun o G' r => let ⟨a, G1, b, c⟩ := ih o G' r; ⟨a, G1, b, .loadIfAlive c⟩
  | point _ ih => exact fun o G' r => let ⟨a, G1, b, c⟩ := ih o G' r; ⟨a, G1, b, .point c⟩
  | alloc _ ih => exact fun o G' r => let ⟨a, G1, b, c⟩ := ih o G' r; ⟨a, G1, b, .alloc c⟩
  | fresh _ ih => exact fun o G' r => let ⟨a, G1, b, c⟩ := ih o G' r; ⟨a, G1, b, .fresh c⟩
  | ask _ ih => exact fun o G' r => let ⟨a, G1, b, c⟩ := ih o G' r; ⟨a, G1, b, .ask c⟩
  | choose h1 _ ih => exact fun o G' r => let ⟨a, G1, b, c⟩ := ih o G' r; ⟨a, G1, b, .choose h1 c⟩
  | os _ ih => exact fun o G' r => let ⟨a, G1, b, c⟩ := ih o G' r; ⟨a, G1, b, .os c⟩
  | handled _ ih => exact fun o G' r => let ⟨a, G1, b, c⟩ := ih o G' r; ⟨a, G1, b, .handled c⟩
  | stack _ ih => exact fun o G' r => let ⟨a, G1, b, c⟩ := ih o G' r; ⟨a, G1, b, .stack c⟩
  | thread _ ih => exact fun o G' r => let ⟨a, G1, b, c⟩ := ih o G' r; ⟨a, G1, b, .thread c⟩
  | @genState g st Γ p k s e s1 h1 _ ih =>
    intro o G' r
    obtain ⟨a, G1, b, c⟩ := ih o G' r
    refine ⟨a, G1, b, ?_⟩
    cases q : φ g with
    | none => exact .genState (r.new g st q h1).1 c
    | some x =>
      obtain ⟨_, h2, h3⟩ := r.old g x q
      rw [h1] at h2
      cases h2
      rw [hid_seen] at c
      exact .genState h3 c
  | @newGen Γ p k s e s' c _ ih =>
    intro o G' r
    obtain ⟨a, G1, b, d⟩ := ih o (G'.push (.fresh c)) (r.push ownFresh)
    refine ⟨a, G1, b, .newGen ?_⟩
    show Runs M Γ p (k G'.size) [] _ _ _
    rw [r.size]
    exact d
  | call _ _ ih1 ih2 =>
    intro o G' r
    obtain ⟨_, G1, b, c⟩ := ih1 OwnF.nil G' r
    obtain ⟨a, G2, b2, c2⟩ := ih2 OwnF.nil G1 b
    exact ⟨a, G2, b2, .call c c2⟩
  | callSusp _ ih =>
    intro o G' r
    obtain ⟨a, G1, b, c⟩ := ih OwnF.nil G' r
    refine ⟨?_, G1, b, .callSusp c⟩
    intro _ _ _ _ _ _ _ z
    cases z
    intro F hF
    rcases List.mem_append.mp hF with q | q
    · exact a _ _ _ _ _ _ _ rfl F q
    · rw [List.mem_singleton.mp q]; intro _ _ _ _ _ z; cases z
  | yield => exact fun _ G' r => ⟨fun _ _ _ _ _ _ _ z => by cases z; exact OwnF.nil, G', r, .yield⟩
  | resumeFresh h1 _ hq _ ih1 ih2 =>
    intro o G' r
    obtain ⟨n, h2⟩ := r.awake h1 fun ⟨_, _, _, _, _, _, z⟩ => (nomatch z)
    obtain ⟨a, G1, b, c⟩ := ih1 OwnF.nil _ (r.set n ownRun)
    obtain ⟨a2, G2, b2, c2⟩ := ih2 OwnF.nil _ (b.set n a.gs)
    exact ⟨a2, G2, b2, .resumeFresh h2 c hq c2⟩
  | @resumeSuspended Γ p g rr l k s k0 l0 c0 p0 fs0 cl e1 s1 e s' h1 hr hq _ ih1 ih2 =>
    intro o G' r
    cases q : φ g with
    | none =>
      obtain ⟨h2, og⟩ := r.new g _ q h1
      obtain ⟨a, G1, b, c⟩ := ih1 (og _ _ _ _ _ _ rfl) _ (r.set q ownRun)
      obtain ⟨a2, G2, b2, c2⟩ := ih2 OwnF.nil _ (b.set q a.gs)
      exact ⟨a2, G2, b2, .resumeSuspended h2 c hq c2⟩
    | some x =>
      obtain ⟨⟨k', l', c', p', fs', cl', rfl⟩, h2, _⟩ := r.old g x q
      rw [h1] at h2
      cases h2
      exact absurd rfl (no_unsup hr "")
  | resumeJustStarted h1 hv _ ih =>
    intro o G' r
    obtain ⟨n, h2⟩ := r.awake h1 fun ⟨_, _, _, _, _, _, z⟩ => (nomatch z)
    obtain ⟨a, G1, b, c⟩ := ih o G' r
    exact ⟨a, G1, b, .resumeJustStarted h2 hv c⟩
  | resumeThrowFresh h1 _ ih =>
    intro o G' r
    obtain ⟨n, h2⟩ := r.awake h1 fun ⟨_, _, _, _, _, _, z⟩ => (nomatch z)
    obtain ⟨a, G1, b, c⟩ := ih o _ (r.set n ownFin)
    exact ⟨a, G1, b, .resumeThrowFresh h2 c⟩
  | resumeRunning h1 _ ih =>
    intro o G' r
    obtain ⟨n, h2⟩ := r.awake h1 fun ⟨_, _, _, _, _, _, z⟩ => (nomatch z)
    obtain ⟨a, G1, b, c⟩ := ih o G' r
    exact ⟨a, G1, b, .resumeRunning h2 c⟩
  | resumeFinished h1 _ ih =>
    intro o G' r
    obtain ⟨n, h2⟩ := r.awake h1 fun ⟨_, _, _, _, _, _, z⟩ => (nomatch z)
    obtain ⟨a, G1, b, c⟩ := ih o G' r
    exact ⟨a, G1, b, .resumeFinished h2 c⟩
  | segRet _ _ ih1 ih2 =>
    intro o G' r
    obtain ⟨_, G1, b, c⟩ := ih1 OwnF.nil G' r
    obtain ⟨a, G2, b2, c2⟩ := ih2 (fun F hF => o F (List.mem_cons_of_mem _ hF)) G1 b
    exact ⟨a, G2, b2, .segRet c c2⟩
  | segGen _ _ ih1 ih2 => exact fun o _ _ => absurd rfl (o _ List.mem_cons_self _ _ _ _ _)
  | segSuspOut hs _ ih =>
    intro o G' r
    obtain ⟨a, G1, b, c⟩ := ih OwnF.nil G' r
    refine ⟨?_, G1, b, .segSuspOut hs c⟩
    intro _ _ _ _ _ _ _ z
    cases z
    intro F hF
    rcases List.mem_append.mp hF with q | q
    · exact a _ _ _ _ _ _ _ rfl F q
    · exact o F q
  | segSuspGen hs _ _ _ ih1 ih2 =>
    intro o G' r
    rw [o.split] at hs
    cases hs
/-- the true run, by the told one -/
def Tr (φ : Nat → Option GenState) (s s' : Shared) : Prop := ∃ G', Rl φ s.gens G' ∧ s' = sw s G'
theorem wk_sim {Γ : Ctx} {p : Pos} {g : Nat} {r : Resume} {s s' : Shared} {res : GenResult} (h : Wakes M Γ p g r s res s') {G' : Array GenState} (rl : Rl φ s.gens G') : ∃ G1, Rl φ s'.gens G1 ∧ Wakes M Γ p g r (sw s G') res (sw s' G1) := by
  unfold Wakes at h ⊢
  cases hg : s.gens[g]? with
  | none => rw [hg] at h; exact h.elim
  | some y =>
    rw [hg] at h
    cases y with
    | fresh c =>
      obtain ⟨n, h2⟩ := rl.awake hg fun ⟨_, _, _, _, _, _, z⟩ => (nomatch z)
      have h2' : (sw s G').gens[g]? = some (.fresh c) := h2
      rw [h2']
      cases r with
      | send v =>
        cases v with
        | none =>
          obtain ⟨e1, s1, hr, hq, rfl, rfl⟩ := h
          obtain ⟨a, G1, b, c1⟩ := sim hr OwnF.nil _ (rl.set n ownRun)
          exact ⟨_, b.set n a.gs, e1, sw s1 G1, c1, hq, rfl, rfl⟩
        | _ =>
          obtain ⟨rfl, rfl⟩ := h
          exact ⟨G', rl, rfl, rfl⟩
      | throw x =>
        obtain ⟨rfl, rfl⟩ := h
        exact ⟨_, rl.set n ownFin, rfl, rfl⟩
    | suspended k l c p' fs cl =>
      obtain ⟨e1, s1, hr, hq, rfl, rfl⟩ := h
      cases q : φ g with
      | some x =>
        obtain ⟨⟨k', l', c', p2, fs', cl', rfl⟩, h2, _⟩ := rl.old g x q
        rw [hg] at h2
        cases h2
        exact absurd rfl (no_unsup hr "")
      | none =>
        obtain ⟨h2, og⟩ := rl.new g _ q hg
        have h2' : (sw s G').gens[g]? = some (.suspended k l c p' fs cl) := h2
        rw [h2']
        obtain ⟨a, G1, b, c1⟩ := sim hr (og _ _ _ _ _ _ rfl) _ (rl.set q ownRun)
        exact ⟨_, b.set q a.gs, e1, sw s1 G1, c1, hq, rfl, rfl⟩
    | running =>
      obtain ⟨n, h2⟩ := rl.awake hg fun ⟨_, _, _, _, _, _, z⟩ => (nomatch z)
      have h2' : (sw s G').gens[g]? = some .running := h2
      rw [h2']
      obtain ⟨rfl, rfl⟩ := h
      exact ⟨G', rl, rfl, rfl⟩
    | finished =>
      obtain ⟨n, h2⟩ := rl.awake hg fun ⟨_, _, _, _, _, _, z⟩ => (nomatch z)
      have h2' : (sw s G').gens[g]? = some .finished := h2
      rw [h2']
      obtain ⟨rfl, rfl⟩ := h
      exact ⟨G', rl, rfl, rfl⟩
theorem wp_sim {α : Type} (Γ : Ctx) (t : Sem α) : ∀ (Q : α → Pos → Shared → Prop) (E : Value → Pos → Shared → Prop) (p : Pos) (s : Shared) (G' : Array GenState), Rl φ s.gens G' → wp M Γ t Q E p s →
    wp M Γ t (fun a p' s' => ∃ s1, Tr φ s1 s' ∧ Q a p' s1) (fun x p' s' => ∃ s1, Tr φ s1 s' ∧ E x p' s1) p (sw s G') := by
  induction t with
  | pure a => exact fun Q E p s G' r h => ⟨s, ⟨G', r, rfl⟩, h⟩
  | raise e => exact fun Q E p s G' r h => ⟨s, ⟨G', r, rfl⟩, h⟩
  | unsupported _ => exact fun Q E p s G' r h => h
  | finish _ => exact fun Q E p s G' r h => h
  | rule _ k ih => exact fun Q E p s G' r h => ih () Q E p s G' r h
  | «at» p' k ih => exact fun Q E p s G' r h => ih () Q E p' s G' r h
  | load a _ k ih => exact fun Q E p s G' r ⟨o, ho, h⟩ => ⟨o, ho, ih o Q E p s G' r h⟩
  | update a _ f k ih => exact fun Q E p s G' r h => ⟨h.1, ih () Q E p { s with heap := s.heap.update a f } G' r h.2⟩
  | loadIfAlive a k ih => exact fun Q E p s G' r h => ih _ Q E p s G' r h
  | point _ k ih => exact fun Q E p s G' r h => ih () Q E p s G' r h
  | register _ _ => exact fun Q E p s G' r h => h
  | alloc o k ih => exact fun Q E p s G' r h => ih _ Q E p { s with heap := s.heap.push o } G' r h
  | fresh k ih => exact fun Q E p s G' r h => ih _ Q E p { s with toks := s.toks + 1 } G' r h
  | ask k ih => exact fun Q E p s G' r h => ih _ Q E p s G' r h
  | choose src m k ih => exact fun Q E p s G' r h => ⟨h.1, ih _ Q E p { s with drawn := s.drawn.bump src } G' r h.2⟩
  | os q _ k ih => exact fun Q E p s G' r h => ih _ Q E p { s with os := (Os.step s.os q).1 } G' r h
  | call c hd _ _ k ih =>
    intro Q E p s G' r h
    obtain ⟨res, s', hr, h⟩ := h
    obtain ⟨_, G1, b, c1⟩ := sim (φ := φ) hr OwnF.nil G' r
    exact ⟨res, sw s' G1, c1, ih res Q E p s' G1 b h⟩
  | handled own k ih => exact fun Q E p s G' r h => ih _ Q E p s G' r h
  | genState g k ih =>
    intro Q E p s G' r h
    obtain ⟨st, hs, h⟩ := h
    cases q : φ g with
    | none => exact ⟨st, (r.new g st q hs).1, ih _ Q E p s G' r h⟩
    | some x =>
      obtain ⟨_, h2, h3⟩ := r.old g x q
      rw [hs] at h2
      cases h2
      rw [hid_seen] at h
      exact ⟨x, h3, ih _ Q E p s G' r h⟩
  | newGen c k ih =>
    intro Q E p s G' r h
    have z := ih _ Q E p { s with gens := s.gens.push (.fresh c) } (G'.push (.fresh c)) (r.push ownFresh) h
    show wp M Γ (k G'.size) _ _ p _
    rw [r.size]
    exact z
  | resume g rr _ k ih =>
    intro Q E p s G' r h
    obtain ⟨res, s', hw, h⟩ := h
    obtain ⟨G1, b, w1⟩ := wk_sim hw r
    exact ⟨res, sw s' G1, w1, ih res Q E p s' G1 b h⟩
  | yield _ _ _ _ => exact fun Q E p s G' r h => h
  | stack k ih => exact fun Q E p s G' r h => ih _ Q E p s G' r h
  | fork _ _ => exact fun Q E p s G' r h => h
  | thread k ih => exact fun Q E p s G' r h => ih _ Q E p s G' r h
  | await _ _ _ _ _ => exact fun Q E p s G' r h => h
/-! all that sleep, hidden -/
def asleep (s : Shared) (i : Nat) : Option GenState := match s.gens[i]? with
  | some (.suspended k l c p fs cl) => some (.suspended k l c p fs cl)
  | _ => none
def veil (s : Shared) : Shared := sw s (s.gens.map hid)
theorem rl_veil (s : Shared) : Rl (asleep s) (s.gens.map hid) s.gens := by
  refine ⟨by simp, fun i x e => ?_, fun i y e h => ?_⟩
  · unfold asleep at e
    split at e
    · rename_i q
      cases e
      exact ⟨⟨_, _, _, _, _, _, rfl⟩, by rw [Array.getElem?_map, q]; rfl, q⟩
    · cases e
  · rw [Array.getElem?_map] at h
    cases q : s.gens[i]? with
    | none => rw [q] at h; cases h
    | some x =>
      rw [q] at h
      unfold asleep at e
      rw [q] at e
      cases x with
      | suspended k l c p fs cl => cases e
      | _ => cases h; exact ⟨rfl, fun _ _ _ _ _ _ z => (nomatch z)⟩
theorem bare_veil {s : Shared} (h : PyProof.Rows.AllBare s.gens) : PyProof.Rows.AllBare (veil s).gens := fun y hy => by
  obtain ⟨x, hx, rfl⟩ := Array.mem_map.mp hy
  rw [hid_bare]
  exact h x hx
/-- what was asleep is as it was -/
structure Kept (s s1 s' : Shared) : Prop where
  same : s' = sw s1 s'.gens
  bare : PyProof.Rows.AllBare s.gens → PyProof.Rows.AllBare s1.gens → PyProof.Rows.AllBare s'.gens
  slept : ∀ (i : Nat) (x : GenState), s.gens[i]? = some x → Slp x → s'.gens[i]? = some x
theorem kept_of {s s1 s' : Shared} (t : Tr (asleep s) s1 s') : Kept s s1 s' := by
  obtain ⟨G', r, rfl⟩ := t
  refine ⟨rfl, fun b0 b1 y hy => ?_, fun i x e sl => ?_⟩
  · obtain ⟨i, hi, e⟩ := Array.mem_iff_getElem.mp hy
    have e' : G'[i]? = some y := by rw [← e]; exact Array.getElem?_eq_getElem hi
    have hi1 : i < s1.gens.size := by
      have : i < G'.size := hi
      rw [r.size] at this
      exact this
    cases q : asleep s i with
    | none =>
      have e1 : s1.gens[i]? = some s1.gens[i] := Array.getElem?_eq_getElem hi1
      have h1 := (r.new i _ q e1).1
      rw [e'] at h1
      rw [Option.some.inj h1]
      exact b1 _ (Array.getElem_mem hi1)
    | some x =>
      obtain ⟨_, _, h3⟩ := r.old i x q
      rw [e'] at h3
      rw [Option.some.inj h3]
      unfold asleep at q
      split at q
      · rename_i z
        cases q
        exact b0 _ (Array.mem_of_getElem? z)
      · cases q
  · obtain ⟨k, l, c, p, fs, cl, rfl⟩ := sl
    exact (r.old i _ (by unfold asleep; rw [e])).2.2
theorem wpAny_veil {α : Type} {A : Around} {t : Sem α} {Q : α → Shared → Prop} {E : Value → Shared → Prop} {s : Shared} (h : wpAny M A t Q E (veil s)) : wpAny M A t (fun a s' => ∃ s1, Kept s s1 s' ∧ Q a s1) (fun e s' => ∃ s1, Kept s s1 s' ∧ E e s1) s :=
  wpAny_mono (fun Γ p hΓ => wp_sim Γ t _ _ p (veil s) s.gens (rl_veil s) (h Γ p hΓ) : wpAny M A t (fun a s' => ∃ s1, Tr (asleep s) s1 s' ∧ Q a s1) (fun e s' => ∃ s1, Tr (asleep s) s1 s' ∧ E e s1) s) (fun _ _ ⟨s1, a, b⟩ => ⟨s1, kept_of a, b⟩) fun _ _ ⟨s1, a, b⟩ => ⟨s1, kept_of a, b⟩
end GenZ
/-! a generator that is walked while its walker makes objects: the generator's side -/
namespace GenZ
open PySem PySem.Spec PyProof.Rows L2
open Sem (wp)
/-- one stretch of a generator's run -/
def S1 (M : Model) (A : Around) (Φ : End → Shared → Prop) (c : Code) (t : Sem PySem.Fin) (fs : List Frame) (s : Shared) : Prop :=
  ∀ Γ p, Γ.code = c → Γ.Woken A → ∃ e s', Runs M Γ p t fs s e s' ∧ Φ e s'
section
variable {M : Model} {A : Around} {Φ : End → Shared → Prop} {c : Code} {fs : List Frame} {s : Shared}
theorem s1_wrap {α : Type} {m : Sem α} {K : α → Sem PySem.Fin} {J : Value → Sem PySem.Fin} {gd : Bool → Bool} {lv : List Value → List Value}
    (h : wpAny M (A.over c fs) m (fun a s' => S1 M A Φ c (K a) fs s') (fun x s' => S1 M A Φ c (J x) fs s') s) : S1 M A Φ c (m.wrap K J gd lv) fs s := by
  rintro Γ p rfl hΓ
  exact runs_wrap_of_wp K J gd lv m (h (Γ.over fs) p (hΓ.over fs)) (fun a p' s' q => q Γ p' rfl hΓ) fun x p' s' q => q Γ p' rfl hΓ
theorem s1_at {p' : Pos} {k : Unit → Sem PySem.Fin} (h : S1 M A Φ c (k ()) fs s) : S1 M A Φ c (.at p' k) fs s :=
  s1_wrap (m := standAt p') (K := k) (J := .raise) (gd := id) (lv := id) (wpAny_standAt h)
theorem s1_point {l : List Value} {k : Unit → Sem PySem.Fin} (h : S1 M A Φ c (k ()) fs s) : S1 M A Φ c (.point l k) fs s :=
  s1_wrap (m := point) (K := k) (J := .raise) (gd := id) (lv := fun _ => l) (wpAny_point h)
theorem s1_call {c' : Code} {h : Option Value} {g : Bool} {l : List Value} {k : Result → Sem PySem.Fin} (hc : ∀ p, S1 M A Φ c' (M.den c') (.ret k h g l c p [] :: fs) s) : S1 M A Φ c (.call c' h g l k) fs s := by
  rintro Γ p rfl hΓ
  obtain ⟨e, s', hr, he⟩ := hc p (Γ.goto c') p rfl (hΓ.goto c')
  exact ⟨e, s', runs_call_seg hr, he⟩
theorem s1_leaf {k : Result → Sem PySem.Fin} {h : Option Value} {g : Bool} {l kp : List Value} {c₁ : Code} {p₁ : Pos} (r : Result) (hk : S1 M A Φ c₁ (k r) fs s) : S1 M A Φ c (leafOf r) (.ret k h g l c₁ p₁ kp :: fs) s := by
  rintro Γ p rfl hΓ
  obtain ⟨e, s', hr, he⟩ := hk (Γ.goto c₁) p₁ rfl (hΓ.goto c₁)
  exact ⟨e, s', Runs.pop r hr, he⟩
theorem s1_again {c' : Code} (hq : c'.quiet = true) (hc : S1 M A Φ c' (M.den c') fs s) : S1 M A Φ c (.pure (.again c')) fs s := by
  rintro Γ p rfl hΓ
  obtain ⟨e, s', hr, he⟩ := hc (Γ.goto c') p rfl (hΓ.goto c')
  exact ⟨e, s', Runs.head (c₁ := c') (fun _ _ x => .again hq x) hr, he⟩
theorem s1_end (r : Result) (h : Φ (.ret r) s) : S1 M A Φ c (leafOf r) [] s := by
  rintro Γ p rfl _
  exact ⟨.ret r, s, Runs.leaf r, h⟩
theorem s1_yield {v : Value} {g : Bool} {l : List Value} {k : Resume → Sem PySem.Fin} (hs : splitAtGen fs = none) (h : ∀ p, Φ (.susp v g l k c p fs) s) : S1 M A Φ c (.yield v g l k) fs s := by
  rintro Γ p rfl _
  exact ⟨_, s, Runs.yield' fs hs, h p⟩
theorem s1_cons {env : Env} {K : Flow → Sem PySem.Fin} {J : Value → Sem PySem.Fin} {gd : Bool → Bool} {lv : List Value → List Value} {st : Stmt} {rest : List Stmt}
    (h : S1 M A Φ c ((exec st env).wrap (fun f => match f with | .next => (execs rest env).wrap K J gd lv | f => K f) J gd lv) fs s) : S1 M A Φ c ((execs (st :: rest) env).wrap K J gd lv) fs s := by
  rw [execs_cons_wrap]
  exact h
end
/-- what a loop's turn does with an exception -/
def noted (env : Env) (e : Value) : Sem PySem.Fin := (do noteFrame e env; theTreesLotGoes e : Sem Unit).wrap (fun _ => .raise e) .raise id id
/-- how a turn of a loop ends -/
def turnEnd (c : Code) : Flow → Sem PySem.Fin
  | .next | .cont => .pure (.again c)
  | .brk => .pure (.done .next)
  | .ret v => .pure (.done (.ret v))
section
variable {prog : Program} {w : World} {A : Around} {Φ : End → Shared → Prop} {fs : List Frame} {s : Shared} {env : Env}
theorem s1_loop {test : Expr} {body : List Stmt}
    (h : wpAny (model prog w) (A.over (.whileLoop test body [] env) fs) (isTrue test env (eval test env)) (fun b s' =>
        if b = true then S1 (model prog w) A Φ (.whileLoop test body [] env) ((execs body env).wrap (turnEnd (.whileLoop test body [] env)) (noted env) id id) fs s'
        else S1 (model prog w) A Φ (.whileLoop test body [] env) (leafOf (.ok .next)) fs s') (fun _ _ => False) s) :
    S1 (model prog w) A Φ (.whileLoop test body [] env) ((model prog w).den (.whileLoop test body [] env)) fs s := by
  show S1 _ A Φ _ ((whileTurn test body [] env).onRaise (fun x => do noteFrame x env; theTreesLotGoes x)) fs s
  unfold whileTurn
  rw [Sem.onRaise_eq_wrap, Sem.bind_eq_wrap', Sem.wrap_wrap]
  refine s1_wrap (wpAny_mono h (fun b s' hb => ?_) fun x s' hx => hx.elim)
  cases b with
  | true =>
    rw [if_pos rfl] at hb
    show S1 _ A Φ _ (Sem.wrap _ _ _ _ (if true = true then _ else _)) fs s'
    rw [if_pos rfl, Sem.bind_eq_wrap', Sem.wrap_wrap]
    rw [Sem.wrap_congr (execs body env) _ _ (K' := turnEnd (.whileLoop test body [] env)) (H' := noted env) (fun f => by cases f <;> rfl)
      (fun e => by first | exact Sem.bind_eq_wrap _ _ | (show (do noteFrame e env; theTreesLotGoes e : Sem Unit).bind (fun _ => .raise e) = _; rw [Sem.bind_eq_wrap]; rfl))]
    exact hb
  | false =>
    rw [if_neg Bool.false_ne_true] at hb
    show S1 _ A Φ _ (Sem.wrap _ _ _ _ (if false = true then _ else _)) fs s'
    rw [if_neg Bool.false_ne_true]
    exact hb
theorem s1_func {body : List Stmt} (h : S1 (model prog w) A Φ (.func body env) ((execs body env).wrap (fun f => leafOf (.ok (.ret (match f with | .ret v => v | _ => .none)))) (fun e => (leaving env e).wrap (fun _ => .raise e) .raise id id) id id) fs s) :
    S1 (model prog w) A Φ (.func body env) ((model prog w).den (.func body env)) fs s := by
  show S1 _ A Φ _ (.point [] fun _ => ((execs body env).onRaise (leaving env)) >>= _) fs s
  refine s1_point ?_
  rw [Sem.onRaise_eq_wrap, Sem.bind_eq_wrap', Sem.wrap_wrap]
  rw [Sem.wrap_congr (execs body env) _ _ (K' := fun f => leafOf (.ok (.ret (match f with | .ret v => v | _ => .none)))) (H' := fun e => (leaving env e).wrap (fun _ => .raise e) .raise id id) (fun f => by cases f <;> rfl)
    (fun e => by rw [Sem.bind_eq_wrap, Sem.wrap_wrap]; rfl)]
  exact h
end
/-! the generator's frame, over what stood when it was woken last -/
def cut (n : Nat) (h : Heap) : Heap := { h with objs := h.objs.extract 0 n }
theorem cut_get {n : Nat} {h : Heap} {b : Addr} (l : b < n) : (cut n h).get? b = h.get? b := by
  unfold cut Heap.get?
  have e : (h.objs.extract 0 n)[b]? = h.objs[b]? := by
    have l' : b < n := l
    rw [Array.getElem?_extract]
    by_cases q : b < h.objs.size
    · have q' : b < min n h.objs.size - 0 := by
        have := Nat.lt_min.mpr ⟨l', q⟩
        exact this
      rw [if_pos q', Nat.zero_add]
    · have q' : ¬ b < min n h.objs.size - 0 := fun z => q (Nat.lt_of_lt_of_le z (by rw [Nat.sub_zero]; exact Nat.min_le_right _ _))
      rw [if_neg q', Array.getElem?_eq_none (Nat.le_of_not_lt q)]
  simp only [e]
theorem cut_some {n : Nat} {h : Heap} {b : Addr} {o : Obj} (e : (cut n h).get? b = some o) : h.get? b = some o := by
  have l : b < (h.objs.extract 0 n).size := Heap.lt_size e
  have l2 : b < n := by
    rw [Array.size_extract] at l
    exact Nat.lt_of_lt_of_le l (by rw [Nat.sub_zero]; exact Nat.min_le_left _ _)
  rw [cut_get l2] at e
  exact e
structure Gn where
  P : Program
  w : World
  K : PySem.W.Frag
  mg : Str → Option Value
  base : Heap
  N : List Str
  qual : Str
  scope : Scope
  f : Addr
  cd : Value
  A : Around
  outer : List Env
  n0 : Nat
  pn : List (Addr × Obj)
def Gn.env (G : Gn) : Env := envOfC G.qual G.scope G.n0 G.f G.cd
def Gn.cx (G : Gn) (s : Shared) (H : Hp) : Cx where
  prog := G.P
  w := G.w
  K := G.K
  mg := G.mg
  base := G.base
  A := G.A.deeper G.env
  N := G.N
  s_0 := { s with heap := cut G.n0 s.heap }
  H_0 := H
  env := G.env
  outer := G.outer
  stack := G.env :: G.outer
  ex := []
  calm := true
  fn := fun _ => true
  pn := G.pn
  xe := fun _ _ => False
/-- the generator's own: its frame, its cells, what is pinned -/
def Gn.own (G : Gn) (b : Addr) : Prop := b = G.env.locals ∨ (∃ x, G.env.cells.lookup x = some b) ∨ ∃ o, (b, o) ∈ G.pn
/-- it slept at s, and is woken at s' -/
structure Wake (G : Gn) (s : Shared) (H : Hp) (s' : Shared) (H' : Hp) : Prop where
  os : s'.os = s.os
  same : Same H H'
  e0 : Env0 G.P G.w G.K G.mg G.base G.A G.outer s' H'
  keep : ∀ b o, G.own b → s.heap.get? b = some o → s'.heap.get? b = some o ∧ H' b = none
theorem cut_size {n : Nat} {h : Heap} (l : n ≤ h.objs.size) : (cut n h).objs.size = n := by
  show (h.objs.extract 0 n).size = _
  rw [Array.size_extract]; omega
theorem funs_cut {n : Nat} {h base : Heap} : ∀ {l : List Env}, h.FunFrames base l → (∀ b ∈ frs l, b < n) → (cut n h).FunFrames base l
  | [], _, _ => trivial
  | env :: rest, ⟨hk, ⟨L, o, hf, hn, ho, hd⟩, hr⟩, hb => by
    have hm : L ∈ frs (env :: rest) := by
      unfold frs
      rw [List.mem_filterMap]
      exact ⟨env, List.mem_cons_self, hf⟩
    refine ⟨hk, ⟨L, o, hf, hn, by rw [cut_get (hb L hm)]; exact ho, hd⟩, funs_cut hr fun b q => hb b ?_⟩
    unfold frs at q ⊢
    rw [List.mem_filterMap] at q ⊢
    obtain ⟨e, he, z⟩ := q
    exact ⟨e, List.mem_cons_of_mem _ he, z⟩
/-- what holds of the generator at all times -/
structure Gn.Ok (G : Gn) : Prop where
  base : G.base.objs.size ≤ G.n0
  frs : ∀ b ∈ frs G.outer, b < G.n0
  cells : ∀ x c, G.env.cells.lookup x = some c → G.n0 ≤ c
theorem woken {G : Gn} {s₀ s s' : Shared} {Hw H H' : Hp} {σ : L2.St} (go : G.Ok) (I : Inv (G.cx s₀ Hw) [] σ H s) (wk : Wake G s H s' H') : Inv (G.cx s' H') [] σ H' s' := by
  obtain ⟨m, hn, hl⟩ := I.loc
  obtain ⟨oL, es, ep, hoL, r⟩ := hn
  have kL := wk.keep _ _ (.inl rfl) hoL
  have sz : G.n0 ≤ s'.heap.objs.size := Nat.le_of_lt (Heap.lt_size kL.1)
  have csz := cut_size sz
  have e0 := wk.e0
  have ok := I.ok
  have kc : ∀ x c, G.env.cells.lookup x = some c → ∀ o, s.heap.get? c = some o → s'.heap.get? c = some o ∧ H' c = none := fun x c e o h => wk.keep c o (.inr (.inl ⟨x, e⟩)) h
  have cu : ∀ b o, b < G.n0 → s'.heap.get? b = some o → (cut G.n0 s'.heap).get? b = some o := fun b o l h => by rw [cut_get l]; exact h
  refine ⟨⟨ok.mod, ok.kind, ok.glob, ok.blt, ?_, ok.inj, ok.has, fun x c _ h => ?_, ok.hd, ok.frames, ok.stk, fun b hb => absurd hb (by simp [Gn.cx]), fun b o h => ?_, ?_, fun b o _ hb => absurd hb (by simp [Gn.cx]), fun b hb => absurd hb (by simp [Gn.cx]), ?_, e0.frf⟩, rfl, e0.bare, ?_, ?_, fun x c h => ?_, kL.2, fun x c h => ?_, fun p hp => ?_, e0.hok, I.len⟩
  · show (cut G.n0 s'.heap).objs.size ≤ G.n0
    omega
  · show (cut G.n0 s'.heap).objs.size ≤ c
    rw [csz]
    exact go.cells x c h
  · obtain ⟨q1, q2⟩ := e0.bs b o h
    exact ⟨cu b o (Nat.lt_of_lt_of_le (Heap.lt_size h) go.base) q1, q2⟩
  · show G.base.objs.size ≤ (cut G.n0 s'.heap).objs.size
    rw [csz]
    exact go.base
  · exact funs_cut e0.funs go.frs
  · exact ⟨fun b o e _ _ _ => cut_some e, fun b o e _ _ _ => ⟨o.slots, cut_some e⟩, fun b o _ n _ => n, fun b o e _ => ⟨o, cut_some e⟩, fun b xs e => e, fun b o u e => e, fun b ps e => ⟨#[], (show H' b = some (.tbl ps) from e).trans (by simp)⟩⟩
  · refine ⟨m, ⟨oL, es, ep, kL.1, r⟩, fun i x v h1 h2 h3 => ?_⟩
    obtain ⟨u, rv, lk⟩ := hl i x v h1 h2 h3
    refine ⟨u, rv, ?_⟩
    rcases lk with lk | ⟨kk, c, e, o, ho, hd⟩
    · exact .inl lk
    · exact .inr ⟨kk, c, e, o, (kc x c e o ho).1, hd⟩
  · obtain ⟨v, o, ho, hd⟩ := I.cell x c h
    exact ⟨v, o, (kc x c h o ho).1, hd⟩
  · obtain ⟨v, o, ho, hd⟩ := I.cell x c h
    exact (kc x c h o ho).2
  · obtain ⟨h1, h2, h3, h4, h5⟩ := I.pin p hp
    obtain ⟨b, o⟩ := p
    have hp' : (b, o) ∈ G.pn := by
      rcases List.mem_append.mp hp with z | z
      · exact z
      · cases z
    obtain ⟨q1, q2⟩ := wk.keep b o (.inr (.inr ⟨o, hp'⟩)) h1
    exact ⟨q1, q2, h3, h4, h5⟩
end GenZ
/-! a generator that is walked while its walker makes objects: its body -/
namespace GenZ
open PySem PySem.Spec PyProof.Rows L2
open Sem (wp)
/-- how a stretch ends: m are to be handed out still -/
def Go (G : Gn) (Yd : Nat → V → Hp → Prop) (En : Hp → Prop) : Nat → Shared → Hp → End → Shared → Prop
  | 0, s₀, Hw => fun e s₁ => (e = .ret (.ok (.ret .none)) ∨ e = .ret (.ok .next)) ∧ ∃ σ H1, Inv (G.cx s₀ Hw) [] σ H1 s₁ ∧ Same Hw H1 ∧ En H1
  | m + 1, s₀, Hw => fun e s₁ => ∃ v g l k c p fs, e = .susp v g l k c p fs ∧ e.quiet = true ∧ ∃ x σ H1, RelV x v ∧ Inv (G.cx s₀ Hw) [] σ H1 s₁ ∧ Same Hw H1 ∧ Yd m x H1 ∧
      ∀ s' H', Wake G s₁ H1 s' H' → S1 (model G.P G.w) G.A (Go G Yd En m s' H') c (k (.send .none)) fs s'
/-- where the generator's code stands -/
structure GC2 (G : Gn) (c : Code) (fs : List Frame) (gd : Bool → Bool) : Prop where
  over : G.A.over c fs = G.A.deeper G.env
  split : splitAtGen fs = none
  guard : fs.any Frame.guarded = false
  gd : gd false = false
/-- what is wanted behind a statement: how many are left, the heap at the last waking, the slots, the heap -/
structure GE2 where
  nx : Nat → Hp → L2.St → Hp → Prop
  rt : Nat → Hp → VK
  bk : Nat → Hp → L2.St → Hp → Prop := fun _ _ _ _ => False
  ct : Nat → Hp → L2.St → Hp → Prop := fun _ _ _ _ => False
abbrev TG2 := GE2 → Nat → Hp → L2.St → Hp → Prop
def GE2.at (D : GE2) (m : Nat) (Hw : Hp) : Ends := { nx := D.nx m Hw, rt := D.rt m Hw, bk := D.bk m Hw, ct := D.ct m Hw }
def GK2 (G : Gn) (Yd : Nat → V → Hp → Prop) (En : Hp → Prop) (c : Code) (fs : List Frame) (K : Flow → Sem PySem.Fin) (D : GE2) : Prop :=
  ∀ m s₀ Hw s f, SP (G.cx s₀ Hw) [] (D.at m Hw) f s → S1 (model G.P G.w) G.A (Go G Yd En m s₀ Hw) c (K f) fs s
structure GS2 (G : Gn) (Yd : Nat → V → Hp → Prop) (En : Hp → Prop) (st : Stmt) (t : TG2) : Prop where
  run : ∀ (c : Code) (fs : List Frame) (K : Flow → Sem PySem.Fin) (J : Value → Sem PySem.Fin) (gd : Bool → Bool) (lv : List Value → List Value) (m : Nat) (s₀ : Shared) (Hw : Hp) (s : Shared) (σ : L2.St) (H : Hp) (D : GE2),
    GC2 G c fs gd → GK2 G Yd En c fs K D → Inv (G.cx s₀ Hw) [] σ H s → t D m Hw σ H → S1 (model G.P G.w) G.A (Go G Yd En m s₀ Hw) c ((exec st G.env).wrap K J gd lv) fs s
structure GSs2 (G : Gn) (Yd : Nat → V → Hp → Prop) (En : Hp → Prop) (st : List Stmt) (t : TG2) : Prop where
  run : ∀ (c : Code) (fs : List Frame) (K : Flow → Sem PySem.Fin) (J : Value → Sem PySem.Fin) (gd : Bool → Bool) (lv : List Value → List Value) (m : Nat) (s₀ : Shared) (Hw : Hp) (s : Shared) (σ : L2.St) (H : Hp) (D : GE2),
    GC2 G c fs gd → GK2 G Yd En c fs K D → Inv (G.cx s₀ Hw) [] σ H s → t D m Hw σ H → S1 (model G.P G.w) G.A (Go G Yd En m s₀ Hw) c ((execs st G.env).wrap K J gd lv) fs s
section
variable {G : Gn} {Yd : Nat → V → Hp → Prop} {En : Hp → Prop} {st : Stmt} {rest : List Stmt}
def tPl (t : TS) : TG2 := fun D m Hw σ H => t (D.at m Hw) σ H
theorem gs2_ps {t : TS} (h : ∀ s₀ Hw, PS (G.cx s₀ Hw) st t) : GS2 G Yd En st (tPl t) := by
  refine ⟨fun c fs K J gd lv m s₀ Hw s σ H D g k I ht => ?_⟩
  refine s1_wrap ?_
  rw [g.over]
  exact wpAny_mono ((h s₀ Hw).run [] s σ H (D.at m Hw) I ht) (fun f s' hs => k m s₀ Hw s' f hs) fun x s' hx => hx.elim

def tTh (t u : TG2) : TG2 := fun D m Hw σ H => t { D with nx := fun m' Hw' σ' H' => u D m' Hw' σ' H' } m Hw σ H
theorem gss2_cons {t u : TG2} (a : GS2 G Yd En st t) (b : GSs2 G Yd En rest u) : GSs2 G Yd En (st :: rest) (tTh t u) := by
  refine ⟨fun c fs K J gd lv m s₀ Hw s σ H D g k I ht => ?_⟩
  refine s1_cons ?_
  refine a.run c fs _ J gd lv m s₀ Hw s σ H _ g (fun m' s₀' Hw' s' f hs => ?_) I ht
  cases f with
  | next =>
    obtain ⟨σ', H', I', q⟩ := hs
    exact b.run c fs K J gd lv m' s₀' Hw' s' σ' H' D g k I' q
  | brk => exact k m' s₀' Hw' s' .brk hs
  | cont => exact k m' s₀' Hw' s' .cont hs
  | ret u => exact k m' s₀' Hw' s' (.ret u) hs
def t0 : TG2 := fun D m Hw σ H => D.nx m Hw σ H
theorem gss2_nil : GSs2 G Yd En [] t0 := ⟨fun c fs K J gd lv m s₀ Hw s σ H D g k I ht => k m s₀ Hw s .next ⟨σ, H, I, ht⟩⟩
def tWh (tc : TT) (tb : TG2) : TG2 := fun D m Hw σ H => ∃ W : Nat → Nat → Hp → L2.St → Hp → Prop, (∃ j, W j m Hw σ H) ∧ ∀ j m Hw σ H, W j m Hw σ H →
  tc σ H fun b H1 => if b = true then ∃ Nx : Nat → Hp → L2.St → Hp → Prop, (∀ m' Hw' σ' H', Nx m' Hw' σ' H' → ∃ j', j' < j ∧ W j' m' Hw' σ' H') ∧ tb { D with nx := Nx, ct := Nx, bk := D.nx } m Hw σ H1 else D.nx m Hw σ H1
theorem gc2_loop {c c' : Code} {fs : List Frame} {gd : Bool → Bool} {k : Result → Sem PySem.Fin} {l kp : List Value} {p : Pos} (g : GC2 G c fs gd) (hw : c'.weight = 0) (hu : c'.cUnits = 0) : GC2 G c' (.ret k none (gd false) l c p kp :: fs) id where
  over := (GenW.over_loop hw hu).trans g.over
  split := by
    show (splitAtGen fs).map _ = none
    rw [g.split]; rfl
  guard := by
    show (gd false || fs.any Frame.guarded) = false
    rw [g.gd, g.guard]; rfl
  gd := rfl
theorem gs2_while {test : Expr} {body : List Stmt} {pos : Pos} {tc : TT} {tb : TG2} (hc : ∀ s₀ Hw, PT (G.cx s₀ Hw) test tc) (hb : GSs2 G Yd En body tb) : GS2 G Yd En (.While test body [] pos) (tWh tc tb) := by
  refine ⟨fun c fs K J gd lv m s₀ Hw s σ H D g k I ht => ?_⟩
  obtain ⟨W, ⟨j0, w0⟩, turn⟩ := ht
  refine s1_at (s1_call fun p => ?_)
  have gl := fun (kk : Result → Sem PySem.Fin) => gc2_loop (k := kk) (c' := .whileLoop test body [] G.env) (l := lv []) (kp := []) (p := p) g rfl rfl
  have loop : ∀ (j m : Nat) (s₀ : Shared) (Hw : Hp) (s : Shared) (σ : L2.St) (H : Hp), W j m Hw σ H → Inv (G.cx s₀ Hw) [] σ H s →
      S1 (model G.P G.w) G.A (Go G Yd En m s₀ Hw) (.whileLoop test body [] G.env) ((model G.P G.w).den (.whileLoop test body [] G.env))
        (.ret (fun r => ((match r with | .ok f => (.pure f : Sem Flow) | .error e => .raise e).onRaise (cameBack G.env)).wrap K J gd lv) none (gd false) (lv []) c p [] :: fs) s := by
    intro j
    induction j using Nat.strongRecOn with
    | ind j ih =>
      intro m s₀ Hw s σ H w I
      refine s1_loop ?_
      rw [(gl _).over]
      refine wpAny_mono ((hc s₀ Hw).run [] s σ H _ I (turn j m Hw σ H w)) (fun b s' hb' => ?_) fun x s' hx => hx.elim
      obtain ⟨H2, I2, q2⟩ := hb'
      cases b with
      | true =>
        obtain ⟨Nx, hN, q2⟩ := q2
        rw [if_pos rfl]
        refine hb.run _ _ _ _ id id m s₀ Hw s' σ H2 _ (gl _) (fun m' s₀' Hw' s3 f hs => ?_) I2 q2
        cases f with
        | next =>
          obtain ⟨σ3, H3, I3, n3⟩ := hs
          obtain ⟨j', hj, w3⟩ := hN m' Hw' σ3 H3 n3
          exact s1_again rfl (ih j' hj m' s₀' Hw' s3 σ3 H3 w3 I3)
        | cont =>
          obtain ⟨σ3, H3, I3, n3⟩ := hs
          obtain ⟨j', hj, w3⟩ := hN m' Hw' σ3 H3 n3
          exact s1_again rfl (ih j' hj m' s₀' Hw' s3 σ3 H3 w3 I3)
        | brk => exact s1_leaf (.ok .next) (k m' s₀' Hw' s3 .next hs)
        | ret v => exact s1_leaf (.ok (.ret v)) (k m' s₀' Hw' s3 (.ret v) hs)
      | false =>
        rw [if_neg Bool.false_ne_true]
        exact s1_leaf (.ok .next) (k m s₀ Hw s' .next ⟨σ, H2, I2, q2⟩)
  exact loop j0 m s₀ Hw s σ H w0 I
def tYl (Yd : Nat → V → Hp → Prop) (te : TE) : TG2 := fun D m Hw σ H => te σ H fun x H1 => Same Hw H1 ∧ ∃ m', m = m' + 1 ∧ Yd m' x H1 ∧ ∀ H2, Same H1 H2 → D.nx m' H2 σ H2
theorem gs2_yield {e : Expr} {yp pos : Pos} {te : TE} (go : G.Ok) (he : ∀ s₀ Hw, PE (G.cx s₀ Hw) e te) (hco : G.env.scope.isCoroutine = false) (hi : interactive G.env = false) : GS2 G Yd En (.Expr (.Yield (some e) yp) pos) (tYl Yd te) := by
  refine ⟨fun c fs K J gd lv m s₀ Hw s σ H D g k I ht => ?_⟩
  rw [exec_Expr G.env _ pos hi rfl]
  show S1 _ _ _ _ (.at pos fun _ => ((eval e G.env >>= fun v => (standAt yp >>= fun _ => yieldOut G.env v)) >>= fun x => dropValue (.Yield (some e) yp) pos x).wrap K J gd lv) _ _
  have hy : ∀ v, yieldOut G.env v = yieldValue v := fun v => by simp only [yieldOut, hco, Bool.false_eq_true, if_false]
  simp only [hy]
  refine s1_at ?_
  rw [Sem.bind_eq_wrap', Sem.bind_eq_wrap', Sem.wrap_wrap, Sem.wrap_wrap]
  refine s1_wrap ?_
  rw [g.over]
  refine wpAny_mono ((he s₀ Hw).run [] s σ H _ I ht) (fun v s' hv => ?_) fun x s' hx => hx.elim
  obtain ⟨x, H1, I1, rv, sm, m', rfl, yd, q⟩ := hv
  refine s1_at (s1_yield g.split fun p => ?_)
  refine ⟨v, _, _, _, c, p, fs, rfl, ?_, x, σ, H1, rv, I1, sm, yd, fun s'' H'' wk => ?_⟩
  · show (!(gd false || fs.any Frame.guarded)) = true
    rw [g.gd, g.guard]
    rfl
  · exact k m' s'' H'' s'' .next ⟨σ, H'', woken go I1 wk, q H'' wk.same⟩
end
end GenZ
/-! a generator that is walked while its walker makes objects: its call, next -/
namespace GenZ
open PySem PySem.Spec PyProof.Rows L2
open Sem (wp)
/-- it may be woken now -/
def Ready (M : Model) (A : Around) (Φ : End → Shared → Prop) (s : Shared) : GenState → Prop
  | .fresh c => S1 M A Φ c (M.den c) [] s
  | .suspended k _ c _ fs _ => S1 M A Φ c (k (.send .none)) fs s
  | _ => False
theorem wpAny_wake {M : Model} {A : Around} {Φ : End → Shared → Prop} {E : Value → Shared → Prop} {s : Shared} {g : Nat} {gs : GenState} {l : List Value} {α : Type} {k : GenResult → Sem α} {Q : α → Shared → Prop} (hg : s.gens[g]? = some gs)
    (hr : Ready M A Φ (s.setGen g .running) gs) (hq : ∀ e s₁, Φ e s₁ → e.quiet = true ∧ wpAny M A (k e.result) Q E (s₁.setGen g e.genState)) : wpAny M A (.resume g (.send .none) l k) Q E s := by
  intro Γ p hΓ
  rw [Sem.wp_resume]
  cases gs with
  | fresh c =>
    obtain ⟨e, s₁, h1, h2⟩ := hr (Γ.wake c p) p rfl (hΓ.wake c p)
    obtain ⟨q1, q2⟩ := hq e s₁ h2
    exact ⟨e.result, s₁.setGen g e.genState, by unfold Wakes; rw [hg]; exact ⟨e, s₁, h1, q1, rfl, rfl⟩, q2 Γ p hΓ⟩
  | suspended k₀ l₀ c₀ p₀ fs₀ cl =>
    obtain ⟨e, s₁, h1, h2⟩ := hr (Γ.wake c₀ p) p₀ rfl (hΓ.wake c₀ p)
    obtain ⟨q1, q2⟩ := hq e s₁ h2
    exact ⟨e.result, s₁.setGen g e.genState, by unfold Wakes; rw [hg]; exact ⟨e, s₁, h1, q1, rfl, rfl⟩, q2 Γ p hΓ⟩
  | running => exact hr.elim
  | finished => exact hr.elim
/-- next of a generator that raises nothing -/
theorem next1 {P : Program} {w : World} {A : Around} {E : Value → Shared → Prop} {s : Shared} {a : Addr} {g : Nat} {gs : GenState} {Φ : End → Shared → Prop} {Q : Option Value → Shared → Prop} (hh : A.handled = none) (hl : s.heap.NoLimit) (hroom : A.depth < recursionLimit)
    (hg : s.heap.IsGen a g) (hgs : s.gens[g]? = some gs) (hr : Ready (model P w) A.in1 Φ (s.setGen g .running) gs)
    (hY : ∀ v gg l k c p fs s₁, Φ (.susp v gg l k c p fs) s₁ → (End.susp v gg l k c p fs).quiet = true ∧ Q (some v) (s₁.setGen g (End.susp v gg l k c p fs).genState))
    (hR : ∀ r s₁, Φ (.ret r) s₁ → (r = .ok (.ret .none) ∨ r = .ok .next) ∧ ∀ h', (∀ b o, s₁.heap.get? b = some o → h'.get? b = some o) → Q none { s₁.setGen g .finished with heap := h' }) :
    wpAny (model P w) A (pyNext (.ref a)) Q E s := by
  unfold pyNext
  refine wpAny_bind (wpAny_attempt (wpAny_callSpecial?_slot (name := Str.ofString "__next__") hg.typeIs slot_gen_next (wpAny_call_entry slot_gen_next hg.typeIs entry_gen_next ?_ (args_gen_next _))))
  show wpAny _ A.in1 (Builtin.Generator.genWake (.ref a) (.send .none)) _ _ s; unfold Builtin.Generator.genWake
  refine wpAny_bind (wpAny_holding (wpAny_genNumber hg (wpAny_bind (wpAny_genState hgs ?_)))); have hr0 := hr
  cases gs with
  | running => exact hr.elim
  | finished => exact hr.elim
  | _ =>
    refine wpAny_bind (wpAny_roomToWake hl hroom ?_); show wpAny _ A.in1 (.resume g (.send .none) [] _) _ _ s
    refine wpAny_wake hgs hr0 fun e s₁ he => ?_
    cases e with
    | susp v gg l k c p fs =>
      obtain ⟨q1, q2⟩ := hY v gg l k c p fs s₁ he
      exact ⟨q1, wpAny_pure ⟨v, rfl, wpAny_pure q2⟩⟩
    | ret r =>
      refine ⟨rfl, ?_⟩
      obtain ⟨hx, hp⟩ := hR r s₁ he
      have hres : End.result (.ret r) = .returned .none := by rcases hx with z | z <;> rw [z] <;> rfl
      first | rw [hres] | simp only [hres]
      show wpAny _ A.in1 (newExc (.type "StopIteration") [] >>= _) _ _ _; refine wpAny_bind ?_
      simp only [newExc, newTuple]; refine wpAny_bind (wpAny_newObj_type ?_ (by size_fits))
      refine wpAny_bind (m := firstArgMember _ _) (wpAny_of_eq (a := Value.none) (by first | rfl | (simp only [firstArgMember]; rfl)) ?_); refine wpAny_newObj_type ?_ (by size_fits)
      simp only [raiseNew]; refine wpAny_bind (wpAny_bind (wpAny_handled ?_))
      first | rw [show A.in1.handled = none from hh] | rw [hh]
      refine wpAny_throw ?_
      refine wpAny_bind (wpAny_isInstance (T := "StopIteration") (b := true) ⟨_, Heap.get?_push_size _ rfl, rfl⟩ isSubtype_stop ?_); exact wpAny_pure (hp _ fun b o hb => Heap.get?_push_of_some _ (Heap.get?_push_of_some _ hb))
/-! the call -/
structure Nm where
  N : List Str
  qual : Str
  scope : Scope
  f : Addr
  cd : Value
def gnOf (P : Program) (w : World) (K : PySem.W.Frag) (mg : Str → Option Value) (base : Heap) (outer : List Env) (n0 : Nat) (q : Nm) (pn : List (Addr × Obj)) (A : Around) : Gn :=
  { P := P, w := w, K := K, mg := mg, base := base, N := q.N, qual := q.qual, scope := q.scope, f := q.f, cd := q.cd, A := A, outer := outer, n0 := n0, pn := pn }
/-- what a call gives -/
structure Made (P : Program) (w : World) (K : PySem.W.Frag) (mg : Str → Option Value) (base : Heap) (k : Nat) (outer : List Env) (H : Hp) (s : Shared) (m : Nat) (Yd : Nat → V → Hp → Prop) (En : Hp → Prop) (q : Nm) (a : Addr) (g : Nat) (c : Code) (ob : Obj) (s' : Shared) : Prop where
  young : s.heap.objs.size < a
  at_ : s'.heap.get? a = some ob
  gen : ∀ h : Heap, h.get? a = some ob → h.IsGen a g
  nocell : ∀ v, ob.data ≠ .cell v
  fresh : s'.gens[g]? = some (.fresh c)
  os : s'.os = s.os
  bare : AllBare s'.gens
  keep : ∀ b o, s.heap.get? b = some o → s'.heap.get? b = some o
  ok : ∀ A, (gnOf P w K mg base outer s.heap.objs.size q [(a, ob)] A).Ok
  nocells : ∀ x, (cellsFrom (s.heap.objs.size + 1) q.scope.names []).lookup x = none
  none_ : H a = none
  start : ∀ A s2 H2, Room k A → A.frames = some outer → Wake (gnOf P w K mg base outer s.heap.objs.size q [(a, ob)] A) s' H s2 H2 → S1 (model P w) A (Go (gnOf P w K mg base outer s.heap.objs.size q [(a, ob)] A) Yd En m s2 H2) c ((model P w).den c) [] s2
abbrev SpG2 := List V → Hp → Nat → (Nat → V → Hp → Prop) → (Hp → Prop) → Prop
structure GFn2 (P : Program) (w : World) (K : PySem.W.Frag) (mg : Str → Option Value) (base : Heap) (k : Nat) (f : Addr) (fd : FuncData) (ps : List Str) (sp : SpG2) : Prop where
  len : ∀ vs H m Yd En, sp vs H m Yd En → vs.length = ps.length
  run : ∀ (A : Around) (outer : List Env) (s : Shared) (H : Hp) (args : Args) (us : List Value) (vs : List V) (m : Nat) (Yd : Nat → V → Hp → Prop) (En : Hp → Prop), Room k A → Env0 P w K mg base A outer s H → BindsTo s fd args (ps.zip us) → Vals vs us → sp vs H m Yd En →
    codeAny (model P w) A (.call (.ref f) args) (fun r s' => ∃ q a g c ob, r = .ok (.ret (.ref a)) ∧ Made P w K mg base k outer H s m Yd En q a g c ob s') s
theorem cut_self {h : Heap} : cut h.objs.size h = h := by
  unfold cut
  rw [Array.extract_size]
theorem gfn2_of {P : Program} {w : World} {K : PySem.W.Frag} {mg : Str → Option Value} {base : Heap} {k : Nat} {f : Addr} {name qual : Str} {params : Arguments} {body : List Stmt} {scope : Scope} {dV kV doc pm cdv ct oc : Value} {an od : Option Addr}
    {osl : Array (Option Value)} {N ps : List Str} {sp : SpG2} (lk : K.lookup f = some ⟨oc, od, .func (PySem.W.fnOf name qual params body scope dV kV doc pm an cdv ct), osl⟩) (hcd : PySem.W.codeIn K cdv qual = true) (S : GScope N ps scope)
    (hcl : ∀ n x, (cellsFrom n scope.names []).lookup x = none)
    (len : ∀ vs H m Yd En, sp vs H m Yd En → vs.length = ps.length)
    (hbody : ∀ (G : Gn) (vs : List V) (H : Hp) (m : Nat) (Yd : Nat → V → Hp → Prop) (En : Hp → Prop), G.P = P → G.w = w → G.K = K → G.mg = mg → G.base = base → G.N = N → G.qual = qual → G.scope = scope → G.f = f → G.cd = cdv → G.Ok → Room k (G.A.deeper G.env) → sp vs H m Yd En →
      ∃ t, GSs2 G Yd En body t ∧ ∀ H2, Same H H2 → t { nx := fun m Hw _ H' => m = 0 ∧ Same Hw H' ∧ En H', rt := fun m Hw v H' => v = .non ∧ m = 0 ∧ Same Hw H' ∧ En H' } m H2 (start N vs) H2) :
    GFn2 P w K mg base (k + 1) f (PySem.W.fnOf name qual params body scope dV kV doc pm an cdv ct) ps sp := by
  refine ⟨len, fun A outer s H args us vs m Yd En hr e0 hb r hsp => ?_⟩
  have hl := len _ _ _ _ _ hsp
  have KX : K.In s.heap := e0.mod.kin.keeps fun b o e => (e0.bs b o e).1; have lim : s.heap.NoLimit := e0.mod.nolimit.keeps fun b o e => (e0.bs b o e).1
  have hkind : ∀ y ∈ ps.zip us, scope.names.lookup y.1 = some .local ∨ (scope.names.lookup y.1 = some .cell ∧ ((cellsFrom (s.heap.objs.size + 1) scope.names []).lookup y.1).isSome = true) := fun ⟨n, v⟩ hy => (S.par n (List.of_mem_zip hy).1).imp id fun q => ⟨q, PySem.W.cellsFrom_some _ _ _ (.inl q)⟩
  refine codeAny_call_generator hr.depth (KX _ _ lk) rfl S.co S.gen rfl (PySem.W.codeRec_of KX hcd) (hb _ _ _ _ ?_); refine wpAny_newFunctionEnv_cells S.kind hkind fun env he s1 x => ?_
  subst he
  have lim1 : s1.heap.NoLimit := lim.keeps x.toInCall.keep
  refine ⟨lim1, ?_⟩
  obtain ⟨h1, tk, es1, hk1⟩ := x.done
  have lt1 : s.heap.objs.size < s1.heap.objs.size := x.toInCall.ns.lt; have kp1 := x.toInCall.keep
  generalize hgo : ({ cls := .type "generator", data := _ } : Obj) = go
  have hgc : go.cls = .type "generator" := by rw [← hgo]
  have hgd : ∀ v, go.data ≠ .cell v := by rw [← hgo]; intro v z; cases z
  have hpu : ∀ h : Heap, (h.push go).get? h.objs.size = some go := by rw [← hgo]; exact fun h => Heap.get?_push_size _ rfl
  have hgen : ∀ h : Heap, h.get? s1.heap.objs.size = some go → h.IsGen s1.heap.objs.size s1.gens.size := by rw [← hgo]; exact fun h e => ⟨_, _, _, e, rfl, rfl, rfl⟩
  clear hgo
  have Gok : ∀ Aw, (gnOf P w K mg base outer s.heap.objs.size ⟨N, qual, scope, f, cdv⟩ [(s1.heap.objs.size, go)] Aw).Ok := fun Aw => ⟨e0.bsz, fun b hb => by
    obtain ⟨_, o, ho, _⟩ := e0.funs.mem hb
    exact Heap.lt_size ho, fun y c e => by
    have z : (cellsFrom (s.heap.objs.size + 1) scope.names []).lookup y = some c := e
    rw [hcl] at z
    cases z⟩
  refine ⟨⟨N, qual, scope, f, cdv⟩, s1.heap.objs.size, s1.gens.size, _, go, rfl, ⟨lt1, hpu _, hgen, hgd, Array.getElem?_push_size .., by rw [es1], ?_, fun b o e => Heap.get?_push_of_some _ (kp1 b o e), Gok, fun y => hcl _ y, ?_, fun Aw s2 H2 hrw hfr wk => ?_⟩⟩
  · exact AllBare.push (by rw [es1]; exact e0.bare) rfl
  · exact e0.hok.fresh (Nat.le_of_lt lt1)
  have e0w : Env0 P w K mg base Aw outer s H := ⟨hfr, e0.mod, e0.bs, e0.bsz, e0.funs, e0.frf, e0.hok, e0.bare⟩
  have I1 : Inv (gcxOf P w K mg base N qual scope f cdv Aw outer s H E0 []) [] (start N vs) H s1 := inv_startG S hrw.hd e0w hl r x
  generalize hs' : ({ s1 with gens := _, toks := _, heap := _ } : Shared) = s' at wk
  have ks' : ∀ b o, s1.heap.get? b = some o → s'.heap.get? b = some o := by rw [← hs']; exact fun b o e => Heap.get?_push_of_some _ e
  have os' : s'.os = s1.os := by rw [← hs']
  have at' : s'.heap.get? s1.heap.objs.size = some go := by rw [← hs']; exact hpu _
  have ba' : AllBare s'.gens := by rw [← hs']; exact AllBare.push (by rw [es1]; exact e0.bare) rfl
  have I2 : Inv (gcxOf P w K mg base N qual scope f cdv Aw outer s H E0 []) [] (start N vs) H s' := I1.call' (ch := []) os' (Un.kept ks') (I1.hok.kept ks') ba' fun b z => by simp at z
  clear hs'
  have I3 : Inv ((gnOf P w K mg base outer s.heap.objs.size ⟨N, qual, scope, f, cdv⟩ [(s1.heap.objs.size, go)] Aw).cx s H) [] (start N vs) H s' := by
    have ec : ({ s with heap := cut s.heap.objs.size s.heap } : Shared) = s := by rw [cut_self]
    have ex : (gnOf P w K mg base outer s.heap.objs.size ⟨N, qual, scope, f, cdv⟩ [(s1.heap.objs.size, go)] Aw).cx s H = { gcxOf P w K mg base N qual scope f cdv Aw outer s H E0 [] with pn := [(s1.heap.objs.size, go)], xe := fun _ _ => False } := by
      show ({ prog := P, w := w, K := K, mg := mg, base := base, A := _, N := N, s_0 := ({ s with heap := cut s.heap.objs.size s.heap } : Shared), H_0 := H, env := _, outer := outer, stack := _, ex := [], calm := true, fn := fun _ => true, pn := _, xe := fun _ _ => False } : Cx) = _
      rw [ec]
      rfl
    rw [ex]
    refine ⟨⟨I2.ok.mod, I2.ok.kind, I2.ok.glob, I2.ok.blt, I2.ok.above, I2.ok.inj, I2.ok.has, I2.ok.cab, I2.ok.hd, I2.ok.frames, I2.ok.stk, I2.ok.exf, I2.ok.bs, I2.ok.bsz, I2.ok.noex, I2.ok.exfs, I2.ok.funs, I2.ok.frf⟩, I2.os, I2.bare, I2.base, I2.loc, I2.cell, I2.free, I2.freeC, fun p hp => ?_, I2.hok, I2.len⟩
    have hp' : p ∈ [(s1.heap.objs.size, go)] := by simpa using hp
    rw [List.mem_singleton.mp hp']
    exact ⟨at', I1.hok.fresh (Nat.le_refl _), Nat.ne_of_gt lt1, I1.nofs (Nat.le_refl _), hgd⟩
  have I4 := woken (Gok Aw) I3 wk
  obtain ⟨t, ht, hq⟩ := hbody (gnOf P w K mg base outer s.heap.objs.size ⟨N, qual, scope, f, cdv⟩ [(s1.heap.objs.size, go)] Aw) vs H m Yd En rfl rfl rfl rfl rfl rfl rfl rfl rfl rfl (Gok Aw) (hrw.deeper _) hsp
  refine s1_func ?_
  refine ht.run _ [] _ _ id id m s2 H2 s2 (start N vs) H2 _ ⟨GenW.over_func, rfl, rfl, rfl⟩ (fun m' s₀ Hw s3 fl hs => ?_) I4 (hq H2 wk.same)
  cases fl with
  | next =>
    obtain ⟨σ', H', I', rfl, sm, en⟩ := hs
    exact s1_end (.ok (.ret .none)) ⟨.inl rfl, σ', H', I', sm, en⟩
  | brk => obtain ⟨_, _, _, z⟩ := hs; exact z.elim
  | cont => obtain ⟨_, _, _, z⟩ := hs; exact z.elim
  | ret u =>
    obtain ⟨v, σ', H', I', rv, ev, rfl, sm, en⟩ := hs
    subst ev
    have eu : u = Value.none := rv
    subst eu
    exact s1_end (.ok (.ret .none)) ⟨.inl rfl, σ', H', I', sm, en⟩
end GenZ
/-! for x in f(..), f a generator def, where the body makes objects alone -/
namespace GenZ
open PySem PySem.Spec PyProof.Rows L2
open Sem (wp)
theorem inv_sw {X : Cx} {pins : List (Addr × Obj)} {σ : L2.St} {H : Hp} {s : Shared} (I : Inv X pins σ H s) {G : Array GenState} (b : AllBare G) : Inv X pins σ H (sw s G) :=
  ⟨I.ok, I.os, b, I.base, I.loc, I.cell, I.free, I.freeC, I.pin, I.hok, I.len⟩
theorem inv_kept {X : Cx} {pins : List (Addr × Obj)} {σ : L2.St} {H : Hp} {s s1 s' : Shared} (I : Inv X pins σ H s1) (k : Kept s s1 s') (b : AllBare s.gens) : Inv X pins σ H s' := by
  rw [k.same]
  exact inv_sw I (k.bare b I.bare)
/-- behind a stretch of the generator its walker stands as before -/
theorem back {X : Cx} {pins : List (Addr × Obj)} {σ σg : L2.St} {H H1 : Hp} {s s0 s₁ : Shared} {G : Gn} (I : Inv X pins σ H s) (Ig : Inv (G.cx s0 H) [] σg H1 s₁) (hP : G.P = X.prog) (hw : G.w = X.w) (ho : G.outer = X.stack) (h0 : s0.heap = s.heap) (h0o : s0.os = s.os)
    (hL : X.env.locals < G.n0) (hc : ∀ x c, X.env.cells.lookup x = some c → c < G.n0) (hp : ∀ p ∈ X.pn ++ pins, p.1 < G.n0) (hz : X.s_0.heap.objs.size ≤ G.n0) : Inv X pins σ H1 s₁ := by
  obtain ⟨hh, gg, dd, tt, oo⟩ := s₁
  have eo : oo = s.os := (show oo = s0.os from Ig.os).trans h0o
  subst eo
  generalize hch : (List.range s.heap.objs.size).filter (fun b => decide (G.n0 ≤ b)) = ch
  have inch : ∀ b, b ∈ ch → G.n0 ≤ b := fun b hb => by
    rw [← hch] at hb
    exact of_decide_eq_true (List.mem_filter.mp hb).2
  have low : ∀ b o, b ∉ ch → s.heap.get? b = some o → (G.cx s0 H).s_0.heap.get? b = some o := fun b o hb e => by
    have l : b < G.n0 := by
      refine Nat.lt_of_not_le fun z => hb ?_
      rw [← hch]
      exact List.mem_filter.mpr ⟨List.mem_range.mpr (Heap.lt_size e), decide_eq_true z⟩
    show (cut G.n0 s0.heap).get? b = some o
    rw [cut_get l, h0]
    exact e
  have Lch : X.env.locals ∉ ch := fun z => Nat.lt_irrefl _ (Nat.lt_of_lt_of_le hL (inch _ z))
  have nx : ∀ b : Addr, b ∉ (G.cx s0 H).ex := fun b z => absurd (show b ∈ ([] : List Addr) from z) (by simp)
  have un := Ig.base
  have fs : (G.cx s0 H).fs = frs X.stack := by
    show frs G.outer = _
    rw [ho]
  refine I.step (ch := ch) (g' := gg) (t' := tt) (d' := dd) (fun b hb => ⟨.inr (Nat.le_trans hz (inch b hb)), fun z => Lch (z ▸ hb), fun x c e z => ?_, fun p hp' z => ?_⟩) (fun b o nL nf nc e n => ?_) (fun b o nL inf nc e n => ?_) (fun b o nc e n => ?_) (fun b o nc e => ?_) un.tups un.frzs un.tbls (fun m hm => ?_) ?_ Ig.bare
  · have z1 := hc x c e
    rw [z] at z1
    exact Nat.lt_irrefl _ (Nat.lt_of_lt_of_le z1 (inch b hb))
  · have z1 := hp p hp'
    rw [z] at z1
    exact Nat.lt_irrefl _ (Nat.lt_of_lt_of_le z1 (inch b hb))
  · refine un.keep b o (low b o nc e) n (fun z => ?_) (nx b)
    rw [fs] at z
    rcases List.mem_cons.mp (I.stkSub b z) with q | q
    · exact nL q
    · exact nf q
  · refine un.slot b o (low b o nc e) n ?_ (nx b)
    rw [fs]
    rcases I.ok.stk with z | ⟨z, hf⟩
    · rw [z]; exact inf
    · rw [z]
      unfold frs
      rw [List.filterMap_cons, hf]
      exact List.mem_cons_of_mem _ inf
  · exact un.free b o (low b o nc e) n (nx b)
  · exact un.there b o (low b o nc e) (nx b)
  · obtain ⟨o, es, ep, ho', r⟩ := hm
    obtain ⟨sl, e1⟩ := un.any (low _ o Lch ho') I.free (nx _)
    exact ⟨_, es, ep, e1, r⟩
  · have z : HOk G.P G.w H1 hh := Ig.hok
    rw [hP, hw] at z
    exact z
structure GCal (P : Program) (w : World) (K : PySem.W.Frag) (mg : Str → Option Value) (base : Heap) (k : Nat) (x : Str) (ps : List Str) (sp : SpG2) : Prop where
  ex : ∃ f fd, GFn2 P w K mg base k f fd ps sp ∧ mg x = some (.ref f) ∧ PySem.W.keepIn K (.ref f) = true ∧ Binds K fd ps []
def tForG (sp : SpG2) (t : TA) (g : TG) (tb : TS) : TS := fun D σ H => t σ H fun vs H1 => ∃ m Yd En, sp vs H1 m Yd En ∧ ∃ W : Nat → L2.St → Hp → Prop, W m σ H1 ∧
  (∀ j σ H2 x H3, W (j + 1) σ H2 → Same H2 H3 → Yd j x H3 → g x σ H3 fun σ' H4 => tb { nx := fun σ5 H5 => Same H3 H5 ∧ W j σ5 H5, ct := fun σ5 H5 => Same H3 H5 ∧ W j σ5 H5, bk := D.nx, rt := D.rt } σ' H4) ∧
  (∀ σ H2 H3, W 0 σ H2 → Same H2 H3 → En H3 → D.nx σ H3)
section
variable {X : Cx} {k : Nat} {x : Str} {ps : List Str} {sp : SpG2} {p pos pos' : Pos} {e tg : Expr} {es : List Expr} {body : List Stmt} {t : TA} {g : TG} {tb : TS}
theorem ps_forG (hX : X.xe = fun _ _ => False) (c : GCal X.prog X.w X.K X.mg X.base k x ps sp) (hr : Room (k + 1) X.A) (ha : PA X (e :: es) t) (hg : PG X tg g) (hb : PSs X body tb) (gl : Gl X x := by rfl) (hdb : (x == ("__debug__" : Str)) = false := by decide)
    (he : starEach (e :: es) X.env = (false, eval e X.env) :: starEach es X.env := by rfl) (hpl : (backTo pos' (starEach es X.env)).any (·.1) = false := by rfl) (hs : ∀ v, foldedSetIterable (.Call (.Name x p) (e :: es) [] pos') X.env v = pure v := by intro _; rfl) (ht : ∀ it v, letOwnedTupleGo tg it v = pure () := by intro _ _; rfl) :
    PS X (.For tg (.Call (.Name x p) (e :: es) [] pos') body [] pos) (tForG sp t g tb) := by
  obtain ⟨f, fd, F, hm, kp, hbd⟩ := c.ex
  have hp : PassesOwn (model X.prog X.w) X.A X.env X.xe := by rw [hX]; exact PassesOwn.never
  have noX : ∀ v s, ¬ X.xe v s := fun v s => by rw [hX]; exact id
  refine ⟨fun pins s σ H D I h => ?_⟩
  refine wpAny_For (wpAny_Call_Name_kw (ld_glob I gl hm ?_ hdb)) hs
  refine PySem.W.callWith_K (h₀ := X.base) I.ok.mod.kin kp (thn (ha.run pos' pins s σ H _ I h) ?_) he hpl
  rintro us s1 ⟨vs, H1, I1, r, m, Yd, En, hsp, W, w0, turn, fin⟩
  refine ⟨I1.kIn, ?_⟩
  have hl : us.length = ps.length := by rw [← r.length]; exact F.len _ _ _ _ _ hsp
  have bt : BindsTo s1 fd ⟨us, []⟩ (ps.zip us) := by simpa using hbd s1 us I1.kIn (by simpa using hl)
  refine wpAny_call (codeAny_mono (F.run X.A X.stack s1 H1 ⟨us, []⟩ us vs m Yd En (hr.mono (Nat.le_succ k)) I1.env0 bt r hsp) fun res s' z => ?_)
  obtain ⟨q, a, gi, cc, ob, rfl, md⟩ := z
  have hL : X.env.locals < s1.heap.objs.size := I1.lt
  have hcl : ∀ x c, X.env.cells.lookup x = some c → c < s1.heap.objs.size := fun x c e => by
    obtain ⟨v, o, ho, _⟩ := I1.cell x c e
    exact Heap.lt_size ho
  have hpi : ∀ p ∈ X.pn ++ pins, p.1 < s1.heap.objs.size := fun p hp => Heap.lt_size (I1.pin p hp).1
  have hz := I1.sz
  have hLn : H1 s1.heap.objs.size = none := I1.hok.fresh (Nat.le_refl _)
  have nfs : ∀ b, s1.heap.objs.size ≤ b → b ∉ X.fs := fun b hb => I1.nofs hb
  have I2 : Inv X pins σ H1 s' := I1.call' (ch := []) md.os (Un.kept md.keep) (I1.hok.kept md.keep) md.bare fun b z => by simp at z
  have frA : X.A.in1.frames = some X.stack := I1.ok.frames
  generalize hG : gnOf X.prog X.w X.K X.mg X.base X.stack s1.heap.objs.size q [(a, ob)] X.A.in1 = G
  have gP : G.P = X.prog := by rw [← hG]; rfl
  have gw : G.w = X.w := by rw [← hG]; rfl
  have gA : G.A = X.A.in1 := by rw [← hG]; rfl
  have go : G.outer = X.stack := by rw [← hG]; rfl
  have gn : G.n0 = s1.heap.objs.size := by rw [← hG]; rfl
  have gpn : G.pn = [(a, ob)] := by rw [← hG]; rfl
  have gown : ∀ b, G.own b → b = s1.heap.objs.size ∨ b = a := fun b h => by
    rw [← hG] at h
    rcases h with h | ⟨y, h⟩ | ⟨o, h⟩
    · exact .inl h
    · have z : (cellsFrom (s1.heap.objs.size + 1) q.scope.names []).lookup y = some b := h
      rw [md.nocells] at z
      cases z
    · have z : (b, o) ∈ [(a, ob)] := h
      have z2 : (b, o) = (a, ob) := List.mem_singleton.mp z
      cases z2
      exact .inr rfl
  have ge0 : ∀ {σ' : L2.St} {H' : Hp} {pins' : List (Addr × Obj)} {s2 : Shared} {x : GenState}, Inv X pins' σ' H' s2 → x.bare = true → Env0 G.P G.w G.K G.mg G.base G.A G.outer (s2.setGen gi x) H' := fun {σ' H' pins' s2 x} I hx => by
    rw [← hG]
    have z := I.env0
    exact ⟨frA, z.mod, z.bs, z.bsz, z.funs, z.frf, z.hok, allBare_setGen z.bare hx⟩
  have start : S1 (model X.prog X.w) X.A.in1 (Go G Yd En m (s'.setGen gi .running) H1) cc ((model X.prog X.w).den cc) [] (s'.setGen gi .running) := by
    rw [← hG]
    refine md.start X.A.in1 _ H1 hr.in1 frA ⟨rfl, Same.refl _, ?_, fun b o ob' e => ⟨e, ?_⟩⟩
    · rw [hG]; exact ge0 I2 rfl
    · rcases gown b (by rw [← hG]; exact ob') with z | z
      · rw [z]; exact hLn
      · rw [z]; exact md.none_
  have aL : s1.heap.objs.size < a := md.young
  show wpAny _ _ (pyIter (.ref a)) _ _ s'
  refine wpAny_pyIter_gen (md.gen _ md.at_) ?_
  refine codeAny_forLoop (fun j s3 => ∃ σ3 H3 gs, Inv X pins σ3 H3 s3 ∧ W j σ3 H3 ∧ s3.gens[gi]? = some gs ∧ Ready (model X.prog X.w) X.A.in1 (Go G Yd En j (s3.setGen gi .running) H3) (s3.setGen gi .running) gs ∧ s3.heap.get? a = some ob ∧ H3 a = none) ?_ m ⟨σ, H1, .fresh cc, I2, w0, md.fresh, start, md.at_, md.none_⟩ (ht _)
  rintro j s3 ⟨σ3, H3, gs, I3, w3, hgs, rdy, ha3, hn3⟩
  have hgl : gi + 1 ≤ s3.gens.size := (Array.getElem?_eq_some_iff.mp hgs).1
  refine wpAny_passesOwn hp (GenW.wpAny_gsz hgl (next1 (hr.hd) I3.nolimit (by have := hr.dp; omega) (md.gen _ ha3) hgs rdy (fun v gg l k c p fs s₁ hgo => ?_) (fun r s₁ hgo => ?_)))
  · cases j with
    | zero =>
      obtain ⟨z, _⟩ := hgo
      rcases z with z | z <;> cases z
    | succ j' =>
      obtain ⟨v', g', l', k', c', p', fs', ee, hq, x, σg, H4, rv, Ig, sm, yd, kap⟩ := hgo
      cases ee
      refine ⟨hq, fun hsz => ?_⟩
      have hsz1 : gi < s₁.gens.size := by
        rw [GenW.setGen_size] at hsz
        exact hsz
      have I4 : Inv X pins σ3 H4 s₁ := back I3 Ig gP gw go rfl rfl (by rw [gn]; exact hL) (by rw [gn]; exact hcl) (by rw [gn]; exact hpi) (by rw [gn]; exact hz)
      obtain ⟨mL, ⟨oL, esL, epL, hoL, hdL, _⟩, _⟩ := Ig.loc
      have eL : (G.cx (s3.setGen gi .running) H3).env.locals = s1.heap.objs.size := by
        show G.n0 = _
        exact gn
      rw [eL] at hoL
      have hnL : H4 s1.heap.objs.size = none := by
        have z := Ig.free
        rw [eL] at z
        exact z
      have pA : s₁.heap.get? a = some ob ∧ H4 a = none := by
        have z := Ig.pin (a, ob) (List.mem_append_left _ (by show (a, ob) ∈ G.pn; rw [gpn]; exact List.mem_singleton.mpr rfl))
        exact ⟨z.1, z.2.1⟩
      have slp : Slp (End.susp v gg l k c p fs).genState := ⟨_, _, _, _, _, _, rfl⟩
      have bgs : (End.susp v gg l k c p fs).genState.bare = true := End.bare_of_quiet hq
      have rdy' : ∀ (s4 : Shared) (H5 : Hp), Wake G s₁ H4 (s4.setGen gi .running) H5 → Ready (model X.prog X.w) X.A.in1 (Go G Yd En j' (s4.setGen gi .running) H5) (s4.setGen gi .running) (End.susp v gg l k c p fs).genState := fun s4 H5 wk => by
        have z := kap (s4.setGen gi .running) H5 wk
        rw [gP, gw, gA] at z
        exact z
      generalize (End.susp v gg l k c p fs).genState = gs' at *
      have hg4 : (s₁.setGen gi gs').gens[gi]? = some gs' := setGen_at hsz1
      have b4 : AllBare (s₁.setGen gi gs').gens := allBare_setGen I4.bare bgs
      have I4' : Inv X pins σ3 H4 (s₁.setGen gi gs') := inv_sw I4 b4
      have I5 : Inv X (pins ++ [(s1.heap.objs.size, oL), (a, ob)]) σ3 H4 (s₁.setGen gi gs') := I4'.pins_of fun p hp' => by
        rcases List.mem_append.mp hp' with z | z
        · exact I4'.pin p (List.mem_append_right _ z)
        · simp only [List.mem_cons, List.not_mem_nil, or_false] at z
          rcases z with rfl | rfl
          · exact ⟨hoL, hnL, Nat.ne_of_gt hL, nfs _ (Nat.le_refl _), fun v z => by rw [hdL] at z; cases z⟩
          · exact ⟨pA.1, pA.2, Nat.ne_of_gt (Nat.lt_trans hL aL), nfs _ (Nat.le_of_lt aL), md.nocell⟩
      generalize hs4 : s₁.setGen gi gs' = s4 at *
      have os4 : s4.os = s₁.os := by rw [← hs4]; rfl
      -- the name is set, then the body runs
      refine wpAny_passesOwn hp (wpAny_mono (wpAny_veil (hg.run _ (veil s4) σ3 H4 x v _ (inv_sw I5 (bare_veil b4)) rv (turn j' σ3 H3 x H4 w3 sm yd))) (fun _ s5 ⟨t5, k5, σ6, H6, I6, q6⟩ => ?_) fun v s ⟨_, _, z⟩ => absurd z (noX _ _))
      have I6 := inv_kept I6 k5 b4
      have hg5 := k5.slept gi gs' hg4 slp
      refine wpAny_passesOwn hp (wpAny_mono (wpAny_veil (hb.run _ (veil s5) σ6 H6 _ (inv_sw I6 (bare_veil I6.bare)) q6)) (fun f s7 ⟨t7, k7, q7⟩ => ?_) fun v s ⟨_, _, z⟩ => absurd z (noX _ _))
      have hg7 := k7.slept gi gs' hg5 slp
      have b5 := I6.bare
      have again : ∀ {σ7 : L2.St} {H7 : Hp}, Inv X (pins ++ [(s1.heap.objs.size, oL), (a, ob)]) σ7 H7 t7 → Same H4 H7 ∧ W j' σ7 H7 → ∃ m', m' < j' + 1 ∧ ∃ σ3 H3 gs, Inv X pins σ3 H3 s7 ∧ W m' σ3 H3 ∧ s7.gens[gi]? = some gs ∧ Ready (model X.prog X.w) X.A.in1 (Go G Yd En m' (s7.setGen gi .running) H3) (s7.setGen gi .running) gs ∧ s7.heap.get? a = some ob ∧ H3 a = none := fun {σ7 H7} I7 ⟨sm7, w7⟩ => by
        have I7 := inv_kept I7 k7 b5
        have pL7 := I7.pin (s1.heap.objs.size, oL) (List.mem_append_right _ (List.mem_append_right _ List.mem_cons_self))
        have pA7 := I7.pin (a, ob) (List.mem_append_right _ (List.mem_append_right _ (List.mem_cons_of_mem _ List.mem_cons_self)))
        refine ⟨j', Nat.lt_succ_self _, σ7, H7, gs', I7.unpinned, w7, hg7, rdy' s7 H7 ⟨?_, sm7, ge0 I7 rfl, fun b o ob' e => ?_⟩, pA7.1, pA7.2.1⟩
        · show s7.os = s₁.os
          rw [I7.os, ← os4, I5.os]
        · rcases gown b ob' with rfl | rfl
          · rw [hoL] at e
            cases e
            exact ⟨pL7.1, pL7.2.1⟩
          · rw [pA.1] at e
            cases e
            exact ⟨pA7.1, pA7.2.1⟩
      cases f with
      | next => obtain ⟨σ7, H7, I7, n7⟩ := q7; exact again I7 n7
      | cont => obtain ⟨σ7, H7, I7, n7⟩ := q7; exact again I7 n7
      | brk => obtain ⟨σ7, H7, I7, n7⟩ := q7; exact ⟨σ7, H7, (inv_kept I7 k7 b5).unpinned, n7⟩
      | ret u => obtain ⟨x7, σ7, H7, I7, r7, n7⟩ := q7; exact ⟨x7, σ7, H7, (inv_kept I7 k7 b5).unpinned, r7, n7⟩
  · cases j with
    | succ j' =>
      obtain ⟨_, _, _, _, _, _, _, ee, _⟩ := hgo
      cases ee
    | zero =>
      obtain ⟨z, σg, H4, Ig, sm, en⟩ := hgo
      refine ⟨z.imp (fun z => by cases z; rfl) (fun z => by cases z; rfl), fun h' hk _ => ?_⟩
      have I4 : Inv X pins σ3 H4 s₁ := back I3 Ig gP gw go rfl rfl (by rw [gn]; exact hL) (by rw [gn]; exact hcl) (by rw [gn]; exact hpi) (by rw [gn]; exact hz)
      have I5 : Inv X pins σ3 H4 (s₁.setGen gi .finished) := inv_sw I4 (allBare_setGen I4.bare rfl)
      exact wpAny_execs_nil ⟨σ3, H4, I5.kept (t' := s₁.toks) hk, fin σ3 H3 H4 w3 sm en⟩
end
end GenZ
/-! generator defs by their names: for over them, list of them -/
namespace Pl
open PySem PySem.Spec PyProof.Rows L2 GenZ
/-- a generator def by its name, as the kit's list(g) wants it -/
structure CalL (P : Program) (w : World) (K : PySem.W.Frag) (mg : Str → Option Value) (base : Heap) (k : Nat) (x : Str) (ps : List Str) (sp : SpG) : Prop where
  ex : ∃ f fd, GFn P w K mg base k f fd ps sp ∧ mg x = some (.ref f) ∧ PySem.W.keepIn K (.ref f) = true ∧ Binds K fd ps []
section
variable {P : Program} {w : World} {K : PySem.W.Frag} {mg : Str → Option Value} {base : Heap} {x : Str} {st : Stmt} {N ps : List Str} {k : Nat}
theorem Df.gcal {sp : SpG2} (D : Df K mg x st ps) (S : GScope N ps (defScope st)) (hcl : ∀ n y, (cellsFrom n (defScope st).names []).lookup y = none) (len : ∀ vs H m Yd En, sp vs H m Yd En → vs.length = ps.length)
    (bod : ∀ (f : Addr) (cdv : Value) (A : Around) (out : List Env) (n0 : Nat) (pn : List (Addr × Obj)) (vs : List V) (H : Hp) (m : Nat) (Yd : Nat → V → Hp → Prop) (En : Hp → Prop),
      (Gn.mk P w K mg base N x (defScope st) f cdv A out n0 pn).Ok → Room k (A.deeper (envOfC x (defScope st) n0 f cdv)) → sp vs H m Yd En →
      ∃ t, GSs2 (Gn.mk P w K mg base N x (defScope st) f cdv A out n0 pn) Yd En (defBody st) t ∧ ∀ H2, Same H H2 → t { nx := fun m Hw _ H' => m = 0 ∧ Same Hw H' ∧ En H', rt := fun m Hw v H' => v = .non ∧ m = 0 ∧ Same Hw H' ∧ En H' } m H2 (start N vs) H2) :
    GCal P w K mg base (k + 1) x ps sp := by
  obtain ⟨f, fd, F, hm, hb⟩ := D.ex
  have kp := F.kp
  obtain ⟨oc, od, kV, doc, pm, an, cdv, ct, osl, rfl, lk, hcd⟩ := F.ex
  refine ⟨f, _, gfn2_of lk hcd S hcl len fun G vs H m Yd En e1 e2 e3 e4 e5 e6 e7 e8 e9 e10 go rm h => ?_, hm, kp, hb⟩
  obtain ⟨P', w', K', mg', base', N', q', sc', f', cd', A', out', n0', pn'⟩ := G
  obtain rfl : P' = P := e1
  obtain rfl : w' = w := e2
  obtain rfl : K' = K := e3
  obtain rfl : mg' = mg := e4
  obtain rfl : base' = base := e5
  obtain rfl : N' = N := e6
  obtain rfl : q' = x := e7
  obtain rfl : sc' = _ := e8
  obtain rfl : f' = f := e9
  obtain rfl : cd' = cdv := e10
  exact bod f' cd' A' out' n0' pn' vs H m Yd En go rm h
theorem Df.gcalL {sp : SpG} (D : Df K mg x st ps) (S : GScope N ps (defScope st)) (len : ∀ vs H Q E, sp vs H Q E → vs.length = ps.length)
    (bod : ∀ (f : Addr) (cdv : Value) (A : Around) (out : List Env) (s : Shared) (H : Hp) (vs : List V) (Q : List V → Hp → Prop) (E : XK) (pn : List (Addr × Obj)), Room k (A.deeper (envOfC x (defScope st) s.heap.objs.size f cdv)) → sp vs H Q E →
      ∃ t, GSs (gcxOf P w K mg base N x (defScope st) f cdv A out s H E pn) (defBody st) t ∧ t { nx := fun ys _ H' => Q ys H', rt := fun ys v H' => v = .non ∧ Q ys H' } [] (start N vs) H) : CalL P w K mg base (k + 1) x ps sp := by
  obtain ⟨f, fd, F, hm, hb⟩ := D.ex
  have kp := F.kp
  obtain ⟨oc, od, kV, doc, pm, an, cdv, ct, osl, rfl, lk, hcd⟩ := F.ex
  exact ⟨f, _, gfn_of lk hcd S len fun A out s H vs Q E pn rm h => bod f cdv A out s H vs Q E pn rm h, hm, kp, hb⟩
end
section
variable {X : Cx} {k : Nat} {x : Str} {ps : List Str} {sp : SpG} {p q pos pos' : Pos} {e : Expr} {es : List Expr} {t : TA}
theorem passE0 : Passes (CX X.prog X.w) X E0 := fun _ _ _ _ _ _ _ h => by
  obtain ⟨_, _, _, _, _, _, _, _, _, _, _, _, z⟩ := h
  exact z.elim
/-- list(x(e, ..)), x a generator def -/
theorem pe_listL (c : CalL X.prog X.w X.K X.mg X.base k x ps sp) (hr : Room (k + 3) X.A) (hml : X.mg "list" = none) (ha : PA X (e :: es) t) (hgl : Gl X "list" := by rfl) (hg : Gl X x := by rfl) (hdb : (x == ("__debug__" : Str)) = false := by decide)
    (he : starEach (e :: es) X.env = (false, eval e X.env) :: starEach es X.env := by rfl) (hpl : (backTo pos' (starEach es X.env)).any (·.1) = false := by rfl)
    (he1 : starEach [.Call (.Name x p) (e :: es) [] pos'] X.env = (false, eval (.Call (.Name x p) (e :: es) [] pos') X.env) :: starEach [] X.env := by rfl) :
    PE X (.Call (.Name "list" q) [.Call (.Name x p) (e :: es) [] pos'] [] pos) (tListG (tCallG sp [] E0 t)) := by
  obtain ⟨f, fd, F, hm, kp, hb⟩ := c.ex
  exact pe_listG (pgen_call F (hr.mono (by omega)) hg hm kp hb .nil ha hdb he hpl) passE0 (fun _ _ _ h => h.elim) hr hgl hml rfl (by decide) (by decide) he1
end
end Pl
/-! == of tuples whose items have an own ==, whatever comes out -/
namespace Pl
section
open PySem PySem.SeqAt
open AutoSeq1 (wpAny_loadPart')
open MeetsSeq MeetsSeq2 MeetsSeq3 SeqRoads2
variable {prog : Program} {w : World} {A : Around} {R : Result → Shared → Prop}

variable {E : Value → Shared → Prop} {s : Shared}

end
open PySem PySem.Spec PyProof.Rows L2
section
variable {X : Cx} {k : Nat} {C : Addr} {ps : List Str} {sp : Sp}




end
end Pl
namespace Pl
namespace ZL
open PySem PySem.Spec PyProof.Rows L2
/-! zip(a, b, ..) of lists -/








section
variable {prog : Program} {w : World} {A : Around} {E : Value → Shared → Prop}


end





section
variable {prog : Program} {w : World} {A : Around} {E : Value → Shared → Prop} {s : Shared}

end







section
variable {prog : Program} {w : World} {A : Around} {E : Value → Shared → Prop} {s : Shared} {z TI TO : Addr} {its ls : List Addr}



end












end ZL
end Pl
namespace Pl
open PySem PySem.Spec PyProof.Rows L2
/-! The end of a law some of whose defs make lambdas: each such def's code object has a table, empty at first. -/
theorem noTab {K : PySem.W.Frag} {h : Heap} {P : Addr} (X : K.In h) (n : PySem.W.noTabs K = true) (e : h.get? P = some (PySem.W.tabObj #[])) : K.lookup P = none := by
  cases q : K.lookup P with
  | none => rfl
  | some o =>
    have z := X _ _ q
    rw [e] at z
    cases z
    have mem : ∀ {L : PySem.W.Frag} {o : Obj}, L.lookup P = some o → (P, o) ∈ L := fun {L o} q => by
      induction L with
      | nil => cases q
      | cons p L ih =>
        rw [List.lookup_cons] at q
        split at q
        · rename_i hh
          have e1 : P = p.1 := beq_iff_eq.mp hh
          have e2 : p.2 = o := Option.some.inj q
          rw [e1, ← e2]
          exact List.mem_cons_self
        · exact List.mem_cons_of_mem _ (ih q)
    have := List.all_eq_true.mp n _ (mem q)
    simp [PySem.W.tabObj] at this
/-- the end -/
theorem walkT {l : PySem.W.OpenLaw} {n k : Nat} {q : Program} {loose : List Str} {XP : (Str → Option Value) → Heap → Prop} {YP : World → Heap → Prop} {d : DefRec} {K : Params → PySem.W.Frag} {sp : PySem.W.Frag → Sp} {x : Str} {st : Stmt} (names : List Str)
    (hn : l.most = some n) (small : n ≤ sizeLine) (hdf : d.params.defaults = []) (hr : Room k callerA) (hY : ∀ (w : World) (h : Heap), YP w h → (K w.params).In h)
    (hrec : ∀ y ∈ names, ((recsOf q).find? fun e => e.name == y).isSome = true) (htab : ∀ w : World, ∀ y ∈ names, (PySem.W.tabIn (K w.params) y).isSome = true) (hno : ∀ w : World, PySem.W.noTabs (K w.params) = true)
    (hname : d.name = "law") (D : ∀ w : World, DfK (K w.params) "law" st) (bo : BindOk "law" "law" st [x])
    (F : ∀ (w : World) (mg : Str → Option Value) (h : Heap), (K w.params).In h → h.Ns mainGlobals mg →
      ∀ base : Heap, (K w.params).In base → base.Ns mainGlobals mg → (∀ y ∈ names, ∀ c T : Addr, PySem.W.tabIn (K w.params) y = some (c, T) → LamX.TabB base mg c T) →
        ∀ (f : Addr) (fd : FuncData), L2.Fun (K w.params) "law" "law" st f fd → FnOk l.prog w (K w.params) mg base CX0 k f fd [x] (sp (K w.params)))
    (prom : ∀ (K : PySem.W.Frag) (H : Hp) (a : Addr) (ns : List Int), ns.length ≤ n → (∀ y ∈ names, ∀ c T : Addr, PySem.W.tabIn K y = some (c, T) → H T = some (.tbl #[])) → SqL K H a (ns.map V.int) → sp K [.ref a] H (fun v _ => v = .bl true) fun _ _ _ => False) :
    PySem.W.WalkO q loose XP YP l.row.toRowW d [] (fun f vs => PySem.call f vs) := by
  refine Att.attach_call hn hdf ?_
  intro w s0 s1 mg mb fa o pm cd doc a vs ns G Y ho hd hcd hmg hobj hints hlen hg
  have KX := hY w _ Y
  obtain ⟨f, ea, od, an, sl, oc, kV, dc, pm', cd', ct, lk, cc, kp⟩ := (D w).ex
  have Fl := fun_mk (st := st) lk cc kp
  have ef : fa = f := by
    have z := PySem.W.mg_of KX G.T.g ea
    rw [hname] at hmg
    rw [hmg] at z
    cases z
    rfl
  subst ef
  have bb : Binds (K w.params) _ [x] [] := Fl.binds bo
  have key : ∀ y ∈ names, ∃ p : Addr × Addr, PySem.W.tabIn (K w.params) y = some p ∧ PySem.W.CodeHd s1.heap p.1 p.2 ∧ s1.heap.get? p.2 = some (PySem.W.tabObj #[]) := fun y hy => by
    obtain ⟨p, hp⟩ := Option.isSome_iff_exists.mp (htab w y hy)
    obtain ⟨r, hr'⟩ := Option.isSome_iff_exists.mp (hrec y hy)
    have z := PySem.W.tab_of (c := p.1) (P := p.2) G.T KX hr' hp
    exact ⟨p, hp, z.1, z.2⟩
  have mem : ∀ p ∈ names.filterMap (PySem.W.tabIn (K w.params)), ∃ y ∈ names, PySem.W.tabIn (K w.params) y = some p := fun p hp => by
    obtain ⟨y, hy, e⟩ := List.mem_filterMap.mp hp
    exact ⟨y, hy, e⟩
  have got : ∀ p ∈ names.filterMap (PySem.W.tabIn (K w.params)), PySem.W.CodeHd s1.heap p.1 p.2 ∧ s1.heap.get? p.2 = some (PySem.W.tabObj #[]) := fun p hp => by
    obtain ⟨y, hy, e⟩ := mem p hp
    obtain ⟨p', e', a, b⟩ := key y hy
    rw [e] at e'
    cases e'
    exact ⟨a, b⟩
  exact LamX.law_callTs (cs := names.filterMap (PySem.W.tabIn (K w.params))) (CX := CX0) KX G.T.g G.T.b G.T.builtins G.T.nolimit hg (fun p hp => (got p hp).2) (fun p hp => noTab KX (hno w) (got p hp).2) (fun p hp => (got p hp).1) G.T.bmain hobj hints (Nat.le_trans hlen small) hr
    (fun base kb nb tb => F w mg s1.heap KX G.T.g base kb nb (fun y hy c T e => tb (c, T) (List.mem_filterMap.mpr ⟨y, hy, e⟩)) fa _ Fl) (fun s u => BindsTo.of_eq (bo kV dc pm' an cd' ct [u] rfl))
    (fun H hH hS => prom _ H a ns hlen (fun y hy c T e => hH (c, T) (List.mem_filterMap.mpr ⟨y, hy, e⟩)) hS) fun H e s' z => z
end Pl
namespace Pl
open PySem PySem.Spec PyProof.Rows L2
/-! methods with arguments -/
section
variable {X : Cx} {k : Nat} {C : Addr} {ps : List Str} {sp : Sp} {E : XK} {pos apos : Pos} {m : Str} {o e : Expr} {es : List Expr} {ta : TE} {t : TA} {pl : Sem Bool}


end
/-! a def whose code object is known -/
structure DfT (K : PySem.W.Frag) (mg : Str → Option Value) (x : Str) (st : Stmt) (ps : List Str) (c : Addr) : Prop where
  ex : ∃ (f : Addr) (oc : Value) (od : Option Addr) (kV doc pm : Value) (an : Option Addr) (ct : Value) (osl : Array (Option Value)),
    K.lookup f = some ⟨oc, od, .func (PySem.W.fnOf x x (defArgs st) (defBody st) (defScope st) .none kV doc pm an (.ref c) ct), osl⟩ ∧ PySem.W.codeIn K (.ref c) x = true ∧ PySem.W.keepIn K (.ref f) = true ∧ mg x = some (.ref f) ∧
      Binds K (PySem.W.fnOf x x (defArgs st) (defBody st) (defScope st) .none kV doc pm an (.ref c) ct) ps []
theorem DfK.dfT {K : PySem.W.Frag} {h : Heap} {mg : Str → Option Value} {x : Str} {st : Stmt} {ps : List Str} {c T : Addr} (d : DfK K x st) (X : K.In h) (G : h.Ns mainGlobals mg) (b : BindOk x x st ps) (ht : PySem.W.tabIn K x = some (c, T)) : DfT K mg x st ps c := by
  obtain ⟨f, a, od, an, sl, oc, kV, dc, pm, cd, ct, l, cc, kp⟩ := d.ex
  have F := fun_mk (st := st) l cc kp
  have e : cd = .ref c := by
    unfold PySem.W.tabIn at ht
    rw [a] at ht
    dsimp only at ht
    rw [l] at ht
    dsimp only [PySem.W.fnOf] at ht
    cases cd <;> first | (simp at ht; done) | skip
    rename_i c1
    dsimp only at ht
    split at ht
    · split at ht
      · cases ht
        rfl
      · cases ht
    · cases ht
  subst e
  exact ⟨f, oc, od, kV, dc, pm, an, ct, sl, l, cc, kp, PySem.W.mg_of X G a, F.binds b⟩
section
variable {P : Program} {w : World} {K : PySem.W.Frag} {mg : Str → Option Value} {base : Heap} {x : Str} {st : Stmt} {N ps : List Str} {k : Nat} {sp : Sp} {c : Addr}
theorem DfT.cal (D : DfT K mg x st ps c) (S : FnScope N ps (defScope st)) (lng : ∀ vs H Q E, sp vs H Q E → vs.length = ps.length)
    (bod : ∀ (f : Addr) (A : Around) (out : List Env) (s : Shared) (H : Hp) (vs : List V) (Q : VK) (E : XK),
      Room k (A.deeper (envOfC x (defScope st) s.heap.objs.size f (.ref c))) → sp vs H Q E →
      ∃ t, PSs (cxOf CX0 P w K mg base N x (defScope st) f (.ref c) A out s H E).nox (defBody st) t ∧
        t { nx := fun _ H' => Q .non H', rt := Q } (start N vs) H) : Cal P w K mg base (k + 1) x ps sp := by
  obtain ⟨f, oc, od, kV, doc, pm, an, ct, osl, lk, hcd, kp, hm, hb⟩ := D.ex
  refine ⟨f, _, fn_of lk hcd S lng fun A out s H vs Q E hr h => ?_, hm, kp, hb⟩
  obtain ⟨t, h1, h2⟩ := bod f A out s H vs Q E hr h
  exact ⟨t, h1.nox, h2⟩
end
/-! a lambda handed to a def that calls it in a try with several clauses: what it returns stands in a list behind "told", else the clause's own name -/
def qLam (x : Str) : Str := x ++ ".<locals>." ++ "<lambda>"
/-- what the clauses make of an exception -/
def clW (K : PySem.W.Frag) (R : Str → Hp → Prop) : List (Addr × Str) → XK
  | [] => fun _ _ _ => False
  | (C, nm) :: r => fun cls d H => ∃ b, PySem.W.exmOne K cls (.ref C) = some b ∧ (b = true → R nm H) ∧ (b = false → clW K R r cls d H)

end Pl
namespace Pl
open PySem PySem.Spec PyProof.Rows L2
/-- walkT, with the tables' facts laid out -/
theorem walkT2 {l : PySem.W.OpenLaw} {n k : Nat} {q : Program} {loose : List Str} {XP : (Str → Option Value) → Heap → Prop} {YP : World → Heap → Prop} {d : DefRec} {K : Params → PySem.W.Frag} {sp : PySem.W.Frag → Sp} {x : Str} {st : Stmt} (names : List Str)
    (hn : l.most = some n) (small : n ≤ sizeLine) (hdf : d.params.defaults = []) (hr : Room k callerA) (hY : ∀ (w : World) (h : Heap), YP w h → (K w.params).In h)
    (hrec : ∀ y ∈ names, ((recsOf q).find? fun e => e.name == y).isSome = true) (htab : ∀ w : World, ∀ y ∈ names, (PySem.W.tabIn (K w.params) y).isSome = true) (hno : ∀ w : World, PySem.W.noTabs (K w.params) = true)
    (hdis : ∀ w : World, (names.all fun y => names.all fun z => y == z || !((PySem.W.tabIn (K w.params) y).map (·.2) == (PySem.W.tabIn (K w.params) z).map (·.2))) = true)
    (hname : d.name = "law") (D : ∀ w : World, DfK (K w.params) "law" st) (bo : BindOk "law" "law" st [x])
    (F : ∀ (w : World) (mg : Str → Option Value) (h : Heap), (K w.params).In h → h.Ns mainGlobals mg →
      ∀ base : Heap, (K w.params).In base → base.Ns mainGlobals mg → (∀ y ∈ names, ∃ c T : Addr, PySem.W.tabIn (K w.params) y = some (c, T) ∧ LamX.TabB base mg c T) →
        (∀ y ∈ names, ∀ z ∈ names, y ≠ z → ∀ c T c' T' : Addr, PySem.W.tabIn (K w.params) y = some (c, T) → PySem.W.tabIn (K w.params) z = some (c', T') → T ≠ T') →
        ∀ (f : Addr) (fd : FuncData), L2.Fun (K w.params) "law" "law" st f fd → FnOk l.prog w (K w.params) mg base CX0 k f fd [x] (sp (K w.params)))
    (prom : ∀ (K : PySem.W.Frag) (H : Hp) (a : Addr) (ns : List Int), ns.length ≤ n → (∀ y ∈ names, ∀ c T : Addr, PySem.W.tabIn K y = some (c, T) → H T = some (.tbl #[])) → SqL K H a (ns.map V.int) → sp K [.ref a] H (fun v _ => v = .bl true) fun _ _ _ => False) :
    PySem.W.WalkO q loose XP YP l.row.toRowW d [] (fun f vs => PySem.call f vs) := by
  refine walkT names hn small hdf hr hY hrec htab hno hname D bo (fun w mg h KX G base kb nb tb f fd Df => F w mg h KX G base kb nb (fun y hy => ?_) (fun y hy z hz ne c T c' T' e1 e2 eT => ?_) f fd Df) prom
  · obtain ⟨p, hp⟩ := Option.isSome_iff_exists.mp (htab w y hy)
    exact ⟨p.1, p.2, hp, tb y hy p.1 p.2 hp⟩
  · have a := List.all_eq_true.mp (List.all_eq_true.mp (hdis w) y hy) z hz
    rw [e1, e2, eT] at a
    simp at a
    exact ne a
end Pl
namespace Pl
open PySem PySem.Spec PyProof.Rows L2
/-! super() in a method: evaluation at the method's own activation -/
structure PEt (X : Cx) (body : List Stmt) (e : Expr) (t : TE) : Prop where
  run : ∀ (pins : List (Addr × Obj)) (s : Shared) (σ : L2.St) (H : Hp) (Q : VK), Inv X pins σ H s → t σ H Q → _root_.PySem.wpAt (model X.prog X.w) X.A (.func body X.env) (eval e X.env) (EP X pins σ Q) X.xe s
structure PSt (X : Cx) (body : List Stmt) (st : Stmt) (t : TS) : Prop where
  run : ∀ (pins : List (Addr × Obj)) (s : Shared) (σ : L2.St) (H : Hp) (D : Ends), Inv X pins σ H s → t D σ H → _root_.PySem.wpAt (model X.prog X.w) X.A (.func body X.env) (exec st X.env) (SP X pins D) X.xe s
structure PSst (X : Cx) (body : List Stmt) (st : List Stmt) (t : TS) : Prop where
  run : ∀ (pins : List (Addr × Obj)) (s : Shared) (σ : L2.St) (H : Hp) (D : Ends), Inv X pins σ H s → t D σ H → _root_.PySem.wpAt (model X.prog X.w) X.A (.func body X.env) (execs st X.env) (SP X pins D) X.xe s
section
variable {X : Cx} {body rest sts : List Stmt} {st : Stmt} {t u : TS} {te : TE} {e : Expr} {pos : Pos}
theorem psst_of (h : PSs X sts t) : PSst X body sts t := ⟨fun pins s σ H D I q => PySem.wpAt_of_wpAny (h.run pins s σ H D I q)⟩

theorem psst_cons (h1 : PSt X body st t) (h2 : PSst X body rest u) : PSst X body (st :: rest) (tSeq t u) := by
  refine ⟨fun pins s σ H D I h => ?_⟩
  refine PySem.ks_wpAt_execs_cons (PySem.ks_wpAt_mono (h1.run pins s σ H { D with nx := u D } I h) (fun f s1 q => ?_) fun _ _ x => x)
  cases f with
  | next =>
    obtain ⟨σ', H', I', q⟩ := q
    exact h2.run pins s1 σ' H' D I' q
  | ret v => exact q
  | brk => exact q
  | cont => exact q
theorem psst_one (h1 : PSt X body st t) : PSst X body [st] t := by
  refine ⟨fun pins s σ H D I h => ?_⟩
  refine PySem.ks_wpAt_execs_cons (PySem.ks_wpAt_mono (h1.run pins s σ H D I h) (fun f s1 q => ?_) fun _ _ x => x)
  cases f with
  | next => exact PySem.wpAt_of_wpAny (wpAny_execs_nil q)
  | ret v => exact q
  | brk => exact q
  | cont => exact q

theorem pst_expr (he : PEt X body e te) (hs : swapsWith e none pos.line X.env = pure false := by rfl) : PSt X body (.Expr e pos) (tDrop te) := by
  refine ⟨fun pins s σ H D I h => ?_⟩
  exact PySem.ks_wpAt_Expr_any (PySem.ks_wpAt_mono (he.run pins s σ H _ I h) (fun v s1 ⟨x, H1, I1, r1, q1⟩ => ⟨σ, H1, I1, q1⟩) fun _ _ x => x) I.quiet hs
end
/-- what the rule of super() asks of the method's activation; C: the instance's class, D: the class of the text -/
structure SupX (X : Cx) (C D : Addr) (sf : Str) : Prop where
  ks : X.env.kindOf "super" = some .globalImplicit
  kc : X.env.kindOf "__class__" = some .free
  kself : X.env.kindOf sf = some .local
  n0 : X.N[0]? = some sf
  fn : ∃ f of fd ar, X.env.func = some f ∧ X.K.lookup f = some of ∧ of.data = .func fd ∧ (fd.params.posonlyargs ++ fd.params.args).head? = some ar ∧ ar.arg = sf
  code : ∃ cda oc vs file tf, X.env.code = .ref cda ∧ X.K.lookup cda = some oc ∧ oc.data = .fields vs ∧ vs[2]? = some (.str file tf) ∧ ((X.prog.main.file : Str) == file) = true
  top : (X.prog.main.scope.names.lookup ("super" : Str)).isSome = false
  cell : ∃ cc ocl, X.env.cells.lookup ("__class__" : Str) = some cc ∧ X.K.lookup cc = some ocl ∧ ocl.data = .cell (some (.ref D))
  mgs : X.mg "super" = none
  sub : PySem.W.mroIn X.K C (.ref D) = some true
  clD : ∃ cd, PySem.W.clsIn X.K D = some cd
  clC : ∃ cd, PySem.W.clsIn X.K C = some cd
  op : PySem.W.nsIn X.K cStatics "thirdparty.any" = some none
/-- super().m(..): the instance in the first slot, its method above D -/
def tSup (C : Addr) (sp : Sp) (E : XK) (t : TA) : TE := fun σ H Q => ∃ a dx fs, σ[0]? = some (some (V.ref a)) ∧ H a = some (.ins C dx fs) ∧ t σ H fun vs H1 => sp (V.ref a :: vs) H1 Q E
theorem ks_objs {K : PySem.W.Frag} {h : Heap} {D : Addr} {cdD : ClassData} (X : K.In h) (hD : PySem.W.clsIn K D = some cdD) : ∃ oD, h.get? D = some oD ∧ oD.data = .cls cdD := by
  unfold PySem.W.clsIn at hD
  split at hD
  · rename_i c d cd' sl ho
    cases hD
    exact ⟨_, X _ _ ho, rfl⟩
  · cases hD
section
variable {X : Cx} {body : List Stmt} {C D : Addr} {sf m : Str} {p0 p1 p2 p3 : Pos} {args : List Expr} {t : TA} {sp : Sp} {E : XK} {k : Nat} {f2 : Addr} {CX : CXT}
theorem sup_base {pins : List (Addr × Obj)} {s : Shared} {σ : L2.St} {H : Hp} {a dx : Addr} {fs : List (Str × V)} {whole : Sem Value} {Q : Value → Shared → Prop} (S : SupX X C D sf) (I : Inv X pins σ H s) (h0 : σ[0]? = some (some (V.ref a))) (ha : H a = some (.ins C dx fs)) (hat : (m == ("__class__" : Str)) = false)
    (h : ∀ so s', Inv X pins σ H s' → s'.heap.get? so = some (PySem.W.ks_superObj D a C) → Q (.ref so) s') :
    _root_.PySem.wpAt (model X.prog X.w) X.A (.func body X.env) (attributeBase (.Call (.Name "super" p0) [] [] p1) m X.env whole) Q X.xe s := by
  obtain ⟨f, of, fd, ar, e1, e2, e3, e4, e5⟩ := S.fn
  obtain ⟨cda, oc, vs, file, tf, c1, c2, c3, c4, c5⟩ := S.code
  obtain ⟨cc, ocl, d1, d2, d3⟩ := S.cell
  obtain ⟨cdD, hD⟩ := S.clD
  have KX := I.kIn
  obtain ⟨oD, hD1, hD2⟩ := ks_objs KX hD
  obtain ⟨mb, hb, hbb⟩ := I.mod.blt
  obtain ⟨mA, O, _⟩ := ins_get I.hok ha
  obtain ⟨ml, hn, hl⟩ := I.loc
  have hN := S.n0
  obtain ⟨u, ru, lu⟩ := hl 0 sf (.ref a) hN h0 (.inl S.kself)
  obtain rfl : u = Value.ref a := ru
  have hm0 : ml sf = some (Value.ref a) := by
    rcases lu with ⟨_, q⟩ | ⟨q | q, _⟩
    · exact q
    · rw [S.kself] at q
      cases q
    · rw [S.kself] at q
      cases q
  refine PySem.ks_wpAt_super_base (env := X.env) S.ks S.kc hat e1 (KX _ _ e2) e3 e4 c1 (KX _ _ c2) c3 c4 c5 S.top ?_
  rw [e5]
  refine PySem.W.ks_loadName_global I.ok.kind S.ks (Calls.loadGlobal_builtin (env := X.env) (by rw [I.ok.glob]; exact I.mod.glob.keeps I.bk) S.mgs (by rw [I.ok.blt]; exact hb.keeps I.bk) ((hbb _ (by decide +kernel)).trans (by first | rfl | kernel_rfl)) ⟨rfl, ?_⟩)
  refine wpAny_loadName_free I.ok.kind S.kc d1 ⟨_, KX _ _ d2, d3⟩ ?_
  refine wpAny_loadName_local I.ok.kind S.kself hn hm0 ?_
  obtain ⟨hh, g, d, tk, os⟩ := s
  refine PySem.ks_wpAny_isType_cls hD1 hD2 ⟨rfl, ?_⟩
  refine PySem.ks_wpAny_call_super hD1 hD2 O.obj rfl (fun c z => nomatch z) (PySem.W.looks_mroIn KX S.sub) (fun h' e k => ?_)
  exact h _ _ (I.kept (t' := tk) k) e
theorem pt_super {pl : Sem Bool} (S : SupX X C D sf) (hat : (m == ("__class__" : Str)) = false) (hm : PySem.W.ks_superIn X.K C D m = some (some (.ref f2))) (hty : PySem.W.typeIn X.K (.ref f2) = some (.type "function")) (hf : PySem.W.fnIn X.K f2 = true)
    (F : FnR X.prog X.w X.K X.mg X.base CX k f2 sp) (hr : Room k X.A) (hx : Passes CX X E) (ha : PA X args t)
    (hst : args = [] ∧ t = tNil ∨ ∃ e es, args = e :: es ∧ starEach (e :: es) X.env = (false, eval e X.env) :: starEach es X.env ∧ (backTo p3 (starEach es X.env)).any (·.1) = false)
    (ht : eval (.Call (.Attribute (.Call (.Name "super" p0) [] [] p1) m p2) args [] p3) X.env = (do
      let ov ← attributeBase (.Call (.Name "super" p0) [] [] p1) m X.env (eval (.Call (.Name "super" p0) [] [] p1) X.env)
      standAt p2.atName
      let (f, first) ← holding [ov] (getMethod ov m pl)
      callWith p3 f first (backTo p3 (starEach args X.env)) []) := by rfl) :
    PEt X body (.Call (.Attribute (.Call (.Name "super" p0) [] [] p1) m p2) args [] p3) (tSup C sp E t) := by
  refine ⟨fun pins s σ H Q I h => ?_⟩
  obtain ⟨a, dx, fs, h0, hH, h⟩ := h
  refine PySem.ks_wpAt_MethodCall (pl := pl) (sup_base S I h0 hH hat fun so s1 I1 hso => ?_) ht
  obtain ⟨cd, hC⟩ := S.clC
  have KX := I1.kIn
  obtain ⟨mA, O, _⟩ := ins_get I1.hok hH
  have hxC : a ≠ C := by
    intro z
    obtain ⟨oC, q1, q2⟩ := ks_objs KX hC
    rw [← z, O.obj] at q1
    cases q1
    cases q2
  obtain ⟨of, hof, hofc⟩ : ∃ of, s1.heap.get? f2 = some of ∧ of.cls = .type "function" := by
    have ht' : (X.K.lookup f2).map (·.cls) = some (.type "function") := hty
    cases z : X.K.lookup f2 with
    | none => rw [z] at ht'; cases ht'
    | some of => rw [z] at ht'; exact ⟨of, KX _ _ z, Option.some.inj ht'⟩
  unfold PySem.W.ks_superIn at hm
  rw [hC] at hm
  have I2 : Inv X ((s1.heap.objs.size, PySem.W.methodObj (.ref f2) (.ref a)) :: pins) σ H { s1 with heap := s1.heap.push (PySem.W.methodObj (.ref f2) (.ref a)), toks := s1.toks + 1 } := ClX.met_new I1
  have hb := ClX.base_none I1 (Nat.le_refl _)
  obtain ⟨hh, g, d, tk, os⟩ := s1
  refine PySem.ks_wpAny_getMethod_super hso (PySem.W.looks_opaque KX S.op) (l₀ := cd.mro) ?_ rfl KX hm hof hofc hxC hat ?_
  · exact fun A Q E s k q => wpAny_bind ((PySem.W.looks_clsIn KX hC) A _ E s k (wpAny_pure q))
  · rcases hst with ⟨rfl, rfl⟩ | ⟨e, es, rfl, he, hpl⟩
    · refine PySem.W.callWith_M0 (first := []) ⟨ClX.pin_at I2, I2.kIn⟩ hf ?_
      exact ClX.run_cm F hr hx I2 .nil h
    · refine ClX.callwith_cm I2 hb hf (thn (ha.run p3 _ _ σ H _ I2 h) fun us s3 ⟨vs, H2, I3, rv, q2⟩ => ⟨⟨ClX.pin_at I3, I3.kIn⟩, ?_⟩) he hpl
      exact ClX.run_cm F hr hx I3 rv q2
end
/-! a method that says super(): its function, its cell, its code object -/
structure FsK (K : PySem.W.Frag) (D : Addr) (file : Str) (x qual : Str) (st : Stmt) (f : Addr) : Prop where
  ex : ∃ (cda cc : Addr) (oc kV dc pm ct : Value) (od an : Option Addr) (sl : Array (Option Value)) (o1 o2 : Obj) (vs : Array Value) (tf : Tok),
    K.lookup f = some ⟨oc, od, .func (PySem.W.ksFn x qual (defArgs st) (defBody st) (defScope st) .none kV dc pm an (.ref cda) ct cc), sl⟩ ∧ PySem.W.codeIn K (.ref cda) qual = true ∧
    K.lookup cc = some o1 ∧ o1.data = .cell (some (.ref D)) ∧ K.lookup cda = some o2 ∧ o2.data = .fields vs ∧ vs[2]? = some (.str file tf)
  kp : PySem.W.keepIn K (.ref f) = true
/-- the classes: C the instance's, D the text's -/
structure SubK (K : PySem.W.Frag) (C D : Addr) : Prop where
  sub : PySem.W.mroIn K C (.ref D) = some true
  clD : PySem.W.isClsIn K D = true
  clC : PySem.W.isClsIn K C = true
  op : PySem.W.nsIn K cStatics "thirdparty.any" = some none
  su : PySem.W.nsIn K mainGlobals "super" = some none
/-- the program's own part -/
structure SupP (P : Program) (file : Str) : Prop where
  file : ((P.main.file : Str) == file) = true
  top : (P.main.scope.names.lookup ("super" : Str)).isSome = false
abbrev nfS (x qual : Str) (st : Stmt) (cda cc : Addr) : NdefX.NF := ⟨x, qual, defArgs st, defBody st, defScope st, [("__class__", cc)], cda⟩
section
variable {CX : CXT} {P : Program} {w : World} {K : PySem.W.Frag} {mg : Str → Option Value} {base : Heap} {N ps : List Str} {x qual : Str} {st : Stmt} {f C D cda cc : Addr} {A : Around} {outer : List Env} {s : Shared} {H : Hp} {E : XK} {file sf : Str}
theorem cells_s {o1 : Obj} (e0 : Env0 P w K mg base A outer s H) (h1 : K.lookup cc = some o1) (h2 : o1.data = .cell (some (.ref D))) : NdefX.CellsAt [("__class__", cc)] ["__class__"] [none] s.heap H := by
  have b := e0.mod.kin _ _ h1
  have key : ∀ (y : Str) (c : Addr), List.lookup y [(("__class__" : Str), cc)] = some c → y = "__class__" ∧ c = cc := by
    intro y c e
    rw [List.lookup_cons] at e
    split at e
    · rename_i q
      cases e
      exact ⟨eq_of_beq q, rfl⟩
    · cases e
  refine ⟨rfl, fun y c e => ?_, fun y z c e1 e2 => ?_, fun i y e => ?_⟩
  · obtain ⟨rfl, rfl⟩ := key y c e
    exact ⟨(e0.bs _ _ b).2, _, _, (e0.bs _ _ b).1, h2⟩
  · rw [(key y c e1).1, (key z c e2).1]
  · cases i with
    | zero =>
      cases e
      exact ⟨cc, rfl, fun v q => by cases q⟩
    | succ i => simp at e
theorem supX_of {fd : FuncData} {of : Obj} {o1 o2 : Obj} {vs : Array Value} {tf : Tok} {ar : Arg} (G : mg "super" = none) (SP : SupP P file) (U : SubK K C D) (hf : K.lookup f = some of) (hfd : of.data = .func fd) (hp : (fd.params.posonlyargs ++ fd.params.args).head? = some ar) (ha : ar.arg = sf)
    (h1 : K.lookup cc = some o1) (h2 : o1.data = .cell (some (.ref D))) (h3 : K.lookup cda = some o2) (h4 : o2.data = .fields vs) (h5 : vs[2]? = some (.str file tf)) (n0 : N[0]? = some sf)
    (k1 : (defScope st).names.lookup ("super" : Str) = some .globalImplicit) (k2 : (defScope st).names.lookup ("__class__" : Str) = some .free) (k3 : (defScope st).names.lookup sf = some .local) :
    SupX (NdefX.ncx CX P w K mg base N (nfS x qual st cda cc) f A outer s H E) C D sf :=
  ⟨k1, k2, k3, n0, ⟨f, of, fd, ar, rfl, hf, hfd, hp, ha⟩, ⟨cda, o2, vs, file, tf, rfl, h3, h4, h5, SP.file⟩, SP.top, ⟨cc, o1, rfl, h1, h2⟩, G, U.sub, Option.isSome_iff_exists.mp U.clD, Option.isSome_iff_exists.mp U.clC, U.op⟩
end
section
variable {CX : CXT} {P : Program} {w : World} {K : PySem.W.Frag} {mg : Str → Option Value} {base : Heap} {N ps : List Str} {x qual : Str} {st : Stmt} {f C D : Addr} {file sf : Str} {k : Nat} {sp : Sp}
/-- THE RULE for a method that says super() -/
theorem FsK.ok {ar : Arg} (F : FsK K D file x qual st f) (SP : SupP P file) (U : SubK K C D) (G : mg "super" = none) (S : NdefX.NScope N ps ["__class__"] (defScope st)) (hp : ((defArgs st).posonlyargs ++ (defArgs st).args).head? = some ar) (ha : ar.arg = sf) (n0 : N[0]? = some sf)
    (k1 : (defScope st).names.lookup ("super" : Str) = some .globalImplicit) (k3 : (defScope st).names.lookup sf = some .local) (hbind : ∀ (kV doc pm : Value) (an : Option Addr) (cdv ct : Value) (cc : Addr) (us : List Value), us.length = ps.length → bindArgs (PySem.W.ksFn x qual (defArgs st) (defBody st) (defScope st) .none kV doc pm an cdv ct cc) ⟨us, []⟩ = pure (ps.zip us))
    (len : ∀ vs H Q E, sp vs H Q E → vs.length = ps.length)
    (hbody : ∀ (cda cc : Addr) (A : Around) (outer : List Env) (s : Shared) (H : Hp) (vs : List V) (Q : VK) (E : XK), Room k (A.deeper (NdefX.envF (nfS x qual st cda cc) f s.heap.objs.size)) → SupX (NdefX.ncx CX P w K mg base N (nfS x qual st cda cc) f A outer s H E) C D sf → sp vs H Q E →
      ∃ t, PSst (NdefX.ncx CX P w K mg base N (nfS x qual st cda cc) f A outer s H E) (defBody st) (defBody st) t ∧ t { nx := fun _ H' => Q .non H', rt := Q } (NdefX.startF N vs [none]) H) :
    ∃ fd, FnOk P w K mg base CX (k + 1) f fd ps sp ∧ Binds K fd ps [] := by
  obtain ⟨cda, cc, oc, kV, dc, pm, ct, od, an, sl, o1, o2, vs, tf, l, hcd, h1, h2, h3, h4, h5⟩ := F.ex
  refine ⟨_, ⟨len, fun A outer s H args us vs Q E hr e0 hb r hsp => ?_⟩, .all (fun us hl => hbind kV dc pm an (.ref cda) ct cc us hl)⟩
  have hl := len _ _ _ _ hsp
  have KX : K.In s.heap := e0.mod.kin.keeps fun b o e => (e0.bs b o e).1
  have lim : s.heap.NoLimit := e0.mod.nolimit.keeps fun b o e => (e0.bs b o e).1
  refine PySem.ks_codeAny_call_defAt (body := defBody st) (binds := ps.zip us) hr.depth (KX _ _ l) rfl lim (PySem.W.codeRec_of KX hcd) rfl hb S.nocell (fun y hy => S.par y.1 (List.of_mem_zip hy).1) (fun h₁ hns hk => ?_) S.co S.gen S.kind
  have SX : SupX (NdefX.ncx CX P w K mg base N (nfS x qual st cda cc) f A outer s H E) C D sf := supX_of G SP U l rfl hp ha h1 h2 h3 h4 h5 n0 k1 (S.frk _ (by simp)) k3
  obtain ⟨t, ht, hq⟩ := hbody cda cc A outer s H vs Q E (hr.deeper _) SX hsp
  have I : Inv (NdefX.ncx CX P w K mg base N (nfS x qual st cda cc) f A outer s H E) [] (NdefX.startF N vs [none]) H { s with heap := h₁, toks := s.toks + (ps.zip us).length } := NdefX.inv_startN S hr.hd e0 hl r (cells_s e0 h1 h2) hns hk
  have fin : ∀ {σ' : L2.St} {H' : Hp} {v : V} {u : Value} {s' : Shared}, Inv (NdefX.ncx CX P w K mg base N (nfS x qual st cda cc) f A outer s H E) [] σ' H' s' → L2.RelV v u → Q v H' → CE outer P w H s Q u s' :=
    fun {σ' H' v u s'} J rv q => ⟨v, H', J.os, J.bare, J.base, J.hok, rv, q⟩
  refine PySem.ks_wpAt_mono (ht.run [] _ _ H _ I hq) (fun fl s' hs => ?_) (fun e s' hs => hs)
  cases fl with
  | ret u =>
    obtain ⟨v, σ', H', J, rv, q⟩ := hs
    exact fin J rv q
  | next =>
    obtain ⟨σ', H', J, q⟩ := hs
    exact fin (v := V.non) (u := Value.none) J rfl q
  | brk =>
    obtain ⟨_, _, _, q⟩ := hs
    exact False.elim q
  | cont =>
    obtain ⟨_, _, _, q⟩ := hs
    exact False.elim q
end
/-! methods found by super() -/
structure Sh (K : PySem.W.Frag) (C D : Addr) (m qual : Str) (st : Stmt) (ps : List Str) : Prop where
  ex : ∃ f fd, Fun K m qual st f fd ∧ PySem.W.ks_superIn K C D m = some (some (.ref f)) ∧ PySem.W.typeIn K (.ref f) = some (.type "function") ∧ PySem.W.fnIn K f = true ∧ Binds K fd ps []
structure SCal (CX : CXT) (P : Program) (w : World) (K : PySem.W.Frag) (mg : Str → Option Value) (base : Heap) (k : Nat) (C D : Addr) (m : Str) (ps : List Str) (sp : Sp) : Prop where
  ex : ∃ f fd, FnOk P w K mg base CX k f fd ps sp ∧ PySem.W.ks_superIn K C D m = some (some (.ref f)) ∧ PySem.W.typeIn K (.ref f) = some (.type "function") ∧ PySem.W.fnIn K f = true ∧ Binds K fd ps []
section
variable {P : Program} {w : World} {K : PySem.W.Frag} {mg : Str → Option Value} {base : Heap} {C Dd : Addr} {x qual : Str} {st : Stmt} {N ps : List Str} {k : Nat} {sp : Sp}


end
section
variable {X : Cx} {body : List Stmt} {C D : Addr} {sf m : Str} {p0 p1 p2 p3 : Pos} {e : Expr} {es : List Expr} {t : TA} {sp : Sp} {E : XK} {k : Nat} {CX : CXT} {ps : List Str} {pl : Sem Bool}

/-- super().m(e, ..) -/
theorem pt_supN (S : SupX X C D sf) (c : SCal CX X.prog X.w X.K X.mg X.base k C D m ps sp) (hr : Room k X.A) (hx : Passes CX X E) (ha : PA X (e :: es) t) (hat : (m == ("__class__" : Str)) = false := by decide)
    (hst : starEach (e :: es) X.env = (false, eval e X.env) :: starEach es X.env := by rfl) (hpl : (backTo p3 (starEach es X.env)).any (·.1) = false := by rfl)
    (ht : eval (.Call (.Attribute (.Call (.Name "super" p0) [] [] p1) m p2) (e :: es) [] p3) X.env = (do
      let ov ← attributeBase (.Call (.Name "super" p0) [] [] p1) m X.env (eval (.Call (.Name "super" p0) [] [] p1) X.env)
      standAt p2.atName
      let (f, first) ← holding [ov] (getMethod ov m pl)
      callWith p3 f first (backTo p3 (starEach (e :: es) X.env)) []) := by rfl) :
    PEt X body (.Call (.Attribute (.Call (.Name "super" p0) [] [] p1) m p2) (e :: es) [] p3) (tSup C sp E t) := by
  obtain ⟨f, fd, F, h1, h2, h3, hb⟩ := c.ex
  refine pt_super S hat h1 h2 h3 ((F.raw hb .nil).imp fun vs H Q E h => by simpa using h) hr hx ha (.inr ⟨e, es, rfl, hst, hpl⟩) ht
end
/-! what the head shows -/
theorem FsK.of {K : PySem.W.Frag} {D f cda cc : Addr} {file x qual : Str} {st : Stmt} {oc kV dc pm ct cl1 cl2 : Value} {od an od1 od2 : Option Addr} {sl sl1 sl2 : Array (Option Value)} {vs : Array Value} {tf : Tok}
    (l : K.lookup f = some ⟨oc, od, .func (PySem.W.ksFn x qual (defArgs st) (defBody st) (defScope st) .none kV dc pm an (.ref cda) ct cc), sl⟩) (c : PySem.W.codeIn K (.ref cda) qual = true)
    (h1 : K.lookup cc = some ⟨cl1, od1, .cell (some (.ref D)), sl1⟩) (h3 : K.lookup cda = some ⟨cl2, od2, .fields vs, sl2⟩) (h5 : vs[2]? = some (.str file tf)) (k : PySem.W.keepIn K (.ref f) = true) : FsK K D file x qual st f :=
  ⟨⟨cda, cc, oc, kV, dc, pm, ct, od, an, sl, _, _, vs, tf, l, c, h1, rfl, h3, rfl, h5⟩, k⟩
/-- a method of C that says super(), its text in D -/
structure MsK (K : PySem.W.Frag) (C D : Addr) (file x qual : Str) (st : Stmt) : Prop where
  ex : ∃ f, PySem.W.findIn K (.ref C) x = some (some (.ref f)) ∧ PySem.W.isFn K (.ref f) = true ∧ FsK K D file x qual st f
structure ShK2 (K : PySem.W.Frag) (C D : Addr) (x qual : Str) (st : Stmt) : Prop where
  ex : ∃ f, PySem.W.ks_superIn K C D x = some (some (.ref f)) ∧ PySem.W.typeIn K (.ref f) = some (.type "function") ∧ PySem.W.fnIn K f = true ∧ FnAt K f x qual st
theorem ShK2.sh {K : PySem.W.Frag} {C D : Addr} {x qual : Str} {st : Stmt} {ps : List Str} (d : ShK2 K C D x qual st) (b : BindOk x qual st ps) : Sh K C D x qual st ps := by
  obtain ⟨f, a, i, j, od, an, sl, oc, kV, dc, pm, cd, ct, l, c, k⟩ := d.ex
  have F := fun_mk (st := st) l c k
  exact ⟨f, _, F, a, i, j, F.binds b⟩
theorem ShK2.of {K : PySem.W.Frag} {C D : Addr} {x qual : Str} {st : Stmt} {f : Addr} {od an : Option Addr} {sl : Array (Option Value)} {oc kV dc pm cd ct : Value}
    (a : PySem.W.ks_superIn K C D x = some (some (.ref f))) (i : PySem.W.typeIn K (.ref f) = some (.type "function")) (j : PySem.W.fnIn K f = true) (l : K.lookup f = some ⟨oc, od, .func (PySem.W.fnOf x qual (defArgs st) (defBody st) (defScope st) .none kV dc pm an cd ct), sl⟩) (c : PySem.W.codeIn K cd qual = true) (k : PySem.W.keepIn K (.ref f) = true) : ShK2 K C D x qual st := ⟨⟨f, a, i, j, od, an, sl, oc, kV, dc, pm, cd, ct, l, c, k⟩⟩
end Pl
namespace Pl
open PySem PySem.Spec PyProof.Rows L2
/-! methods that say super(), with defaults -/
structure FsD (K : PySem.W.Frag) (D : Addr) (file : Str) (x qual : Str) (st : Stmt) (dvs : List V) (f : Addr) : Prop where
  ex : ∃ (cda cc T : Addr) (oc kV dc pm ct : Value) (od an : Option Addr) (sl : Array (Option Value)) (o1 o2 oT : Obj) (vs : Array Value) (tf : Tok) (its : List Value) (m : Nat),
    K.lookup f = some ⟨oc, od, .func (PySem.W.ksFn x qual (defArgs st) (defBody st) (defScope st) (.ref T) kV dc pm an (.ref cda) ct cc), sl⟩ ∧ PySem.W.codeIn K (.ref cda) qual = true ∧
    K.lookup cc = some o1 ∧ o1.data = .cell (some (.ref D)) ∧ K.lookup cda = some o2 ∧ o2.data = .fields vs ∧ vs[2]? = some (.str file tf) ∧ K.lookup T = some oT ∧ oT.data = .seq its.toArray m ∧ Vals dvs its
  kp : PySem.W.keepIn K (.ref f) = true
/-- how its calls bind -/
structure BdD (K : PySem.W.Frag) (fd : FuncData) (x qual : Str) (st : Stmt) (dvs : List V) : Prop where
  ex : ∃ (T : Addr) (oT : Obj) (its : List Value) (m : Nat) (kV dc pm cdv ct : Value) (an : Option Addr) (cc : Addr), fd = PySem.W.ksFn x qual (defArgs st) (defBody st) (defScope st) (.ref T) kV dc pm an cdv ct cc ∧ K.lookup T = some oT ∧ oT.data = .seq its.toArray m ∧ Vals dvs its
section
variable {P : Program} {w : World} {K : PySem.W.Frag} {mg : Str → Option Value} {base : Heap} {C D f : Addr} {file x qual sf : Str} {st : Stmt} {N ps : List Str} {k : Nat} {sp : Sp} {CX : CXT} {dvs : List V} {fd : FuncData}
theorem FsD.ok {ar : Arg} (F : FsD K D file x qual st dvs f) (SP : SupP P file) (U : SubK K C D) (G : mg "super" = none) (S : NdefX.NScope N ps ["__class__"] (defScope st)) (hp : ((defArgs st).posonlyargs ++ (defArgs st).args).head? = some ar) (ha : ar.arg = sf) (n0 : N[0]? = some sf)
    (k1 : (defScope st).names.lookup ("super" : Str) = some .globalImplicit) (k3 : (defScope st).names.lookup sf = some .local)
    (len : ∀ vs H Q E, sp vs H Q E → vs.length = ps.length)
    (hbody : ∀ (cda cc : Addr) (A : Around) (outer : List Env) (s : Shared) (H : Hp) (vs : List V) (Q : VK) (E : XK), Room k (A.deeper (NdefX.envF (nfS x qual st cda cc) f s.heap.objs.size)) → SupX (NdefX.ncx CX P w K mg base N (nfS x qual st cda cc) f A outer s H E) C D sf → sp vs H Q E →
      ∃ t, PSst (NdefX.ncx CX P w K mg base N (nfS x qual st cda cc) f A outer s H E) (defBody st) (defBody st) t ∧ t { nx := fun _ H' => Q .non H', rt := Q } (NdefX.startF N vs [none]) H) :
    ∃ fd, FnOk P w K mg base CX (k + 1) f fd ps sp ∧ BdD K fd x qual st dvs := by
  obtain ⟨cda, cc, T, oc, kV, dc, pm, ct, od, an, sl, o1, o2, oT, vs, tf, its, m, l, hcd, h1, h2, h3, h4, h5, lT, eT, rT⟩ := F.ex
  refine ⟨_, ⟨len, fun A outer s H args us vs Q E hr e0 hb r hsp => ?_⟩, ⟨T, oT, its, m, kV, dc, pm, .ref cda, ct, an, cc, rfl, lT, eT, rT⟩⟩
  have hl := len _ _ _ _ hsp
  have KX : K.In s.heap := e0.mod.kin.keeps fun b o e => (e0.bs b o e).1
  have lim : s.heap.NoLimit := e0.mod.nolimit.keeps fun b o e => (e0.bs b o e).1
  refine PySem.ks_codeAny_call_defAt (body := defBody st) (binds := ps.zip us) hr.depth (KX _ _ l) rfl lim (PySem.W.codeRec_of KX hcd) rfl hb S.nocell (fun y hy => S.par y.1 (List.of_mem_zip hy).1) (fun h₁ hns hk => ?_) S.co S.gen S.kind
  have SX : SupX (NdefX.ncx CX P w K mg base N (nfS x qual st cda cc) f A outer s H E) C D sf := supX_of G SP U l rfl hp ha h1 h2 h3 h4 h5 n0 k1 (S.frk _ (by simp)) k3
  obtain ⟨t, ht, hq⟩ := hbody cda cc A outer s H vs Q E (hr.deeper _) SX hsp
  have I : Inv (NdefX.ncx CX P w K mg base N (nfS x qual st cda cc) f A outer s H E) [] (NdefX.startF N vs [none]) H { s with heap := h₁, toks := s.toks + (ps.zip us).length } := NdefX.inv_startN S hr.hd e0 hl r (cells_s e0 h1 h2) hns hk
  have fin : ∀ {σ' : L2.St} {H' : Hp} {v : V} {u : Value} {s' : Shared}, Inv (NdefX.ncx CX P w K mg base N (nfS x qual st cda cc) f A outer s H E) [] σ' H' s' → L2.RelV v u → Q v H' → CE outer P w H s Q u s' :=
    fun {σ' H' v u s'} J rv q => ⟨v, H', J.os, J.bare, J.base, J.hok, rv, q⟩
  refine PySem.ks_wpAt_mono (ht.run [] _ _ H _ I hq) (fun fl s' hs => ?_) (fun e s' hs => hs)
  cases fl with
  | ret u =>
    obtain ⟨v, σ', H', J, rv, q⟩ := hs
    exact fin J rv q
  | next =>
    obtain ⟨σ', H', J, q⟩ := hs
    exact fin (v := V.non) (u := Value.none) J rfl q
  | brk =>
    obtain ⟨_, _, _, q⟩ := hs
    exact False.elim q
  | cont =>
    obtain ⟨_, _, _, q⟩ := hs
    exact False.elim q
/-- all parameters but the last j defaults are written -/
theorem BdD.binds (b : BdD K fd x qual st dvs) (n j : Nat) (hn : n + (dvs.length - j) = ps.length)
    (h : ∀ (T : Addr) (kV doc pm : Value) (an : Option Addr) (cdv ct : Value) (cc : Addr) (us its : List Value), us.length = n → its.length = dvs.length →
      ∃ k, bindArgs (PySem.W.ksFn x qual (defArgs st) (defBody st) (defScope st) (.ref T) kV doc pm an cdv ct cc) ⟨us, []⟩ = seqItems? (.ref T) >>= k ∧ k (some its.toArray) = pure (ps.zip (us ++ its.drop j))) : ∃ ds, Vals (dvs.drop j) ds ∧ Binds K fd ps ds := by
  obtain ⟨T, o, its, m, kV, doc, pm, cdv, ct, an, cc, rfl, lT, oT, rT⟩ := b.ex
  refine ⟨its.drop j, rT.drop j, fun s us X hlen => ?_⟩
  have l1 : its.length = dvs.length := rT.length.symm
  have l2 : us.length = n := by
    rw [List.length_append, List.length_drop, l1] at hlen
    omega
  obtain ⟨k, e1, e2⟩ := h T kV doc pm an cdv ct cc us its l2 l1
  refine BindsTo.of_looks fun M => ?_
  rw [e1]
  exact looks_items X lT oT (.of_pure e2)
theorem BdD.kbinds (b : BdD K fd x qual st dvs) (n : Nat) (ks : List Str)
    (h : ∀ (T : Addr) (kV doc pm : Value) (an : Option Addr) (cdv ct : Value) (cc : Addr) (us its ws : List Value), us.length = n → its.length = dvs.length → ws.length = ks.length →
      ∃ k, bindArgs (PySem.W.ksFn x qual (defArgs st) (defBody st) (defScope st) (.ref T) kV doc pm an cdv ct cc) ⟨us, ks.zip ws⟩ = seqItems? (.ref T) >>= k ∧ k (some its.toArray) = pure (ps.zip (us ++ ws))) :
    KBn K fd ps n ks (fun us ws => us ++ ws) (fun vs zs => vs ++ zs) := by
  obtain ⟨T, o, its, m, kV, doc, pm, cdv, ct, an, cc, rfl, lT, oT, rT⟩ := b.ex
  refine ⟨fun s us ws X l1 l2 => ?_, fun r1 r2 => r1.append r2⟩
  obtain ⟨k, e1, e2⟩ := h T kV doc pm an cdv ct cc us its ws l1 rT.length.symm l2
  refine BindsTo.of_looks fun M => ?_
  rw [e1]
  exact looks_items X lT oT (.of_pure e2)
/-- __init__(self, a, b = v) -/
theorem BdD.b3 {p q r : Str} (b : BdD K fd x qual st [d]) (h : ∀ (T : Addr) (kV doc pm : Value) (an : Option Addr) (cdv ct : Value) (cc : Addr) (a1 a2 a3 e : Value),
      ∃ k, bindArgs (PySem.W.ksFn x qual (defArgs st) (defBody st) (defScope st) (.ref T) kV doc pm an cdv ct cc) ⟨[a1, a2, a3], []⟩ = seqItems? (.ref T) >>= k ∧ k (some #[e]) = pure ([p, q, r].zip [a1, a2, a3])) : Binds K fd [p, q, r] [] := by
  obtain ⟨ds, hv, hb⟩ := b.binds (ps := [p, q, r]) 3 1 rfl fun T kV doc pm an cdv ct cc us its l1 l2 => by
    match us, its, l1, l2 with
    | [a1, a2, a3], [e], _, _ => exact h T kV doc pm an cdv ct cc a1 a2 a3 e
  cases ds with
  | nil => exact hb
  | cons _ _ => exact absurd hv.length (by simp)
end
/-- what the head shows -/
theorem FsD.of {K : PySem.W.Frag} {D f cda cc T : Addr} {file x qual : Str} {st : Stmt} {oc kV dc pm ct cl1 cl2 cl3 e : Value} {od an od1 od2 od3 : Option Addr} {sl sl1 sl2 sl3 : Array (Option Value)} {vs : Array Value} {tf : Tok} {m : Nat} {dv : V}
    (l : K.lookup f = some ⟨oc, od, .func (PySem.W.ksFn x qual (defArgs st) (defBody st) (defScope st) (.ref T) kV dc pm an (.ref cda) ct cc), sl⟩) (c : PySem.W.codeIn K (.ref cda) qual = true)
    (h1 : K.lookup cc = some ⟨cl1, od1, .cell (some (.ref D)), sl1⟩) (h3 : K.lookup cda = some ⟨cl2, od2, .fields vs, sl2⟩) (h5 : vs[2]? = some (.str file tf)) (h6 : K.lookup T = some ⟨cl3, od3, .seq #[e] m, sl3⟩) (h7 : RelV dv e) (k : PySem.W.keepIn K (.ref f) = true) : FsD K D file x qual st [dv] f :=
  ⟨⟨cda, cc, T, oc, kV, dc, pm, ct, od, an, sl, _, _, _, vs, tf, [e], m, l, c, h1, rfl, h3, rfl, h5, h6, rfl, .cons h7 .nil⟩, k⟩
end Pl
namespace Pl
open PySem PySem.Spec PyProof.Rows L2
/-! The end of a law that asks repr and some of whose defs make lambdas. -/





section
variable {P : Program} {w : World} {K : PySem.W.Frag} {mg : Str → Option Value} {base : Heap} {x : Str} {st : Stmt} {N ps : List Str} {k : Nat} {sp : Sp} {c : Addr}


end
end Pl
namespace Pl
open PySem PySem.Spec PyProof.Rows L2
/-! The end of a law that makes lambdas itself. -/


section
variable {P : Program} {w : World} {K : PySem.W.Frag} {mg : Str → Option Value} {base : Heap} {st : Stmt} {N ps : List Str} {k : Nat} {sp : Sp} {c f : Addr} {fd : FuncData}

end
end Pl
/-! a generator that raises when it is walked first: for over its call -/
namespace GenZ
open PySem PySem.Spec PyProof.Rows L2
open Sem (wp)
/-- statements of a generator's body that raise ahead of the first yield -/
structure BS (X : Cx) (body : List Stmt) (t : L2.St → Hp → Prop) : Prop where
  run : ∀ (Φ : End → Shared → Prop) (A : Around) (c : Code) (fs : List Frame) (K : Flow → Sem PySem.Fin) (J : Value → Sem PySem.Fin) (gd : Bool → Bool) (lv : List Value → List Value) (s : Shared) (σ : L2.St) (H : Hp),
    A.over c fs = X.A → (∀ x s', X.xe x s' → S1 (model X.prog X.w) A Φ c (J x) fs s') → Inv X [] σ H s → t σ H → S1 (model X.prog X.w) A Φ c ((execs body X.env).wrap K J gd lv) fs s
section
variable {X : Cx} {st : Stmt} {rest body : List Stmt}
theorem bs_abs : BS X body (fun _ _ => False) := ⟨fun _ _ _ _ _ _ _ _ _ _ _ _ _ _ h => h.elim⟩
theorem bs_cons {t : TS} {u : L2.St → Hp → Prop} (h : PS X st t) (r : BS X rest u) : BS X (st :: rest) (fun σ H => t { nx := u, rt := fun _ _ => False } σ H) := by
  refine ⟨fun Φ A c fs K J gd lv s σ H hA hJ I ht => ?_⟩
  refine s1_cons (s1_wrap ?_)
  rw [hA]
  refine wpAny_mono (h.run [] s σ H _ I ht) (fun f s' hs => ?_) fun x s' hx => hJ x s' hx
  cases f with
  | next =>
    obtain ⟨σ', H', I', q⟩ := hs
    exact r.run Φ A c fs K J gd lv s' σ' H' hA hJ I' q
  | brk => obtain ⟨_, _, _, q⟩ := hs; exact q.elim
  | cont => obtain ⟨_, _, _, q⟩ := hs; exact q.elim
  | ret u => obtain ⟨_, _, _, _, _, q⟩ := hs; exact q.elim
end
/-- how the run ends -/
def BEnd (P : Program) (w : World) (outer : List Env) (H : Hp) (s : Shared) (E : XK) (a : Addr) (g : Nat) : End → Shared → Prop := fun e s1 => ∃ v, e = .ret (.error v) ∧ CX P w outer H s E v s1 ∧ s1.heap.IsGen a g
def BMade (P : Program) (w : World) (k : Nat) (outer : List Env) (H : Hp) (s : Shared) (E : XK) (u : Value) (s' : Shared) : Prop :=
  ∃ (a : Addr) (g : Nat) (c : Code), u = .ref a ∧ s'.heap.IsGen a g ∧ s'.gens[g]? = some (.fresh c) ∧ s'.heap.NoLimit ∧
    ∀ (A : Around), Room k A → A.frames = some outer → S1 (model P w) A (BEnd P w outer H s E a g) c ((model P w).den c) [] (s'.setGen g .running)
abbrev SpB := List V → Hp → XK → Prop
structure BFn (P : Program) (w : World) (K : PySem.W.Frag) (mg : Str → Option Value) (base : Heap) (k : Nat) (f : Addr) (fd : FuncData) (ps : List Str) (sp : SpB) : Prop where
  len : ∀ vs H E, sp vs H E → vs.length = ps.length
  run : ∀ (A : Around) (outer : List Env) (s : Shared) (H : Hp) (args : Args) (us : List Value) (vs : List V) (E : XK), Room k A → Env0 P w K mg base A outer s H → BindsTo s fd args (ps.zip us) → Vals vs us → sp vs H E →
    codeAny (model P w) A (.call (.ref f) args) (fun r s' => match r with | .ok (.ret u) => BMade P w k outer H s E u s' | _ => False) s
theorem bfn_of {P : Program} {w : World} {K : PySem.W.Frag} {mg : Str → Option Value} {base : Heap} {k : Nat} {f : Addr} {name qual : Str} {params : Arguments} {body : List Stmt} {scope : Scope} {dV kV doc pm cdv ct oc : Value} {an od : Option Addr}
    {osl : Array (Option Value)} {N ps : List Str} {sp : SpB} (lk : K.lookup f = some ⟨oc, od, .func (PySem.W.fnOf name qual params body scope dV kV doc pm an cdv ct), osl⟩) (hcd : PySem.W.codeIn K cdv qual = true) (S : GScope N ps scope)
    (len : ∀ vs H E, sp vs H E → vs.length = ps.length)
    (hbody : ∀ (A : Around) (outer : List Env) (s : Shared) (H : Hp) (vs : List V) (E : XK) (pn : List (Addr × Obj)), Room k (A.deeper (envOfC qual scope s.heap.objs.size f cdv)) → sp vs H E →
      ∃ t, BS (gcxOf P w K mg base N qual scope f cdv A outer s H E pn) body t ∧ t (start N vs) H) :
    BFn P w K mg base (k + 1) f (PySem.W.fnOf name qual params body scope dV kV doc pm an cdv ct) ps sp := by
  refine ⟨len, fun A outer s H args us vs E hr e0 hb r hsp => ?_⟩
  have hl := len _ _ _ hsp
  have KX : K.In s.heap := e0.mod.kin.keeps fun b o e => (e0.bs b o e).1
  have lim : s.heap.NoLimit := e0.mod.nolimit.keeps fun b o e => (e0.bs b o e).1
  have hkind : ∀ y ∈ ps.zip us, scope.names.lookup y.1 = some .local ∨ (scope.names.lookup y.1 = some .cell ∧ ((cellsFrom (s.heap.objs.size + 1) scope.names []).lookup y.1).isSome = true) := fun ⟨n, v⟩ hy => by
    rcases S.par n (List.of_mem_zip hy).1 with q | q
    · exact .inl q
    · exact .inr ⟨q, PySem.W.cellsFrom_some _ _ _ (.inl q)⟩
  refine codeAny_call_generator hr.depth (KX _ _ lk) rfl S.co S.gen rfl (PySem.W.codeRec_of KX hcd) (hb _ _ _ _ ?_)
  refine wpAny_newFunctionEnv_cells S.kind hkind fun env he s1 x => ?_
  subst he
  have lim1 : s1.heap.NoLimit := lim.keeps x.toInCall.keep
  refine ⟨lim1, ?_⟩
  obtain ⟨h1, tk, es1, hk1⟩ := x.done
  have os1 : s1.os = s.os := by rw [es1]
  have gen1 : s1.gens = s.gens := by rw [es1]
  have lt1 : s.heap.objs.size < s1.heap.objs.size := x.toInCall.ns.lt
  have kp1 : ∀ b o, s.heap.get? b = some o → s1.heap.get? b = some o := x.toInCall.keep
  have main : ∀ (go : Obj) (nm qn : Value) (tk2 : Nat), go.cls = .type "generator" → go.data = .fields #[.int s1.gens.size 0, nm, qn] → go.slots = #[] → (∀ h : Heap, (h.push go).get? h.objs.size = some go) →
      BMade P w (k + 1) outer H s E (.ref s1.heap.objs.size) { s1 with gens := s1.gens.push (.fresh (.func body (envOfC qual scope s.heap.objs.size f cdv))), toks := tk2, heap := s1.heap.push go } := by
    intro go nm qn tk2 hgc hgd0 hgs hgp
    have hgen : ∀ h : Heap, h.get? s1.heap.objs.size = some go → h.IsGen s1.heap.objs.size s1.gens.size := fun h e => ⟨go, nm, qn, e, hgc, hgd0, hgs⟩
    have hpushed : (s1.heap.push go).get? s1.heap.objs.size = some go := hgp _
    refine ⟨s1.heap.objs.size, s1.gens.size, _, rfl, hgen _ hpushed, Array.getElem?_push_size .., lim1.keeps fun b o e => Heap.get?_push_of_some _ e, fun Aw hrw hfr => ?_⟩
    have e0w : Env0 P w K mg base Aw outer s H := ⟨hfr, e0.mod, e0.bs, e0.bsz, e0.funs, e0.frf, e0.hok, e0.bare⟩
    obtain ⟨t, ht, hq⟩ := hbody Aw outer s H vs E [(s1.heap.objs.size, go)] (hrw.deeper _) hsp
    have I1 : Inv (gcxOf P w K mg base N qual scope f cdv Aw outer s H E []) [] (start N vs) H s1 := inv_startG S hrw.hd e0w hl r x
    have ba : AllBare (s1.gens.push (.fresh (.func body (envOfC qual scope s.heap.objs.size f cdv)))) := AllBare.push (by rw [gen1]; exact e0.bare) rfl
    have ba2 := allBare_setGen (s := { s1 with gens := s1.gens.push (.fresh (.func body (envOfC qual scope s.heap.objs.size f cdv))), toks := tk2, heap := s1.heap.push go }) (g := s1.gens.size) (x := .running) ba rfl
    generalize hs2 : ({ s1 with gens := s1.gens.push (.fresh (.func body (envOfC qual scope s.heap.objs.size f cdv))), toks := tk2, heap := s1.heap.push go } : Shared).setGen s1.gens.size .running = s2 at ba2 ⊢
    have kp2 : ∀ b o, s1.heap.get? b = some o → s2.heap.get? b = some o := by rw [← hs2]; exact fun b o e => Heap.get?_push_of_some _ e
    have os2 : s2.os = s1.os := by rw [← hs2]; rfl
    have at2 : s2.heap.get? s1.heap.objs.size = some go := by rw [← hs2]; exact hpushed
    have I2 : Inv (gcxOf P w K mg base N qual scope f cdv Aw outer s H E []) [] (start N vs) H s2 :=
      I1.call' (ch := []) os2 (Un.kept kp2) (I1.hok.kept kp2) ba2 fun b z => by simp at z
    have I3 : Inv (gcxOf P w K mg base N qual scope f cdv Aw outer s H E [(s1.heap.objs.size, go)]) [] (start N vs) H s2 := Inv.pinnedG I2 fun p hp => by
      rw [List.append_nil, List.mem_singleton] at hp
      rw [hp]
      exact ⟨at2, I1.hok.fresh (Nat.le_refl _), Nat.ne_of_gt lt1, I1.nofs (Nat.le_refl _), fun v q => by rw [hgd0] at q; cases q⟩
    refine s1_func ?_
    refine ht.run _ Aw _ [] _ _ id id s2 (start N vs) H GenW.over_func (fun e s' hx => ?_) I3 hq
    refine s1_wrap ?_
    rw [GenW.over_func]
    refine wpAny_mono (show wpAny (model P w) (Aw.deeper (envOfC qual scope s.heap.objs.size f cdv)) (leaving (envOfC qual scope s.heap.objs.size f cdv) e) (fun _ s'' => CX P w outer H s E e s'' ∧ ∀ p ∈ [(s1.heap.objs.size, go)], s''.heap.get? p.1 = some p.2) (fun _ _ => False) s' from hx) (fun _ s'' q => ?_) fun _ s'' q => q.elim
    exact s1_end (.error e) ⟨e, rfl, q.1, hgen _ (q.2 _ (List.mem_singleton.mpr rfl))⟩
  exact main _ _ _ _ rfl rfl rfl fun h => Heap.get?_push_size _ rfl
/-- next of a generator that raises at once -/
theorem nextB {P : Program} {w : World} {A : Around} {E : Value → Shared → Prop} {s : Shared} {a : Addr} {g : Nat} {gs : GenState} {Φ : End → Shared → Prop} {Q : Option Value → Shared → Prop} (hl : s.heap.NoLimit) (hroom : A.depth < recursionLimit)
    (hg : s.heap.IsGen a g) (hgs : s.gens[g]? = some gs) (hr : Ready (model P w) A.in1 Φ (s.setGen g .running) gs)
    (hE : ∀ e s₁, Φ e s₁ → ∃ v, e = .ret (.error v) ∧ s₁.heap.IsGen a g ∧ NotStop (model P w) v s₁.heap ∧ E v (s₁.setGen g .finished)) :
    wpAny (model P w) A (pyNext (.ref a)) Q E s := by
  unfold pyNext
  refine wpAny_bind (wpAny_attempt (wpAny_callSpecial?_slot (name := Str.ofString "__next__") hg.typeIs slot_gen_next (wpAny_call_entry slot_gen_next hg.typeIs entry_gen_next ?_ (args_gen_next _))))
  show wpAny _ A.in1 (Builtin.Generator.genWake (.ref a) (.send .none)) _ _ s; unfold Builtin.Generator.genWake
  refine wpAny_bind (wpAny_holding (wpAny_genNumber hg (wpAny_bind (wpAny_genState hgs ?_)))); have hr0 := hr
  cases gs with
  | running => exact hr.elim
  | finished => exact hr.elim
  | _ =>
    refine wpAny_bind (wpAny_roomToWake hl hroom ?_); show wpAny _ A.in1 (.resume g (.send .none) [] _) _ _ s
    refine wpAny_wake hgs hr0 fun e s₁ he => ?_
    obtain ⟨v, rfl, hg1, hns, hq⟩ := hE e s₁ he
    refine ⟨rfl, ?_⟩
    obtain ⟨o, nm, qn, ho, hc, hd, hsl⟩ := hg1
    show wpAny _ A.in1 (Builtin.Generator.genLeft (.ref a) v) _ _ _
    unfold Builtin.Generator.genLeft Builtin.Generator.madeByALambda
    refine wpAny_bind (wpAny_bind (wpAny_load (o := o) ho (wpAny_pure ?_)))
    refine wpAny_bind (hns _ _ _ _ rfl ?_)
    rw [Bool.and_false, if_neg Bool.false_ne_true]
    unfold Builtin.Generator.genEscaped
    first
      | refine wpAny_bind (hns _ _ _ _ rfl ?_)
      | refine wpAny_bind (wpAny_pure (wpAny_bind (hns _ _ _ _ rfl ?_)))
    rw [if_pos (show (!false) = true from rfl)]
    first
      | refine wpAny_throw ?_
      | refine wpAny_bind (wpAny_throw ?_)
    refine wpAny_bind (hns _ _ _ _ rfl ?_)
    rw [if_neg Bool.false_ne_true]
    exact wpAny_throw hq
end GenZ
namespace Pl
open PySem PySem.Spec PyProof.Rows L2 GenZ
structure CalB (P : Program) (w : World) (K : PySem.W.Frag) (mg : Str → Option Value) (base : Heap) (k : Nat) (x : Str) (ps : List Str) (sp : SpB) : Prop where
  ex : ∃ f fd, BFn P w K mg base k f fd ps sp ∧ mg x = some (.ref f) ∧ PySem.W.keepIn K (.ref f) = true ∧ Binds K fd ps []
section
variable {P : Program} {w : World} {K : PySem.W.Frag} {mg : Str → Option Value} {base : Heap} {x : Str} {st : Stmt} {N ps : List Str} {k : Nat}
theorem Df.calB {sp : SpB} (D : Df K mg x st ps) (S : GScope N ps (defScope st)) (len : ∀ vs H E, sp vs H E → vs.length = ps.length)
    (bod : ∀ (f : Addr) (cdv : Value) (A : Around) (out : List Env) (s : Shared) (H : Hp) (vs : List V) (E : XK) (pn : List (Addr × Obj)), Room k (A.deeper (envOfC x (defScope st) s.heap.objs.size f cdv)) → sp vs H E →
      ∃ t, BS (gcxOf P w K mg base N x (defScope st) f cdv A out s H E pn) (defBody st) t ∧ t (start N vs) H) : CalB P w K mg base (k + 1) x ps sp := by
  obtain ⟨f, fd, F, hm, hb⟩ := D.ex
  have kp := F.kp
  obtain ⟨oc, od, kV, doc, pm, an, cdv, ct, osl, rfl, lk, hcd⟩ := F.ex
  exact ⟨f, _, bfn_of lk hcd S len fun A out s H vs E pn rm h => bod f cdv A out s H vs E pn rm h, hm, kp, hb⟩
end
section
variable {X : Cx} {k : Nat} {x : Str} {ps : List Str} {sp : SpB} {p pos pos' : Pos} {e tg : Expr} {es : List Expr} {body : List Stmt} {t : TA} {E : XK}
theorem kin_of {pins : List (Addr × Obj)} {σ : L2.St} {H1 : Hp} {s1 s' : Shared} {v : Value} (I1 : Inv X pins σ H1 s1) (hc : L2.CX X.prog X.w X.stack H1 s1 E v s') : X.K.In s'.heap := by
  obtain ⟨a, B, H', cls, d, _, fl, _, ub, _⟩ := id hc
  refine I1.ok.mod.kin.keeps fun b o eb => fl.1 b o (ub.keep b o (I1.bs b o eb).1 (I1.bs b o eb).2 fun hm => ?_)
  rcases List.mem_cons.mp (I1.stkSub b hm) with z | z
  · have h1 := Heap.lt_size eb
    have h2 := Nat.le_trans I1.ok.bsz I1.ok.above
    rw [z] at h1
    exact absurd (Nat.lt_of_lt_of_le h1 h2) (Nat.lt_irrefl _)
  · exact I1.ok.nofr eb z
/-- for over a call of a generator def that raises at once -/
theorem ps_forB (hp : PassesOwn (model X.prog X.w) X.A X.env X.xe) (c : CalB X.prog X.w X.K X.mg X.base k x ps sp) (hx : Passes (L2.CX X.prog X.w) X E) (hns : NoStop X.K E) (hr : Room (k + 1) X.A) (ha : PA X (e :: es) t) (gl : Gl X x := by rfl) (hdb : (x == ("__debug__" : Str)) = false := by decide)
    (he : starEach (e :: es) X.env = (false, eval e X.env) :: starEach es X.env := by rfl) (hpl : (backTo pos' (starEach es X.env)).any (·.1) = false := by rfl) (hs : ∀ v, foldedSetIterable (.Call (.Name x p) (e :: es) [] pos') X.env v = pure v := by intro _; rfl) (ht : ∀ it v, letOwnedTupleGo tg it v = pure () := by intro _ _; rfl) :
    PS X (.For tg (.Call (.Name x p) (e :: es) [] pos') body [] pos) (fun _ σ H => t σ H fun vs H1 => sp vs H1 E) := by
  obtain ⟨f, fd, F, hm, kp, hbd⟩ := c.ex
  refine ⟨fun pins s σ H D I h => ?_⟩
  refine wpAny_For (wpAny_Call_Name_kw (ld_glob I gl hm ?_ hdb)) hs
  refine PySem.W.callWith_K (h₀ := X.base) I.ok.mod.kin kp (thn (ha.run pos' pins s σ H _ I h) ?_) he hpl
  rintro us s1 ⟨vs, H1, I1, r, hsp⟩
  refine ⟨I1.kIn, ?_⟩
  have hl : us.length = ps.length := by rw [← r.length]; exact F.len _ _ _ hsp
  have bt : BindsTo s1 fd ⟨us, []⟩ (ps.zip us) := by simpa using hbd s1 us I1.kIn (by simpa using hl)
  refine wpAny_call (codeAny_mono (F.run X.A X.stack s1 H1 ⟨us, []⟩ us vs E (hr.mono (Nat.le_succ k)) I1.env0 bt r hsp) fun res s' z => ?_)
  match res, z with
  | .ok (.ret u), z =>
    obtain ⟨a, g, cc, rfl, hg, hgs, hlm, start⟩ := z
    have frA : X.A.in1.frames = some X.stack := I1.ok.frames
    show wpAny _ _ (pyIter (.ref a)) _ _ s'
    refine wpAny_pyIter_gen hg ?_
    refine codeAny_forLoop (fun j s3 => s3 = s') ?_ 0 rfl (ht _)
    rintro j s3 rfl
    refine wpAny_passesOwn hp (nextB hlm (by have := hr.dp; omega) hg hgs (start X.A.in1 hr.in1 frA) fun e1 s₁ he1 => ?_)
    obtain ⟨v, rfl, hc, hg1⟩ := he1
    refine ⟨v, rfl, hg1, notStop_of hns (kin_of I1 hc) hc, hx pins σ H1 s1 v _ I1 ?_⟩
    obtain ⟨a', B, H', cls, d, z1, fl, z2, ub, z3, z4, z5, z6⟩ := hc
    exact ⟨a', B, H', cls, d, z1, fl, z2, ub, z3, z4, allBare_setGen z5 rfl, z6⟩
  | .ok .next, z => exact False.elim z
  | .ok .brk, z => exact False.elim z
  | .ok .cont, z => exact False.elim z
  | .error er, z => exact False.elim z
/-- what follows a statement that always raises -/
theorem pss_abs {st : List Stmt} : PSs X st (fun _ _ _ => False) := ⟨fun _ _ _ _ _ _ h => h.elim⟩
/-- list(x(e, ..)), x a generator def that raises -/
theorem pe_listX {q : Pos} {sp : SpG} (c : CalL X.prog X.w X.K X.mg X.base k x ps sp) (hx : Passes (L2.CX X.prog X.w) X E) (hns : NoStop X.K E) (hr : Room (k + 3) X.A) (hml : X.mg "list" = none) (ha : PA X (e :: es) t) (hgl : Gl X "list" := by rfl) (hg : Gl X x := by rfl) (hdb : (x == ("__debug__" : Str)) = false := by decide)
    (he : starEach (e :: es) X.env = (false, eval e X.env) :: starEach es X.env := by rfl) (hpl : (backTo pos' (starEach es X.env)).any (·.1) = false := by rfl)
    (he1 : starEach [.Call (.Name x p) (e :: es) [] pos'] X.env = (false, eval (.Call (.Name x p) (e :: es) [] pos') X.env) :: starEach [] X.env := by rfl) :
    PE X (.Call (.Name "list" q) [.Call (.Name x p) (e :: es) [] pos'] [] pos) (tListG (tCallG sp [] E t)) := by
  obtain ⟨f, fd, F, hm, kp, hb⟩ := c.ex
  exact pe_listG (pgen_call F (hr.mono (by omega)) hg hm kp hb .nil ha hdb he hpl) hx hns hr hgl hml rfl (by decide) (by decide) he1
end
end Pl
/-! The head by one kernel run, what stands behind it seen as k_head's hooks see it: nothing of the top is written out. -/
namespace Pl
open PySem PySem.W PySem.Calls PyProof.Rows HandSHeadRun
def obKm (as ts : List Addr) (s : SharedT) : List (Option Obj) × List (Option Obj) := (as.map (getT s), ts.map (getT s))

theorem getT_fun (s : SharedT) : getT s = s.abs.heap.get? := funext fun a => getT_eq s a
section
variable {r : OpenRow} {q : Program} {M : Nat} {loose : List PySem.Str} {d : DefRec} {kwd : List (PySem.Str × PySem.Expr)} {K : Params → Frag} {as ts : List Addr} {e : ∀ P, as = (K P).map (·.1)}
theorem head_km (H : Hook) (hH : H = kmHook K as e ts) (op : opening r.prog = plainProg r.prog.main.scope.names) (f : ∀ s, fenceModules? r.prog s = some s) (run : ∀ w, RunEq r q (kmHook K as e ts) (obKm as ts) M loose w)
    (hdef : defOf q r.name = some (d, kwd)) (hp : r.prog.theDef r.name = some (d.params, d.body, d.scope)) (hk : kwWritten? d.params.kwonlyargs d.params.kw_defaults = some kwd)
    (hwr : (!r.writes || r.records.isEmpty) = true) (k1 : r.wellSaid = true) (ok : (chainsOk q && opensWell r.prog && (frees r.toRowW && r.within.isEmpty)) = true) (hb : r.prog.bare) (hw : r.toRowW.promised)
    (call : WalkO q loose (XL q []) (kmHook K as e ts).says r.toRowW d kwd fun f vs => PySem.call f vs) : r.Holds :=
  head_any (H := kmHook K as e ts) (ob := obKm as ts) (fun s => by show (_, _) = (_, _); rw [getT_fun]) op f run hdef hp hk hwr k1 ok hb hw call

end
end Pl
namespace Pl
open PySem PySem.Spec PyProof.Rows L2
def top (i : Nat) : Stmt := PySem.Challenge.pw_poolshares_k11_wrong_arguments.main.body.getD i (.Pass ⟨0, 0, 0, 0⟩)
/-- a source of numbers stands at a -/
def Src (H : Hp) (a : Addr) : Prop := ∃ x y z : Int, H a = some (.lst [.int x, .int y, .int z]) ∧ 0 ≤ x ∧ 0 ≤ y ∧ y < 2147483648 ∧ 0 ≤ z
theorem Src.upd {H : Hp} {a p : Addr} {o : HO} (s : Src H a) (n : H p = none) : Src (L2.upd H p o) a := by
  obtain ⟨x, y, z, h, r⟩ := s
  exact ⟨x, y, z, by rw [upd_ne (ne_of_none h n)]; exact h, r⟩
theorem Src.put {H : Hp} {a p : Addr} {o : HO} (s : Src H a) (n : p ≠ a) : Src (L2.upd H p o) a := by
  obtain ⟨x, y, z, h, r⟩ := s
  exact ⟨x, y, z, by rw [upd_ne n.symm]; exact h, r⟩
theorem Src.ne {H : Hp} {a p : Addr} (s : Src H a) (n : H p = none) : p ≠ a := by
  obtain ⟨x, y, z, h, r⟩ := s
  intro e
  rw [e, h] at n
  cases n
theorem Src.neT {H : Hp} {a p : Addr} {xs : List V} (s : Src H a) (n : H p = some (.tup xs)) : p ≠ a := by
  obtain ⟨x, y, z, h, r⟩ := s
  intro e
  rw [e, h] at n
  cases n


/-- all that was tracked stands as before, but for what is at a -/
def Kp (a : Addr) (H H' : Hp) : Prop := ∀ b o, b ≠ a → H b = some o → H' b = some o
theorem Kp.refl (a : Addr) (H : Hp) : Kp a H H := fun _ _ _ h => h
theorem Kp.trans {a : Addr} {H H1 H2 : Hp} (p : Kp a H H1) (q : Kp a H1 H2) : Kp a H H2 := fun b o n h => q b o n (p b o n h)
theorem Kp.of {a : Addr} {H H' : Hp} (p : Same H H') : Kp a H H' := fun b o _ h => p b o h
theorem Kp.upd {a : Addr} {H : Hp} {o : HO} : Kp a H (upd H a o) := fun b u n h => by rw [upd_ne n]; exact h
theorem Kp.new {a p : Addr} {H H' : Hp} {o : HO} (q : Kp a H H') (h : H' p = none) : Kp a H (L2.upd H' p o) := fun b u n e => by
  rw [upd_ne (ne_of_none (q b u n e) h)]; exact q b u n e
/-- what was not there before may be written -/
theorem Kp.put {a p : Addr} {H H' : Hp} {o : HO} (q : Kp a H H') (h : H p = none) : Kp a H (L2.upd H' p o) := fun b u n e => by
  rw [upd_ne (ne_of_none e h)]; exact q b u n e
theorem same_new {p : Addr} {H H' : Hp} {o : HO} (q : Same H H') (h : H' p = none) : Same H (L2.upd H' p o) := fun b u e => by
  rw [upd_ne (ne_of_none (q b u e) h)]; exact q b u e
theorem same_put {p : Addr} {H H' : Hp} {o : HO} (q : Same H H') (h : H p = none) : Same H (L2.upd H' p o) := fun b u e => by
  rw [upd_ne (ne_of_none e h)]; exact q b u e
theorem Kp.free {a p : Addr} {H H' : Hp} (q : Kp a H H') (n : p ≠ a) (h : H' p = none) : H p = none := by
  cases e : H p with
  | none => rfl
  | some o =>
    rw [q p o n e] at h
    cases h
theorem tyes {σ : L2.St} {H : Hp} {A B : Hp → Prop} (h : A H) : tYes σ H (fun b H3 => if b = true then A H3 else B H3) := by
  show if true = true then A H else B H
  rw [if_pos rfl]; exact h
theorem size_of {n : Nat} (h : n ≤ 1000) : n ≤ sizeLine := Nat.le_trans h (by decide)
theorem size_lt {n : Nat} (h : n ≤ 1000) : n < sizeLine := Nat.lt_of_le_of_lt h (by decide)
theorem at_of_lt {α : Type} {xs : List α} {r : Int} (h0 : 0 ≤ r) (h1 : r < xs.length) : ∃ v, v ∈ xs ∧ xs[r.toNat]? = some v ∧ atI xs r = some v := by
  have lt : r.toNat < xs.length := by omega
  have e : xs[r.toNat]? = some xs[r.toNat] := List.getElem?_eq_getElem lt
  refine ⟨xs[r.toNat], List.getElem_mem lt, e, ?_⟩
  have q := atI_nat e
  rw [Int.toNat_of_nonneg h0] at q
  exact q
/-- the built-in names are the built-in ones -/
structure Bn (mg : Str → Option Value) : Prop where
  n_len : mg "len" = none
  n_range : mg "range" = none
  n_max : mg "max" = none
  n_min : mg "min" = none
  n_sum : mg "sum" = none
  n_sorted : mg "sorted" = none
  n_all : mg "all" = none
  n_isinstance : mg "isinstance" = none
  n_repr : mg "repr" = none
  n_tuple : mg "tuple" = none
  n_list : mg "list" = none
  n_int : mg "int" = none
  n_bool : mg "bool" = none
  n_zip : mg "zip" = none
  n_str : mg "str" = none
def spDraw : Sp := fun vs H Q _ => ∃ (a : Addr) (m : Int), vs = [.ref a, .int m] ∧ Src H a ∧ 0 < m ∧ m ≤ 1000000 ∧
  ∀ (r : Int) (H' : Hp), 0 ≤ r → r < m → Src H' a → Kp a H H' → Q (.int r) H'
def spCell (K : PySem.W.Frag) : Sp := fun vs H Q _ => ∃ (a : Addr) (ns : List Int) (i : Int), vs = [.ref a, .int i] ∧ SqL K H a (ns.map V.int) ∧ 0 ≤ i ∧ ∀ n : Int, Q (.int n) H
def spSource : Sp := fun vs H Q _ => ∃ c : Int, vs = [.int c] ∧ ∀ (p : Addr) (H' : Hp), H p = none → Src H' p → Same H H' → Q (.ref p) H'
def spChoose : Sp := fun vs H Q _ => ∃ (a l : Addr) (xs : List V), vs = [.ref a, .ref l] ∧ Src H a ∧ H l = some (.lst xs) ∧ l ≠ a ∧ 0 < xs.length ∧ xs.length ≤ 1000 ∧
  ∀ (v : V) (H' : Hp), v ∈ xs → Src H' a → Kp a H H' → Q v H'
/-- the ints are amounts -/
def Am (ns : List Int) : Prop := ∀ r ∈ ns, 0 ≤ r ∧ r ≤ 30
def spAmounts : Sp := fun vs H Q _ => ∃ (a : Addr) (n : Nat), vs = [.ref a, .int n] ∧ Src H a ∧ 2 ≤ n ∧ n ≤ 6 ∧
  ∀ (p : Addr) (ns : List Int) (H' : Hp), ns.length = n → Am ns → Src H' a → Kp a H H' → H' p = some (.tup (ns.map V.int)) → Q (.ref p) H'
/-- a list of amounts grows at D -/
def AInv (a D : Addr) (H1 : Hp) (i : Nat) (H : Hp) : Prop := ∃ ns : List Int, ns.length = i ∧ Am ns ∧ Src H a ∧ Kp a H1 H ∧ H D = some (.lst (ns.map V.int))
theorem AInv.start {a D : Addr} {H1 : Hp} (s : Src H1 a) (n : H1 D = none) : AInv a D H1 0 (L2.upd H1 D (.lst [])) :=
  ⟨[], rfl, fun _ h => (nomatch h), s.upd n, (Kp.refl a H1).new n, upd_same⟩
theorem AInv.src {a D : Addr} {H1 H : Hp} {i : Nat} (p : AInv a D H1 i H) : Src H a := p.elim fun _ q => q.2.2.1
theorem AInv.next {a D : Addr} {H1 H H' : Hp} {i : Nat} {r : Int} (p : AInv a D H1 i H) (hi : i ≤ 100) (n : H1 D = none) (da : D ≠ a) (s : Src H' a) (k : Kp a H H') (r0 : 0 ≤ r) (r1 : r ≤ 30) :
    ∃ acc, H' D = some (.lst acc) ∧ acc.length < sizeLine ∧ AInv a D H1 (i + 1) (L2.upd H' D (.lst (acc ++ [.int r]))) := by
  obtain ⟨ns, e, am, _, kp, hd⟩ := p
  refine ⟨ns.map V.int, k _ _ da hd, size_lt (by rw [List.length_map]; omega), ns ++ [r], ?_, ?_, s.put da, (kp.trans k).put n, ?_⟩
  · rw [List.length_append, e]; rfl
  · intro x hx
    rcases List.mem_append.mp hx with h | h
    · exact am x h
    · rw [List.mem_singleton.mp h]; exact ⟨r0, r1⟩
  · rw [upd_same, List.map_append]; rfl
section
variable {P : Program} {w : World} {K : PySem.W.Frag} {mg : Str → Option Value} {base : Heap}
abbrev st_l_cell : Stmt := top 81
theorem sc_l_cell : FnScope ["_law_script", "_law_index"] ["_law_script", "_law_index"] (defScope st_l_cell) := ⟨rfl, rfl, rfl, by decide +kernel, rfl, by decide +kernel, by decide +kernel⟩
theorem ok_cell (B : Bn mg) (D : Df K mg "_law_cell" st_l_cell ["_law_script", "_law_index"]) : Cal P w K mg base 2 "_law_cell" ["_law_script", "_law_index"] (spCell K) := by
  refine D.cal sc_l_cell (fun vs H Q E h => ?_) (fun f cdv A out s H vs Q E hr h => ?_)
  · obtain ⟨a, ns, i, rfl, _⟩ := h
    rfl
  obtain ⟨a, ns, i, rfl, sq, i0, k⟩ := h
  refine ⟨_, (pss_cons (ps_if (pt_cmpR op_lt (pv 1) (pe_callB call_len_seq (by rfl) B.n_len (by decide +kernel) (pa_cons (pv 0) pa_nil)) (nomark _)) (pss_one (ps_ret (pe_ix ix_list (pv 0) (pv 1) (fun _ _ => rfl)))) pss_nil)
   (pss_one (ps_ret pe_int))), ?_⟩
  refine ⟨_, rfl, _, rfl, a, _, rfl, .inl sq, _, _, rfl, rfl, _, rfl, ?_⟩
  refine ite2 (fun c => ?_) (fun c => k 0)
  have c2 : i < ((ns.map V.int).length : Int) := of_decide_eq_true c
  obtain ⟨v, hv, _, e⟩ := at_of_lt i0 c2
  obtain ⟨m, _, rfl⟩ := List.mem_map.mp hv
  exact ⟨_, rfl, _, rfl, a, _, _, _, rfl, rfl, sq, e, k m⟩
abbrev st_l_source : Stmt := top 82
theorem sc_l_source : FnScope ["_law_cell_here"] ["_law_cell_here"] (defScope st_l_source) := ⟨rfl, rfl, rfl, by decide +kernel, rfl, by decide +kernel, by decide +kernel⟩
theorem ok_source (B : Bn mg) (D : Df K mg "_law_source" st_l_source ["_law_cell_here"]) : Cal P w K mg base 2 "_law_source" ["_law_cell_here"] spSource := by
  refine D.cal sc_l_source (fun vs H Q E h => ?_) (fun f cdv A out s H vs Q E hr h => ?_)
  · obtain ⟨c, rfl, _⟩ := h
    rfl
  obtain ⟨c, rfl, k⟩ := h
  refine ⟨_, (pss_one (ps_ret (pe_lst (pa_cons (pe_callB (call_max2 rfl) (by rfl) B.n_max (by decide +kernel) (pa_cons pe_int (pa_cons (pe_op op_sub (pv 0) (pe_op op_pow pe_int pe_int)) pa_nil))) (pa_cons (pe_op op_add (pe_op op_mod (pv 0) pe_int) pe_int) (pa_cons pe_int pa_nil)))))), ?_⟩
  refine ⟨_, rfl, _, _, rfl, rfl, ⟨by decide, by decide, by decide⟩, _, _, rfl, rfl, _, _, rfl, _, rfl, _, _, rfl, rfl, (by show (0 : Int) < 2147483629; decide), _, _, rfl, rfl, (by show 3 ≤ sizeLine; decide), fun p hp => ?_⟩
  refine k p _ hp ⟨_, _, _, upd_same, ?_, ?_, ?_, by decide⟩ (same_new (Same.refl H) hp)
  · split <;> omega
  · have := Int.emod_nonneg c (show (2147483629 : Int) ≠ 0 by decide)
    show 0 ≤ c % 2147483629 + 1
    omega
  · have := Int.emod_lt_of_pos c (show (0 : Int) < 2147483629 by decide)
    show c % 2147483629 + 1 < 2147483648
    omega
abbrev st_l_draw : Stmt := top 83
theorem sc_l_draw : FnScope ["_law_source_here", "_law_many", "_law_found", "_law_mixed_here"] ["_law_source_here", "_law_many"] (defScope st_l_draw) := ⟨rfl, rfl, rfl, by decide +kernel, rfl, by decide +kernel, by decide +kernel⟩
theorem ok_draw (D : Df K mg "_law_draw" st_l_draw ["_law_source_here", "_law_many"]) : Cal P w K mg base 2 "_law_draw" ["_law_source_here", "_law_many"] spDraw := by
  refine D.cal sc_l_draw (fun vs H Q E h => ?_) (fun f cdv A out s H vs Q E hr h => ?_)
  · obtain ⟨a, m, rfl, _⟩ := h
    rfl
  obtain ⟨a, m, rfl, ⟨x, y, z, ha, x0, y0, y1, z0⟩, m0, m1, k⟩ := h
  refine ⟨_, (pss_cons (ps_if (pt_cmpR op_gt (pe_ix ix_list (pv 0) pe_int (fun _ _ => rfl)) pe_int (nomark _)) (pss_cons (ps_set (i := 2) sc_l_draw.nd rfl (.inl rfl) (pe_op op_mod (pe_ix ix_list (pv 0) pe_int (fun _ _ => rfl)) (pv 1)))
   (pss_cons (ps_asg (pe_op op_fdiv (pe_ix ix_list (pv 0) pe_int (fun _ _ => rfl)) (pv 1)) (pg_sub (pv 0) pe_int set_list))
   (pss_one (ps_ret (pv 2))))) pss_nil)
   (pss_cons (ps_asg (pe_op op_add (pe_ix ix_list (pv 0) pe_int (fun _ _ => rfl)) pe_int) (pg_sub (pv 0) pe_int set_list))
   (pss_cons (ps_asg (pe_op op_mod (pe_op op_add (pe_op op_add (pe_op op_mul (pe_ix ix_list (pv 0) pe_int (fun _ _ => rfl)) pe_int) (pe_op op_mul pe_int (pe_ix ix_list (pv 0) pe_int (fun _ _ => rfl)))) pe_int) pe_int) (pg_sub (pv 0) pe_int set_list))
   (pss_cons (ps_set (i := 3) sc_l_draw.nd rfl (.inl rfl) (pe_op op_mod (pe_op op_add (pe_op op_add (pe_op op_mul (pe_ix ix_list (pv 0) pe_int (fun _ _ => rfl)) (pe_ix ix_list (pv 0) pe_int (fun _ _ => rfl))) (pe_op op_mul pe_int (pe_ix ix_list (pv 0) pe_int (fun _ _ => rfl)))) pe_int) pe_int))
   (pss_cons (ps_set (i := 3) sc_l_draw.nd rfl (.inl rfl) (pe_op op_mod (pe_op op_add (pe_op op_mul (pv 3) (pv 3)) (pe_op op_mul pe_int (pv 3))) pe_int))
   (pss_one (ps_ret (pe_op op_mod (pe_op op_fdiv (pv 3) pe_int) (pv 1))))))))), ?_⟩
  refine ⟨_, rfl, a, _, _, _, rfl, rfl, SqL.of ha, rfl, _, _, rfl, rfl, _, rfl, ?_⟩
  refine ite2 (fun c => ?_) (fun c => ?_)
  · refine ⟨_, rfl, a, _, _, _, rfl, rfl, SqL.of ha, rfl, _, rfl, _, _, rfl, rfl, m0, ?_⟩
    refine ⟨_, rfl, a, _, _, _, rfl, rfl, SqL.of ha, rfl, _, rfl, _, _, rfl, rfl, ⟨m0, by omega⟩, ?_⟩
    refine ⟨_, rfl, a, _, _, _, rfl, rfl, ha, rfl, ?_⟩
    refine ⟨_, rfl, k _ _ (Int.emod_nonneg _ (by omega)) (Int.emod_lt_of_pos _ m0) ⟨_, _, _, upd_same, Int.ediv_nonneg x0 (by omega), y0, y1, z0⟩ Kp.upd⟩
  · refine ⟨_, rfl, a, _, _, _, rfl, rfl, SqL.of ha, rfl, _, _, rfl, rfl, ?_⟩
    refine ⟨_, rfl, a, _, _, _, rfl, rfl, ha, rfl, ?_⟩
    generalize hH1 : upd H a _ = H1
    have h1 : H1 a = some (.lst [.int x, .int y, .int (z + 1)]) := by rw [← hH1]; exact upd_same
    have q1 : Kp a H H1 := by rw [← hH1]; exact Kp.upd
    refine ⟨_, rfl, a, _, _, _, rfl, rfl, SqL.of h1, rfl, _, _, rfl, rfl, .inl ⟨by omega, by omega⟩, _, rfl, a, _, _, _, rfl, rfl, SqL.of h1, rfl, _, _, rfl, rfl, .inl ⟨by decide, by decide⟩, _, _, rfl, rfl, _, _, rfl, rfl, _, _, rfl, rfl, (by show (0 : Int) < 2147483647; decide), ?_⟩
    refine ⟨_, rfl, a, _, _, _, rfl, rfl, h1, rfl, ?_⟩
    generalize hy : (y * 48271 + 1009 * (z + 1) + 7) % 2147483647 = y'
    have b0 : 0 ≤ y' := by rw [← hy]; exact Int.emod_nonneg _ (by decide)
    have b1 : y' < 2147483647 := by rw [← hy]; exact Int.emod_lt_of_pos _ (by decide)
    generalize hH2 : upd H1 a _ = H2
    have h2 : H2 a = some (.lst [.int x, .int y', .int (z + 1)]) := by rw [← hH2, ← hy]; exact upd_same
    have q2 : Kp a H H2 := by rw [← hH2]; exact q1.trans Kp.upd
    refine ⟨_, rfl, a, _, _, _, rfl, rfl, SqL.of h2, rfl, _, rfl, a, _, _, _, rfl, rfl, SqL.of h2, rfl, _, _, rfl, rfl, .inl ⟨by omega, by omega⟩, _, rfl, a, _, _, _, rfl, rfl, SqL.of h2, rfl, _, _, rfl, rfl, .inl ⟨by decide, by decide⟩, _, _, rfl, rfl, _, _, rfl, rfl, _, _, rfl, rfl, (by show (0 : Int) < 2147483629; decide), ?_⟩
    generalize hu : (y' * y' + 69621 * y' + 11) % 2147483629 = u
    have u0 : 0 ≤ u := by rw [← hu]; exact Int.emod_nonneg _ (by decide)
    have u1 : u < 2147483629 := by rw [← hu]; exact Int.emod_lt_of_pos _ (by decide)
    refine ⟨_, rfl, _, rfl, _, _, rfl, rfl, .inl ⟨by omega, by omega⟩, _, rfl, _, _, rfl, rfl, .inl ⟨by decide, by decide⟩, _, _, rfl, rfl, _, _, rfl, rfl, (by show (0 : Int) < 2147483587; decide), ?_⟩
    refine ⟨_, rfl, _, _, rfl, rfl, ⟨by decide, by decide⟩, _, rfl, _, _, rfl, rfl, m0, ?_⟩
    exact k _ _ (Int.emod_nonneg _ (by omega)) (Int.emod_lt_of_pos _ m0) ⟨_, _, _, h2, x0, b0, by omega, by omega⟩ q2
abbrev st_l_choose : Stmt := top 84
theorem sc_l_choose : FnScope ["_law_source_here", "_law_values"] ["_law_source_here", "_law_values"] (defScope st_l_choose) := ⟨rfl, rfl, rfl, by decide +kernel, rfl, by decide +kernel, by decide +kernel⟩
theorem ok_choose (B : Bn mg) (c_l_draw : Cal P w K mg base 2 "_law_draw" ["_law_source_here", "_law_many"] spDraw) (D : Df K mg "_law_choose" st_l_choose ["_law_source_here", "_law_values"]) : Cal P w K mg base 3 "_law_choose" ["_law_source_here", "_law_values"] spChoose := by
  refine D.cal sc_l_choose (fun vs H Q E h => ?_) (fun f cdv A out s H vs Q E hr h => ?_)
  · obtain ⟨a, l, xs, rfl, _⟩ := h
    rfl
  obtain ⟨a, l, xs, rfl, src, hl, la, n0, n1, k⟩ := h
  refine ⟨_, (pss_one (ps_ret (pe_ix ix_list (pv 1) (pe_fn c_l_draw (hr.mono (by decide)) (pa_cons (pv 0) (pa_cons (pe_callB call_len_seq (by rfl) B.n_len (by decide +kernel) (pa_cons (pv 1) pa_nil)) pa_nil))) (fun _ _ => rfl)))), ?_⟩
  refine ⟨_, rfl, _, rfl, _, rfl, l, _, rfl, .inl (SqL.of hl), ?_⟩
  refine ⟨a, xs.length, rfl, src, by omega, by omega, fun r H' r0 r1 s' kp => ?_⟩
  obtain ⟨v, hv, _, e⟩ := at_of_lt r0 r1
  exact ⟨l, _, _, _, rfl, rfl, SqL.of (kp _ _ la hl), e, k v _ hv s' kp⟩
abbrev st_l_amounts : Stmt := top 86
theorem sc_l_amounts : FnScope ["_law_source_here", "_law_many", "_law_way", "_law_base", "_law_state"] ["_law_source_here", "_law_many"] (defScope st_l_amounts) := ⟨rfl, rfl, rfl, by decide +kernel, rfl, by decide +kernel, by decide +kernel⟩
theorem ok_amounts (B : Bn mg) (c_l_draw : Cal P w K mg base 2 "_law_draw" ["_law_source_here", "_law_many"] spDraw) (c_l_choose : Cal P w K mg base 3 "_law_choose" ["_law_source_here", "_law_values"] spChoose) (D : Df K mg "_law_amounts" st_l_amounts ["_law_source_here", "_law_many"]) : Cal P w K mg base 4 "_law_amounts" ["_law_source_here", "_law_many"] spAmounts := by
  refine D.cal sc_l_amounts (fun vs H Q E h => ?_) (fun f cdv A out s H vs Q E hr h => ?_)
  · obtain ⟨a, n, rfl, _⟩ := h
    rfl
  obtain ⟨a, n, rfl, src, n0, n1, k⟩ := h
  refine ⟨_, (pss_cons (ps_asg (pe_tup (pa_cons (pe_fn c_l_draw (hr.mono (by decide)) (pa_cons (pv 0) (pa_cons pe_int pa_nil))) (pa_cons (pe_fn c_l_draw (hr.mono (by decide)) (pa_cons (pv 0) (pa_cons pe_int pa_nil))) pa_nil))) (pg_tup rfl (pgs_cons (pg_name (i := 2) sc_l_amounts.nd rfl (.inl rfl)) (pgs_cons (pg_name (i := 3) sc_l_amounts.nd rfl (.inr rfl)) pgs_nil))))
   (pss_cons (ps_if (pt_cmpR op_eq (pv 2) pe_int (nomark _)) (pss_one (ps_ret (pe_callTy call_tuple_of (by rfl) B.n_tuple (by decide +kernel) (pa_cons (pe_lc (own := [("_law_state", 4)]) (g := gName 4) rfl sc_l_amounts.nd (pi_range1 (by rfl) B.n_range (pa_cons (pv 1) pa_nil)) (blkOk_by (N := ["_law_source_here", "_law_many", "_law_way", "_law_base", "_law_state"]) (sc := defScope st_l_amounts) (by decide +kernel)) (fun _ _ _ _ _ => (pg_name (i := 4) sc_l_amounts.nd rfl (.inl rfl))) (fun _ _ _ _ _ => pts_nil) (fun _ _ _ _ _ => (pe_fn c_l_draw (hr.mono (by decide)) (pa_cons (pv 0) (pa_cons pe_int pa_nil))))) pa_nil)))) pss_nil)
   (pss_cons (ps_if (pt_cmpR op_eq (pv 2) pe_int (nomark _)) (pss_one (ps_ret (pe_callTy call_tuple_of (by rfl) B.n_tuple (by decide +kernel) (pa_cons (pe_lc (own := [("_law_state", 4)]) (g := gName 4) rfl sc_l_amounts.nd (pi_range1 (by rfl) B.n_range (pa_cons (pv 1) pa_nil)) (blkOk_by (N := ["_law_source_here", "_law_many", "_law_way", "_law_base", "_law_state"]) (sc := defScope st_l_amounts) (by decide +kernel)) (fun _ _ _ _ _ => (pg_name (i := 4) sc_l_amounts.nd rfl (.inl rfl))) (fun _ _ _ _ _ => pts_nil) (fun _ _ _ _ _ => (pe_fn c_l_draw (hr.mono (by decide)) (pa_cons (pv 0) (pa_cons pe_int pa_nil))))) pa_nil)))) pss_nil)
   (pss_cons (ps_if (pt_cmpR op_eq (pv 2) pe_int (nomark _)) (pss_one (ps_ret (pe_callTy call_tuple_of (by rfl) B.n_tuple (by decide +kernel) (pa_cons (pe_lc (own := [("_law_state", 4)]) (g := gName 4) rfl sc_l_amounts.nd (pi_range1 (by rfl) B.n_range (pa_cons (pv 1) pa_nil)) (blkOk_by (N := ["_law_source_here", "_law_many", "_law_way", "_law_base", "_law_state"]) (sc := defScope st_l_amounts) (by decide +kernel)) (fun _ _ _ _ _ => (pg_name (i := 4) sc_l_amounts.nd rfl (.inl rfl))) (fun _ _ _ _ _ => pts_nil) (fun _ _ _ _ _ => (pe_op op_add (pv 3) (pe_fn c_l_draw (hr.mono (by decide)) (pa_cons (pv 0) (pa_cons pe_int pa_nil)))))) pa_nil)))) pss_nil)
   (pss_cons (ps_if (pt_cmpR op_eq (pv 2) pe_int (nomark _)) (pss_one (ps_ret (pe_callTy call_tuple_of (by rfl) B.n_tuple (by decide +kernel) (pa_cons (pe_lc (own := [("_law_state", 4)]) (g := gName 4) rfl sc_l_amounts.nd (pi_range1 (by rfl) B.n_range (pa_cons (pv 1) pa_nil)) (blkOk_by (N := ["_law_source_here", "_law_many", "_law_way", "_law_base", "_law_state"]) (sc := defScope st_l_amounts) (by decide +kernel)) (fun _ _ _ _ _ => (pg_name (i := 4) sc_l_amounts.nd rfl (.inl rfl))) (fun _ _ _ _ _ => pts_nil) (fun _ _ _ _ _ => (pe_fn c_l_choose (hr.mono (by decide)) (pa_cons (pv 0) (pa_cons (pe_lst (pa_cons pe_int (pa_cons pe_int pa_nil))) pa_nil))))) pa_nil)))) pss_nil)
   (pss_cons (ps_if (pt_cmpR op_eq (pv 2) pe_int (nomark _)) (pss_one (ps_ret (pe_callTy call_tuple_of (by rfl) B.n_tuple (by decide +kernel) (pa_cons (pe_lc (own := [("_law_state", 4)]) (g := gName 4) rfl sc_l_amounts.nd (pi_range1 (by rfl) B.n_range (pa_cons (pv 1) pa_nil)) (blkOk_by (N := ["_law_source_here", "_law_many", "_law_way", "_law_base", "_law_state"]) (sc := defScope st_l_amounts) (by decide +kernel)) (fun _ _ _ _ _ => (pg_name (i := 4) sc_l_amounts.nd rfl (.inl rfl))) (fun _ _ _ _ _ => pts_nil) (fun _ _ _ _ _ => (pe_fn c_l_choose (hr.mono (by decide)) (pa_cons (pv 0) (pa_cons (pe_lst (pa_cons (pv 3) (pa_cons (pe_op op_add (pv 3) pe_int) (pa_cons (pe_op op_sub pe_int (pv 3)) pa_nil)))) pa_nil))))) pa_nil)))) pss_nil)
   (pss_one (ps_ret (pe_callTy call_tuple_of (by rfl) B.n_tuple (by decide +kernel) (pa_cons (pe_callB cr_sorted (by rfl) B.n_sorted (by decide +kernel) (pa_cons (pe_lc (own := [("_law_state", 4)]) (g := gName 4) rfl sc_l_amounts.nd (pi_range1 (by rfl) B.n_range (pa_cons (pv 1) pa_nil)) (blkOk_by (N := ["_law_source_here", "_law_many", "_law_way", "_law_base", "_law_state"]) (sc := defScope st_l_amounts) (by decide +kernel)) (fun _ _ _ _ _ => (pg_name (i := 4) sc_l_amounts.nd rfl (.inl rfl))) (fun _ _ _ _ _ => pts_nil) (fun _ _ _ _ _ => (pe_fn c_l_draw (hr.mono (by decide)) (pa_cons (pv 0) (pa_cons pe_int pa_nil))))) pa_nil)) pa_nil)))))))))), ?_⟩
  refine ⟨_, rfl, a, 6, rfl, src, by decide, by decide, fun way H0 w0 w1 s0 k0 => ?_⟩
  refine ⟨_, rfl, a, 29, rfl, s0, by decide, by decide, fun bs H1 b0 b1 s1 k1 => ?_⟩
  have kk := k0.trans k1
  refine ⟨(by show 2 ≤ sizeLine; decide), fun q hq => ⟨q, _, rfl, SqT.of upd_same, rfl, _, _, rfl, _, _, rfl, rfl, ?_⟩⟩
  generalize hH2 : upd H1 q _ = H2
  have s2 : Src H2 a := by rw [← hH2]; exact s1.upd hq
  have k2 : Kp a H H2 := by rw [← hH2]; exact kk.new hq
  have fin : ∀ {D : Addr} {H' : Hp}, AInv a D H2 n H' → ∃ p ys, [V.ref D] = [V.ref p] ∧ ((SqL K H' p ys ∧ ∀ l, H' l = none → Q (.ref l) (upd H' l (.tup ys))) ∨ (SqT K H' p ys ∧ Q (.ref p) H')) := by
    rintro D H' ⟨ns, e, am, s', kp, hd⟩
    exact ⟨D, _, rfl, .inl ⟨SqL.of hd, fun l hl => k l ns _ e am (s'.upd hl) ((k2.trans kp).new hl) upd_same⟩⟩
  refine ⟨_, rfl, rfl, _, rfl, ite2 (fun c => ?_) (fun c => ?_)⟩
  · refine ⟨_, rfl, n, rfl, by omega, by omega, fun D hD => lc_range (lo := 0) (n := n) (AInv a D H2) (AInv.start s2 hD) (fun i H3 hi p => ⟨rfl, tyes ?_⟩) (fun H3 p => fin p)⟩
    have s3 : Src H3 a := p.src
    refine ⟨_, rfl, a, 31, rfl, s3, by decide, by decide, fun r H4 r0 r1 s4 k4 => ?_⟩
    exact p.next (by omega) hD (s2.ne hD) s4 k4 r0 (by omega)
  refine ⟨_, rfl, rfl, _, rfl, ite2 (fun c => ?_) (fun c => ?_)⟩
  · refine ⟨_, rfl, n, rfl, by omega, by omega, fun D hD => lc_range (lo := 0) (n := n) (AInv a D H2) (AInv.start s2 hD) (fun i H3 hi p => ⟨rfl, tyes ?_⟩) (fun H3 p => fin p)⟩
    have s3 : Src H3 a := p.src
    refine ⟨_, rfl, a, 4, rfl, s3, by decide, by decide, fun r H4 r0 r1 s4 k4 => ?_⟩
    exact p.next (by omega) hD (s2.ne hD) s4 k4 r0 (by omega)
  refine ⟨_, rfl, rfl, _, rfl, ite2 (fun c => ?_) (fun c => ?_)⟩
  · refine ⟨_, rfl, n, rfl, by omega, by omega, fun D hD => lc_range (lo := 0) (n := n) (AInv a D H2) (AInv.start s2 hD) (fun i H3 hi p => ⟨rfl, tyes ?_⟩) (fun H3 p => fin p)⟩
    have s3 : Src H3 a := p.src
    refine ⟨_, rfl, _, rfl, a, 3, rfl, s3, by decide, by decide, fun r H4 r0 r1 s4 k4 => ⟨_, _, rfl, rfl, ?_⟩⟩
    exact p.next (by omega) hD (s2.ne hD) s4 k4 (by omega) (by omega)
  refine ⟨_, rfl, rfl, _, rfl, ite2 (fun c => ?_) (fun c => ?_)⟩
  · refine ⟨_, rfl, n, rfl, by omega, by omega, fun D hD => lc_range (lo := 0) (n := n) (AInv a D H2) (AInv.start s2 hD) (fun i H3 hi p => ⟨rfl, tyes ?_⟩) (fun H3 p => fin p)⟩
    have s3 : Src H3 a := p.src
    refine ⟨_, rfl, (by show 2 ≤ sizeLine; decide), fun l hl => ?_⟩
    refine ⟨a, l, _, rfl, s3.upd hl, upd_same, s3.ne hl, (by show 0 < 2; decide), (by show 2 ≤ 1000; decide), fun v H4 hv s4 k4 => ?_⟩
    have k5 : Kp a H3 H4 := ((Kp.refl a H3).new hl).trans k4
    rcases List.mem_cons.mp hv with rfl | hv
    · exact p.next (by omega) hD (s2.ne hD) s4 k5 (by decide) (by decide)
    rw [List.mem_singleton.mp hv]
    exact p.next (by omega) hD (s2.ne hD) s4 k5 (by decide) (by decide)
  refine ⟨_, rfl, rfl, _, rfl, ite2 (fun c => ?_) (fun c => ?_)⟩
  · refine ⟨_, rfl, n, rfl, by omega, by omega, fun D hD => lc_range (lo := 0) (n := n) (AInv a D H2) (AInv.start s2 hD) (fun i H3 hi p => ⟨rfl, tyes ?_⟩) (fun H3 p => fin p)⟩
    have s3 : Src H3 a := p.src
    refine ⟨_, rfl, _, rfl, _, rfl, _, _, rfl, rfl, _, rfl, _, _, rfl, rfl, (by show 3 ≤ sizeLine; decide), fun l hl => ?_⟩
    refine ⟨a, l, _, rfl, s3.upd hl, upd_same, s3.ne hl, (by show 0 < 3; decide), (by show 3 ≤ 1000; decide), fun v H4 hv s4 k4 => ?_⟩
    have k5 : Kp a H3 H4 := ((Kp.refl a H3).new hl).trans k4
    rcases List.mem_cons.mp hv with rfl | hv
    · exact p.next (by omega) hD (s2.ne hD) s4 k5 (by omega) (by omega)
    rcases List.mem_cons.mp hv with rfl | hv
    · exact p.next (r := bs + 1) (by omega) hD (s2.ne hD) s4 k5 (by omega) (by omega)
    rw [List.mem_singleton.mp hv]
    exact p.next (r := 30 - bs) (by omega) hD (s2.ne hD) s4 k5 (by omega) (by omega)
  refine ⟨_, rfl, n, rfl, by omega, by omega, fun D hD => lc_range (lo := 0) (n := n) (AInv a D H2) (AInv.start s2 hD) (fun i H3 hi p => ⟨rfl, tyes ?_⟩) (fun H3 p => ?_)⟩
  · have s3 : Src H3 a := p.src
    refine ⟨_, rfl, a, 31, rfl, s3, by decide, by decide, fun r H4 r0 r1 s4 k4 => ?_⟩
    exact p.next (by omega) hD (s2.ne hD) s4 k4 r0 (by omega)
  · obtain ⟨ns, e, am, s', kp, hd⟩ := p
    refine ⟨D, ns, rfl, SqL.of hd, by omega, fun ns' p' pm sd hp => ?_⟩
    refine ⟨p', _, rfl, .inl ⟨SqL.of upd_same, fun l hl => k l ns' _ ?_ (fun r hr => am r (pm.mem_iff.mp hr)) ((s'.upd hp).upd hl) (((k2.trans kp).new hp).new hl) upd_same⟩⟩
    rw [pm.length_eq, e]
end
end Pl
namespace Pl
open PySem PySem.Spec PyProof.Rows L2
/-! the mathematics -/
/-- the ints in ascending order -/
def srt (ns : List Int) : List Int := ns.mergeSort
theorem srt_perm (ns : List Int) : (srt ns).Perm ns := List.mergeSort_perm _ _
theorem srt_sorted (ns : List Int) : (srt ns).Pairwise (· ≤ ·) := by
  have h := List.pairwise_mergeSort (le := fun (a b : Int) => decide (a ≤ b)) (fun a b c h1 h2 => by simp at *; omega) (fun a b => by simp; omega) ns
  exact h.imp fun h => by simpa using h
theorem srt_of {l ns : List Int} (p : l.Perm ns) (s : l.Pairwise (· ≤ ·)) : l = srt ns := PySem.W.ksm_same (p.trans (srt_perm ns).symm) s (srt_sorted ns)
theorem srt_length (ns : List Int) : (srt ns).length = ns.length := (srt_perm ns).length_eq
/-- the sum of the k smallest -/
def low (ns : List Int) (k : Nat) : Int := ((srt ns).take k).sum
theorem cut_take {xs : List V} {n : Nat} (h : n ≤ xs.length) : cutV xs none (some (n : Int)) = xs.take n := by
  unfold cutV
  rw [HT.sIx_none, HT.sIx_nat, List.drop_zero, Nat.sub_zero, Nat.min_eq_left h]
/-- the second is at least as calm as the first -/
def calm (ns ms : List Int) : Bool := decide (ns.sum = ms.sum) && (List.range (ns.length + 1)).all fun k => decide (low ns k ≤ low ms k)
/-- an integer from 0 to m -/
def isTo (m : Int) : V → Bool
  | .int i => decide (0 ≤ i) && decide (i ≤ m)
  | _ => false
def isInt : V → Bool
  | .int _ => true
  | _ => false
/-- what isinstance says of the value: whether it is an int that is no bool -/
def Kd (K : PySem.W.Frag) (H : Hp) (x : V) : Prop := ∃ (t : Value) (bi bb : Bool), TyX K H x t ∧ PySem.W.kitOne K t (.type "int") = some bi ∧ PySem.W.kitOne K t (.type "bool") = some bb ∧ (bi && !bb) = isInt x
theorem Kd.int {K : PySem.W.Frag} {H : Hp} (i : Int) : Kd K H (.int i) := ⟨_, true, false, .base (.int i), kit_ty (by decide +kernel), kit_ty (by decide +kernel), rfl⟩
theorem TyX.same {K : PySem.W.Frag} {H H' : Hp} {x : V} {t : Value} (s : Same H H') (h : TyX K H x t) : TyX K H' x t := by
  cases h with
  | base b =>
    refine .base ?_
    cases b with
    | non => exact .non
    | bl y => exact .bl y
    | int i => exact .int i
    | str y => exact .str y
    | flt y => exact .flt y
    | lst e => exact .lst (s _ _ e)
    | frz e => exact .frz (s _ _ e)
    | tup e => exact .tup (s _ _ e)
    | dK e => exact .dK (s _ _ e)
    | dT e => exact .dT (s _ _ e)
    | ins e cl a b c d => exact .ins (s _ _ e) cl a b c d
  | byt b => exact .byt b
  | set e => exact .set (s _ _ e)
  | kList e c => exact .kList e c
  | kTuple e c => exact .kTuple e c
  | kDict e c => exact .kDict e c
  | fTuple e => exact .fTuple (s _ _ e)
  | fDict e => exact .fDict (s _ _ e)
theorem Kd.same {K : PySem.W.Frag} {H H' : Hp} {x : V} (s : Same H H') (h : Kd K H x) : Kd K H' x := by
  obtain ⟨t, bi, bb, ty, r⟩ := h
  exact ⟨t, bi, bb, TyX.same s ty, r⟩
/-! what the top has written of Share -/
structure Cn (mg : Str → Option Value) : Prop where
  c_FEWEST_STATES : ∃ t, mg "FEWEST_STATES" = some (.int 2 t)
  c_MOST_STATES : ∃ t, mg "MOST_STATES" = some (.int 6 t)
  c_MOST_IN_A_STATE : ∃ t, mg "MOST_IN_A_STATE" = some (.int 30 t)
structure ShK (K : PySem.W.Frag) (mg : Str → Option Value) (C : Addr) : Prop where
  cl : Cls K C
  nB : NoAttr K C "by_state"
  mgC : mg "Share" = some (.ref C)
  mks : PySem.W.makesIn K C = true
  kc : PySem.W.keepIn K (.ref C) = true
  ca : PySem.W.findIn K (.ref C) "__class__" = some (some (.builtin "object.__class__"))
  cg : PySem.W.specialIn K (.builtin "object.__class__") "__get__" = some (some (.builtin "getset_descriptor.__get__"))
  ct : PySem.W.takesIn K (.builtin "object.__class__") = some true
  mro : PySem.W.mroIn K C (.type "object") = some true
  kit : PySem.W.kitOne K (.ref C) (.ref C) = some true
  fi : ∀ f, PySem.W.findIn K (.ref C) "__call__" = some (some (.ref f)) → PySem.W.fnIn K f = true
/-- the same, of the written part alone -/
structure ShF (K : PySem.W.Frag) (C : Addr) : Prop where
  pg : PySem.W.plainGet K C Str.empty = true
  hd : PySem.W.hasDictIn K C = true
  po : PySem.W.plainOver K C = true
  sa : PySem.W.findIn K (.ref C) "__setattr__" = some (some (.builtin "object.__setattr__"))
  nB : PySem.W.findIn K (.ref C) "by_state" = some none
  mks : PySem.W.makesIn K C = true
  kc : PySem.W.keepIn K (.ref C) = true
  ca : PySem.W.findIn K (.ref C) "__class__" = some (some (.builtin "object.__class__"))
  cg : PySem.W.specialIn K (.builtin "object.__class__") "__get__" = some (some (.builtin "getset_descriptor.__get__"))
  ct : PySem.W.takesIn K (.builtin "object.__class__") = some true
  mro : PySem.W.mroIn K C (.type "object") = some true
  kit : PySem.W.kitOne K (.ref C) (.ref C) = some true
theorem ShF.k {K : PySem.W.Frag} {mg : Str → Option Value} {C : Addr} (s : ShF K C) (c : CallF K C) (g : mg "Share" = some (.ref C)) : ShK K mg C :=
  ⟨⟨s.pg, s.hd, s.po, s.sa⟩, s.nB, g, s.mks, s.kc, s.ca, s.cg, s.ct, s.mro, s.kit, fun f h => by
    obtain ⟨f', a, b⟩ := c.ex
    rw [a] at h
    cases h
    exact b⟩
def shF (t : Addr) : List (Str × V) := [("by_state", .ref t)]
theorem shF_get (t : Addr) : (shF t).lookup ("by_state" : Str) = some (.ref t) := by simp [shF, List.lookup]
/-- a share with the amounts ns stands at s, its tuple at t -/
def ShAt (C : Addr) (H : Hp) (s t : Addr) (ns : List Int) : Prop := (∃ dx, H s = some (.ins C dx (shF t))) ∧ H t = some (.tup (ns.map V.int)) ∧ 2 ≤ ns.length ∧ ns.length ≤ 6 ∧ Am ns
theorem ShAt.same {C : Addr} {H H' : Hp} {s t : Addr} {ns : List Int} (h : ShAt C H s t ns) (k : Same H H') : ShAt C H' s t ns := by
  obtain ⟨⟨dx, h1⟩, h2, r⟩ := h
  exact ⟨⟨dx, k _ _ h1⟩, k _ _ h2, r⟩

def spIsI (K : PySem.W.Frag) : Sp := fun vs H Q _ => ∃ x : V, vs = [x] ∧ Kd K H x ∧ Q (.bl (isInt x)) H
def spIsInt (K : PySem.W.Frag) : Sp := fun vs H Q _ => ∃ (x : V) (m : Int), vs = [x, .int m] ∧ Kd K H x ∧ Q (.bl (isTo m x)) H
/-- a tuple of 2 to 6 integers from 0 to 30 -/
def isAm (xs : List V) : Bool := decide (2 ≤ xs.length) && decide (xs.length ≤ 6) && xs.all (isTo 30)
def spIsAm (K : PySem.W.Frag) : Sp := fun vs H Q _ => ∃ x : V, vs = [x] ∧
  ((∃ (p : Addr) (xs : List V), x = .ref p ∧ H p = some (.tup xs) ∧ xs.length ≤ 1000 ∧ (∀ y ∈ xs, Kd K H y) ∧ ∀ H', Same H H' → Q (.bl (isAm xs)) H') ∨
   (∃ t, TyX K H x t ∧ PySem.W.kitOne K t (.type "tuple") = some false ∧ Q (.bl false) H))
theorem isAm_ints {ns : List Int} (h2 : 2 ≤ ns.length) (h6 : ns.length ≤ 6) (am : Am ns) : isAm (ns.map V.int) = true := by
  simp only [isAm, List.length_map, Bool.and_eq_true, decide_eq_true_eq, List.all_eq_true]
  refine ⟨⟨h2, h6⟩, fun x hx => ?_⟩
  obtain ⟨i, hi, rfl⟩ := List.mem_map.mp hx
  obtain ⟨a, b⟩ := am i hi
  simp [isTo, a, b]

def spInit (C : Addr) : Sp := fun vs H Q _ => ∃ (p t dx : Addr) (ns : List Int), vs = [.ref p, .ref t] ∧ H p = some (.ins C dx []) ∧ H t = some (.tup (ns.map V.int)) ∧ 2 ≤ ns.length ∧ ns.length ≤ 6 ∧ Am ns ∧
  ∀ H', Kp p H H' → ShAt C H' p t ns → Q .non H'
theorem mk_at {C t x dx : Addr} {ns : List Int} {H : Hp} {R : Hp → Prop} {E : XK} (nx : H x = none) (nd : H dx = none) (ht : H t = some (.tup (ns.map V.int))) (h2 : 2 ≤ ns.length) (h6 : ns.length ≤ 6) (am : Am ns)
    (k : ∀ H' : Hp, Same H H' → ShAt C H' x t ns → R H') : spInit C (.ref x :: ([.ref t] ++ [])) (upd (upd H dx (.own x)) x (.ins C dx [])) (fun v H2 => v = .non ∧ R H2) E := by
  have s1 : Same H (upd (upd H dx (.own x)) x (.ins C dx [])) := same_put (same_put (Same.refl H) nd) nx
  refine ⟨x, t, dx, ns, rfl, upd_same, s1 _ _ ht, h2, h6, am, fun H' kp sh => ⟨rfl, k H' (fun b o e => kp b o (ne_of_none e nx) (s1 b o e)) sh⟩⟩
def spTotal (C : Addr) : Sp := fun vs H Q _ => ∃ (s t : Addr) (ns : List Int), vs = [.ref s] ∧ ShAt C H s t ns ∧ Q (.int ns.sum) H
def spLen (C : Addr) : Sp := fun vs H Q _ => ∃ (s t : Addr) (ns : List Int), vs = [.ref s] ∧ ShAt C H s t ns ∧ Q (.int ns.length) H
def spCall (C : Addr) : Sp := fun vs H Q _ => ∃ (s t : Addr) (ns : List Int) (k : Nat), vs = [.ref s, .int k] ∧ ShAt C H s t ns ∧ k ≤ ns.length ∧ ∀ H', Same H H' → Q (.int (low ns k)) H'
def spPair (C : Addr) : Sp := fun vs H Q _ => ∃ (s1 t1 s2 t2 : Addr) (ns ms : List Int), vs = [.ref s1, .ref s2] ∧ ShAt C H s1 t1 ns ∧ ShAt C H s2 t2 ms ∧ ns.length = ms.length ∧ Q .non H
def spCalm (C : Addr) : Sp := fun vs H Q _ => ∃ (s1 t1 s2 t2 : Addr) (ns ms : List Int), vs = [.ref s1, .ref s2] ∧ ShAt C H s1 t1 ns ∧ ShAt C H s2 t2 ms ∧ ns.length = ms.length ∧
  ∀ H', Same H H' → Q (.bl (calm ns ms)) H'
def spCalmer (C : Addr) : Sp := fun vs H Q _ => ∃ (s1 t1 s2 t2 : Addr) (ns ms : List Int), vs = [.ref s1, .ref s2] ∧ ShAt C H s1 t1 ns ∧ ShAt C H s2 t2 ms ∧ ns.length = ms.length ∧
  ∀ H', Same H H' → Q (.bl (calm ns ms && !calm ms ns)) H'
end Pl
namespace Pl
open PySem PySem.Spec PyProof.Rows L2
section
variable {P : Program} {w : World} {K : PySem.W.Frag} {mg : Str → Option Value} {base : Heap} {CShare : Addr}
abbrev st_is_integer : Stmt := top 2
theorem sc_is_integer : FnScope ["thing"] ["thing"] (defScope st_is_integer) := ⟨rfl, rfl, rfl, by decide +kernel, rfl, by decide +kernel, by decide +kernel⟩
theorem ok_isi (B : Bn mg) (D : Df K mg "is_integer" st_is_integer ["thing"]) : Cal P w K mg base 1 "is_integer" ["thing"] (spIsI K) := by
  refine D.cal sc_is_integer (fun vs H Q E h => ?_) (fun f cdv A out s H vs Q E hr h => ?_)
  · obtain ⟨x, rfl, _⟩ := h
    rfl
  obtain ⟨x, rfl, ⟨t, bi, bb, ty, k1, k2, kd⟩, k⟩ := h
  refine ⟨_, (pss_one (ps_ret (pe_and (pe_callB call_isi (by rfl) B.n_isinstance (by decide +kernel) (pa_cons (pv 0) (pa_cons (pe_bltn (v := .ty "int") (by rfl) B.n_int (by decide +kernel) rfl) pa_nil))) (pe_one (pe_not (pe_callB call_isi (by rfl) B.n_isinstance (by decide +kernel) (pa_cons (pv 0) (pa_cons (pe_bltn (v := .ty "bool") (by rfl) B.n_bool (by decide +kernel) rfl) pa_nil)))))))), ?_⟩
  refine ⟨_, rfl, x, _, t, _, bi, rfl, .ty _, ty, k1, bi, rfl, ?_⟩
  rw [← kd] at k
  cases bi with
  | false => exact iteF k
  | true =>
    refine iteT ⟨_, rfl, x, _, t, _, bb, rfl, .ty _, ty, k2, bb, rfl, ?_⟩
    exact k
abbrev st_is_integer_to : Stmt := top 3
theorem sc_is_integer_to : FnScope ["thing", "most"] ["thing", "most"] (defScope st_is_integer_to) := ⟨rfl, rfl, rfl, by decide +kernel, rfl, by decide +kernel, by decide +kernel⟩
theorem ok_isint (c_is_integer : Cal P w K mg base 1 "is_integer" ["thing"] (spIsI K)) (D : Df K mg "is_integer_to" st_is_integer_to ["thing", "most"]) : Cal P w K mg base 2 "is_integer_to" ["thing", "most"] (spIsInt K) := by
  refine D.cal sc_is_integer_to (fun vs H Q E h => ?_) (fun f cdv A out s H vs Q E hr h => ?_)
  · obtain ⟨x, m, rfl, _⟩ := h
    rfl
  obtain ⟨x, m, rfl, kd, k⟩ := h
  refine ⟨_, (pss_one (ps_ret (pe_and (pe_fn c_is_integer (hr.mono (by decide)) (pa_cons (pv 0) pa_nil)) (pe_one (pe_chain op_le op_le pe_int (pv 0) (pv 1)))))), ?_⟩
  refine ⟨_, rfl, x, rfl, kd, _, rfl, ?_⟩
  cases x with
  | int i =>
    refine iteT ?_
    refine ⟨_, rfl, _, _, rfl, rfl, _, rfl, ?_⟩
    have e : isTo m (.int i) = (decide (0 ≤ i) && decide (i ≤ m)) := rfl
    rw [e] at k
    refine ite2 (fun c => ?_) (fun c => ?_)
    · have c2 : decide (0 ≤ i) = true := c
      rw [c2] at k
      exact ⟨_, rfl, _, _, rfl, rfl, k⟩
    · have c2 : decide (0 ≤ i) = false := by simpa using c
      rw [c2] at k
      exact k
  | _ => exact iteF k
abbrev st_is_amounts : Stmt := top 22
theorem sc_is_amounts : FnScope ["thing", "amount"] ["thing"] (defScope st_is_amounts) := ⟨rfl, rfl, rfl, by decide +kernel, rfl, by decide +kernel, by decide +kernel⟩
theorem ok_isam (B : Bn mg) (Cc : Cn mg) (c_is_integer_to : Cal P w K mg base 2 "is_integer_to" ["thing", "most"] (spIsInt K)) (D : Df K mg "is_amounts" st_is_amounts ["thing"]) : Cal P w K mg base 3 "is_amounts" ["thing"] (spIsAm K) := by
  refine D.cal sc_is_amounts (fun vs H Q E h => ?_) (fun f cdv A out s H vs Q E hr h => ?_)
  · obtain ⟨x, rfl, _⟩ := h
    rfl
  obtain ⟨x, rfl, h⟩ := h
  refine ⟨_, (pss_cons (ps_if (PW.pt (pw_or (pt_not (pt_val (pe_callB call_isi (by rfl) B.n_isinstance (by decide +kernel) (pa_cons (pv 0) (pa_cons (pe_bltn (v := .ty "tuple") (by rfl) B.n_tuple (by decide +kernel) rfl) pa_nil))))) (pw_or1 (pt_not (pt_chain op_le op_le (pe_glob (v := .int 2) rfl Cc.c_FEWEST_STATES.choose_spec ⟨_, rfl⟩) (pe_callB call_len_seq (by rfl) B.n_len (by decide +kernel) (pa_cons (pv 0) pa_nil)) (pe_glob (v := .int 6) rfl Cc.c_MOST_STATES.choose_spec ⟨_, rfl⟩)))))) (pss_one (ps_ret pe_bl)) pss_nil)
   (pss_one (ps_ret (pe_callB (cr_all rfl) (by rfl) B.n_all (by decide +kernel) (pa_cons (pe_lc (own := [("amount", 1)]) (g := gName 1) rfl sc_is_amounts.nd (pi_tup (pv 0)) (blkOk_by (N := ["thing", "amount"]) (sc := defScope st_is_amounts) (by decide +kernel)) (fun _ _ _ _ _ => (pg_name (i := 1) sc_is_amounts.nd rfl (.inl rfl))) (fun _ _ _ _ _ => pts_nil) (fun _ _ _ _ _ => (pe_fn c_is_integer_to (hr.mono (by decide)) (pa_cons (pv 1) (pa_cons (pe_glob (v := .int 30) rfl Cc.c_MOST_IN_A_STATE.choose_spec ⟨_, rfl⟩) pa_nil))))) pa_nil))))), ?_⟩
  rcases h with ⟨p, xs, rfl, hp, xl, kd, k⟩ | ⟨t, ty, kt, k⟩
  · refine ⟨_, rfl, _, _, _, _, true, rfl, .ty _, .base (.tup hp), kit_ty (by decide +kernel), _, rfl, iteF ?_⟩
    refine ⟨_, rfl, p, _, rfl, .inr (SqT.of hp), _, _, rfl, rfl, _, rfl, ?_⟩
    have no : isAm xs = false → Q (.bl false) H := fun e => by
      have z := k H (Same.refl H)
      rw [e] at z
      exact z
    refine ite2 (fun c => ?_) (fun c => ?_)
    · refine ⟨_, _, rfl, rfl, _, rfl, ?_⟩
      have c2 : (2 : Int) ≤ xs.length := of_decide_eq_true c
      refine ite2 (fun c3 => ?_) (fun c3 => ?_)
      · refine no ?_
        have c4 : ¬ ((xs.length : Int) ≤ 6) := by simpa using c3
        have c5 : decide (xs.length ≤ 6) = false := by simp; omega
        simp [isAm, c5]
      · have c4 : (xs.length : Int) ≤ 6 := by simpa using c3
        have e0 : isAm xs = xs.all (isTo 30) := by
          have a1 : decide (2 ≤ xs.length) = true := by simp; omega
          have a2 : decide (xs.length ≤ 6) = true := by simp; omega
          simp [isAm, a1, a2]
        refine ⟨_, rfl, p, rfl, ⟨_, SqT.of hp⟩, fun D hD => lc_tup (K := K) (a := p) (xs := xs) (fun i H' => Same H H' ∧ H' D = some (.lst ((xs.take i).map fun x => .bl (isTo 30 x))))
          ⟨same_new (Same.refl H) hD, upd_same⟩ (fun i H' _ q => SqT.of (q.1 _ _ hp)) (fun i x H' hx q => ⟨rfl, tyes ?_⟩) (fun H' q => ?_)⟩
        · refine ⟨_, rfl, x, 30, rfl, (kd x (List.mem_of_getElem? hx)).same q.1, ?_⟩
          refine ⟨_, q.2, size_lt (by simp; omega), same_put q.1 hD, ?_⟩
          rw [upd_same, List.take_add_one, hx, List.map_append]
          rfl
        · refine ⟨D, xs.map (isTo 30), rfl, ?_, ?_⟩
          · have e := q.2
            rw [List.take_length] at e
            rw [List.map_map]
            exact SqL.of e
          · have z := k H' q.1
            rw [e0] at z
            have e1 : (xs.map (isTo 30)).all id = xs.all (isTo 30) := by rw [List.all_map]; rfl
            rw [e1]
            exact z
    · refine ⟨_, rfl, iteT (no ?_)⟩
      have c4 : ¬ ((2 : Int) ≤ xs.length) := by simpa using c
      have c5 : decide (2 ≤ xs.length) = false := by simp; omega
      simp [isAm, c5]
  · exact ⟨_, rfl, x, _, t, _, false, rfl, .ty _, ty, kt, _, rfl, iteT (iteT k)⟩
abbrev st_ShInit : Stmt := inClass (top 21) 0
theorem sc_ShInit : FnScope ["self", "amounts"] ["self", "amounts"] (defScope st_ShInit) := ⟨rfl, rfl, rfl, by decide +kernel, rfl, by decide +kernel, by decide +kernel⟩
theorem ok_init (SShare : ShK K mg CShare) (c_is_amounts : Cal P w K mg base 3 "is_amounts" ["thing"] (spIsAm K)) (D : Mh K CShare "__init__" "Share.__init__" st_ShInit ["self", "amounts"]) : MCal P w K mg base 4 CShare "__init__" ["self", "amounts"] (spInit CShare) := by
  refine D.cal sc_ShInit (fun vs H Q E h => ?_) (fun f cdv A out s H vs Q E hr h => ?_)
  · obtain ⟨p, t, dx, ns, rfl, _⟩ := h
    rfl
  obtain ⟨p, t, dx, ns, rfl, hp, ht, h2, h6, am, k⟩ := h
  refine ⟨_, (pss_cons (ps_if (pt_not (pt_val (pe_fn c_is_amounts (hr.mono (by decide)) (pa_cons (pv 1) pa_nil)))) (pss_one ps_never) pss_nil)
   (pss_one (ps_fld (pv 0) (pv 1) rfl))), ?_⟩
  refine ⟨_, rfl, .ref t, rfl, .inl ⟨t, _, rfl, ht, by rw [List.length_map]; omega, fun y hy => ?_, fun H1 s1 => ?_⟩⟩
  · obtain ⟨i, _, rfl⟩ := List.mem_map.mp hy
    exact Kd.int i
  rw [isAm_ints h2 h6 am]
  refine ⟨_, rfl, iteF ?_⟩
  refine ⟨_, rfl, _, rfl, p, CShare, dx, _, rfl, s1 _ _ hp, SShare.cl, SShare.nB, (by show 0 < 1000; decide), ?_⟩
  have tp : t ≠ p := ne_of ht hp (by intro z; cases z)
  exact k _ (fun b o n e => by rw [upd_ne n]; exact s1 _ _ e) ⟨⟨dx, upd_same⟩, by rw [upd_ne tp]; exact s1 _ _ ht, h2, h6, am⟩
end
end Pl
namespace Pl
open PySem PySem.Spec PyProof.Rows L2
section
variable {P : Program} {w : World} {K : PySem.W.Frag} {mg : Str → Option Value} {base : Heap} {CShare : Addr}
abbrev st_Sh_len : Stmt := inClass (top 21) 4
theorem sc_Sh_len : FnScope ["self"] ["self"] (defScope st_Sh_len) := ⟨rfl, rfl, rfl, by decide +kernel, rfl, by decide +kernel, by decide +kernel⟩
theorem ok_len (B : Bn mg) (SShare : ShK K mg CShare) (D : Mh K CShare "__len__" "Share.__len__" st_Sh_len ["self"]) : MCal P w K mg base 2 CShare "__len__" ["self"] (spLen CShare) := by
  refine D.cal sc_Sh_len (fun vs H Q E h => ?_) (fun f cdv A out s H vs Q E hr h => ?_)
  · obtain ⟨s, t, ns, rfl, _⟩ := h
    rfl
  obtain ⟨s, t, ns, rfl, ⟨⟨dx, h1⟩, h2, _⟩, k⟩ := h
  refine ⟨_, (pss_one (ps_ret (pe_callB call_len_seq (by rfl) B.n_len (by decide +kernel) (pa_cons (pe_fld (pv 0) rfl) pa_nil)))), ?_⟩
  refine ⟨_, rfl, s, CShare, dx, _, _, rfl, h1, SShare.cl, SShare.nB, shF_get t, t, _, rfl, .inr (SqT.of h2), ?_⟩
  rw [List.length_map]
  exact k
end
end Pl
namespace Pl
open PySem PySem.Spec PyProof.Rows L2
section
variable {P : Program} {w : World} {K : PySem.W.Frag} {mg : Str → Option Value} {base : Heap} {CShare : Addr}
abbrev st_Sh_amounts : Stmt := inClass (top 21) 1
theorem sc_Sh_amounts : FnScope ["self"] ["self"] (defScope st_Sh_amounts) := ⟨rfl, rfl, rfl, by decide +kernel, rfl, by decide +kernel, by decide +kernel⟩
theorem ok_pamounts (SShare : ShK K mg CShare) (D : Ph K CShare "amounts" "Share.amounts" st_Sh_amounts ["self"]) : PCal P w K mg base 2 CShare "amounts" ["self"] (getSp CShare "by_state") := by
  refine D.cal sc_Sh_amounts (fun vs H Q E h => ?_) (fun f cdv A out s H vs Q E hr h => ?_)
  · obtain ⟨a, dx, fs, v, rfl, _⟩ := h
    rfl
  obtain ⟨a, dx, fs, v, rfl, h1, l, k⟩ := h
  refine ⟨_, (pss_one (ps_ret (pe_fld (pv 0) rfl))), ?_⟩
  exact ⟨_, rfl, a, CShare, dx, _, _, rfl, h1, SShare.cl, SShare.nB, l, k⟩
end
end Pl
namespace Pl
open PySem PySem.Spec PyProof.Rows L2
section
variable {P : Program} {w : World} {K : PySem.W.Frag} {mg : Str → Option Value} {base : Heap} {CShare : Addr}
abbrev st_Sh_total : Stmt := inClass (top 21) 2
theorem sc_Sh_total : FnScope ["self"] ["self"] (defScope st_Sh_total) := ⟨rfl, rfl, rfl, by decide +kernel, rfl, by decide +kernel, by decide +kernel⟩
theorem ok_total (B : Bn mg) (SShare : ShK K mg CShare) (D : Ph K CShare "total" "Share.total" st_Sh_total ["self"]) : PCal P w K mg base 2 CShare "total" ["self"] (spTotal CShare) := by
  refine D.cal sc_Sh_total (fun vs H Q E h => ?_) (fun f cdv A out s H vs Q E hr h => ?_)
  · obtain ⟨s, t, ns, rfl, _⟩ := h
    rfl
  obtain ⟨s, t, ns, rfl, ⟨⟨dx, h1⟩, h2, _⟩, k⟩ := h
  refine ⟨_, (pss_one (ps_ret (pe_callB (call_sumT rfl) (by rfl) B.n_sum (by decide +kernel) (pa_cons (pe_fld (pv 0) rfl) pa_nil)))), ?_⟩
  exact ⟨_, rfl, s, CShare, dx, _, _, rfl, h1, SShare.cl, SShare.nB, shF_get t, t, ns, rfl, SqT.of h2, k⟩
abbrev st_Sh_call : Stmt := inClass (top 21) 3
theorem sc_Sh_call : FnScope ["self", "k"] ["self", "k"] (defScope st_Sh_call) := ⟨rfl, rfl, rfl, by decide +kernel, rfl, by decide +kernel, by decide +kernel⟩
theorem ok_call (B : Bn mg) (SShare : ShK K mg CShare) (c_is_integer_to : Cal P w K mg base 2 "is_integer_to" ["thing", "most"] (spIsInt K)) (D : Mh K CShare "__call__" "Share.__call__" st_Sh_call ["self", "k"]) : MCal P w K mg base 3 CShare "__call__" ["self", "k"] (spCall CShare) := by
  refine D.cal sc_Sh_call (fun vs H Q E h => ?_) (fun f cdv A out s H vs Q E hr h => ?_)
  · obtain ⟨s, t, ns, n, rfl, _⟩ := h
    rfl
  obtain ⟨s, t, ns, n, rfl, ⟨⟨dx, h1⟩, h2, _, l6, _⟩, ln, k⟩ := h
  refine ⟨_, (pss_cons (ps_if (pt_not (pt_val (pe_fn c_is_integer_to (hr.mono (by decide)) (pa_cons (pv 1) (pa_cons (pe_callB call_len_seq (by rfl) B.n_len (by decide +kernel) (pa_cons (pe_fld (pv 0) rfl) pa_nil)) pa_nil))))) (pss_one ps_never) pss_nil)
   (pss_one (ps_ret (pe_callB (cr_sum rfl) (by rfl) B.n_sum (by decide +kernel) (pa_cons (pe_slice sl_list (pe_callB call_sortedT (by rfl) B.n_sorted (by decide +kernel) (pa_cons (pe_fld (pv 0) rfl) pa_nil)) po_none (po_some (pv 1))) pa_nil))))), ?_⟩
  refine ⟨_, rfl, _, rfl, s, CShare, dx, _, _, rfl, h1, SShare.cl, SShare.nB, shF_get t, t, _, rfl, .inr (SqT.of h2), .int n, _, rfl, Kd.int n, ?_⟩
  have e : isTo ((ns.map V.int).length : Int) (.int n) = true := by
    rw [List.length_map]
    show (decide (0 ≤ (n : Int)) && decide ((n : Int) ≤ ns.length)) = true
    simp; omega
  rw [e]
  refine ⟨_, rfl, iteF ?_⟩
  refine ⟨_, rfl, s, CShare, dx, _, _, rfl, h1, SShare.cl, SShare.nB, shF_get t, t, ns, rfl, SqT.of h2, by omega, fun ys p pm sd hp => ?_⟩
  obtain rfl := srt_of pm sd
  refine ⟨_, rfl, n, rfl, p, _, rfl, SqL.of upd_same, fun q hq => ?_⟩
  rw [cut_take (by rw [List.length_map, srt_length]; exact ln), ← List.map_take]
  exact ⟨q, _, rfl, SqL.of upd_same, k _ (same_new (same_new (Same.refl H) hp) hq)⟩
abbrev st_check_pair : Stmt := top 24
theorem sc_check_pair : FnScope ["one", "other"] ["one", "other"] (defScope st_check_pair) := ⟨rfl, rfl, rfl, by decide +kernel, rfl, by decide +kernel, by decide +kernel⟩
theorem ok_pair (B : Bn mg) (SShare : ShK K mg CShare) (m_len : MCal P w K mg base 2 CShare "__len__" ["self"] (spLen CShare)) (D : Df K mg "check_pair" st_check_pair ["one", "other"]) : Cal P w K mg base 4 "check_pair" ["one", "other"] (spPair CShare) := by
  refine D.cal sc_check_pair (fun vs H Q E h => ?_) (fun f cdv A out s H vs Q E hr h => ?_)
  · obtain ⟨s1, t1, s2, t2, ns, ms, rfl, _⟩ := h
    rfl
  obtain ⟨s1, t1, s2, t2, ns, ms, rfl, sh1, sh2, ln, k⟩ := h
  refine ⟨_, (pss_cons (ps_if (PW.pt (pw_or (pt_not (pt_val (pe_callB call_isi (by rfl) B.n_isinstance (by decide +kernel) (pa_cons (pv 0) (pa_cons (pe_glob (v := .ref CShare) rfl SShare.mgC rfl) pa_nil))))) (pw_or1 (pt_not (pt_val (pe_callB call_isi (by rfl) B.n_isinstance (by decide +kernel) (pa_cons (pv 1) (pa_cons (pe_glob (v := .ref CShare) rfl SShare.mgC rfl) pa_nil)))))))) (pss_one ps_never) pss_nil)
   (pss_one (ps_if (pt_cmpR op_ne (pe_callB (call_lenM m_len (hr.mono (by decide))) (by rfl) B.n_len (by decide +kernel) (pa_cons (pv 0) pa_nil)) (pe_callB (call_lenM m_len (hr.mono (by decide))) (by rfl) B.n_len (by decide +kernel) (pa_cons (pv 1) pa_nil)) (nomark _)) (pss_one ps_never) pss_nil))), ?_⟩
  obtain ⟨⟨d1, a1⟩, _, _, l1, _⟩ := id sh1
  obtain ⟨⟨d2, a2⟩, _, _, l2, _⟩ := id sh2
  have ty : ∀ {s d t : Addr}, H s = some (.ins CShare d (shF t)) → TyX K H (.ref s) (.ref CShare) := fun e => .base (.ins e SShare.cl SShare.ca SShare.cg SShare.ct SShare.mro)
  refine ⟨_, rfl, _, _, _, _, true, rfl, .own _, ty a1, SShare.kit, _, rfl, iteF ?_⟩
  refine ⟨_, rfl, _, _, _, _, true, rfl, .own _, ty a2, SShare.kit, _, rfl, iteF ?_⟩
  refine ⟨_, rfl, s1, d1, _, rfl, a1, s1, t1, ns, rfl, sh1, ns.length, rfl, by omega, ?_⟩
  refine ⟨_, rfl, s2, d2, _, rfl, a2, s2, t2, ms, rfl, sh2, ms.length, rfl, by omega, rfl, _, rfl, ?_⟩
  rw [ln]
  exact iteNS rfl k
abbrev st_is_calm : Stmt := top 25
theorem sc_is_calm : FnScope ["one", "other", "k"] ["one", "other"] (defScope st_is_calm) := ⟨rfl, rfl, rfl, by decide +kernel, rfl, by decide +kernel, by decide +kernel⟩
theorem ok_calm (B : Bn mg) (SShare : ShK K mg CShare) (c_check_pair : Cal P w K mg base 4 "check_pair" ["one", "other"] (spPair CShare)) (m_len : MCal P w K mg base 2 CShare "__len__" ["self"] (spLen CShare))
    (p_total : PCal P w K mg base 2 CShare "total" ["self"] (spTotal CShare)) (m_call : MCal P w K mg base 3 CShare "__call__" ["self", "k"] (spCall CShare)) (D : Df K mg "is_calm" st_is_calm ["one", "other"]) : Cal P w K mg base 5 "is_calm" ["one", "other"] (spCalm CShare) := by
  refine D.cal sc_is_calm (fun vs H Q E h => ?_) (fun f cdv A out s H vs Q E hr h => ?_)
  · obtain ⟨s1, t1, s2, t2, ns, ms, rfl, _⟩ := h
    rfl
  obtain ⟨s1, t1, s2, t2, ns, ms, rfl, sh1, sh2, ln, k⟩ := h
  refine ⟨_, (pss_cons (ps_expr (pe_fn c_check_pair (hr.mono (by decide)) (pa_cons (pv 0) (pa_cons (pv 1) pa_nil))))
   (pss_cons (ps_if (pt_cmpR op_ne (pe_pr p_total SShare.cl (hr.mono (by decide)) (pv 0)) (pe_pr p_total SShare.cl (hr.mono (by decide)) (pv 1)) (nomark _)) (pss_one (ps_ret pe_bl)) pss_nil)
   (pss_one (ps_ret (pe_callB (cr_all rfl) (by rfl) B.n_all (by decide +kernel) (pa_cons (pe_lc (own := [("k", 2)]) (g := gName 2) rfl sc_is_calm.nd (pi_range1 (by rfl) B.n_range (pa_cons (pe_op op_add (pe_callB (call_lenM m_len (hr.mono (by decide))) (by rfl) B.n_len (by decide +kernel) (pa_cons (pv 0) pa_nil)) pe_int) pa_nil)) (blkOk_by (N := ["one", "other", "k"]) (sc := defScope st_is_calm) (by decide +kernel)) (fun _ _ _ _ _ => (pg_name (i := 2) sc_is_calm.nd rfl (.inl rfl))) (fun _ _ _ _ _ => pts_nil) (fun _ _ _ _ _ => (pe_cmpR op_le (pe_callM m_call SShare.fi (hr.mono (by decide)) (pv 0) (pa_cons (pv 2) pa_nil)) (pe_callM m_call SShare.fi (hr.mono (by decide)) (pv 1) (pa_cons (pv 2) pa_nil)) (nomark _)))) pa_nil)))))), ?_⟩
  obtain ⟨⟨d1, a1⟩, _, _, l1, _⟩ := id sh1
  obtain ⟨⟨d2, a2⟩, _, _, l2, _⟩ := id sh2
  refine ⟨_, rfl, _, rfl, s1, t1, s2, t2, ns, ms, rfl, sh1, sh2, ln, ?_⟩
  refine ⟨_, rfl, s1, d1, _, rfl, a1, s1, t1, ns, rfl, sh1, _, rfl, s2, d2, _, rfl, a2, s2, t2, ms, rfl, sh2, rfl, _, rfl, ?_⟩
  refine ite2 (fun c => ?_) (fun c => ?_)
  · have z := k H (Same.refl H)
    have e : calm ns ms = false := by
      have c2 : ¬ (ns.sum = ms.sum) := by simpa using c
      simp [calm, c2]
    rw [e] at z
    exact z
  · have c2 : ns.sum = ms.sum := by simpa using c
    refine ⟨_, rfl, s1, d1, _, rfl, a1, s1, t1, ns, rfl, sh1, ns.length, rfl, by omega, _, _, rfl, rfl, _, rfl, by omega, by omega, fun D hD => ?_⟩
    have tn : ((ns.length : Int) + 1).toNat = ns.length + 1 := by omega
    rw [tn]
    refine lc_range (lo := 0) (n := ns.length + 1) (fun i H' => Same H H' ∧ H' D = some (.lst ((List.range i).map fun k => .bl (decide (low ns k ≤ low ms k)))))
      ⟨same_new (Same.refl H) hD, upd_same⟩ (fun i H' hi q => ⟨rfl, tyes ?_⟩) (fun H' q => ?_)
    · refine ⟨_, rfl, s1, rfl, _, rfl, .inr ⟨_, _, q.1 _ _ a1⟩, s1, t1, ns, i, by simp, sh1.same q.1, by omega, fun H2 k2 => ?_⟩
      refine ⟨_, rfl, s2, rfl, _, rfl, .inr ⟨_, _, k2 _ _ (q.1 _ _ a2)⟩, s2, t2, ms, i, by simp, (sh2.same q.1).same k2, by omega, fun H3 k3 => ?_⟩
      refine ⟨_, _, rfl, rfl, _, k3 _ _ (k2 _ _ q.2), size_lt (by simp; omega), same_put ((q.1.trans k2).trans k3) hD, ?_⟩
      rw [upd_same, List.range_succ, List.map_append]
      rfl
    · refine ⟨D, (List.range (ns.length + 1)).map fun k => decide (low ns k ≤ low ms k), rfl, ?_, ?_⟩
      · rw [List.map_map]
        exact SqL.of q.2
      · have z := k H' q.1
        have e : calm ns ms = ((List.range (ns.length + 1)).map fun k => decide (low ns k ≤ low ms k)).all id := by
          simp [calm, c2, List.all_map]
        rw [e] at z
        exact z
end
end Pl
namespace Pl
open PySem PySem.Spec PyProof.Rows L2
section
variable {P : Program} {w : World} {K : PySem.W.Frag} {mg : Str → Option Value} {base : Heap} {CShare : Addr}
abbrev st_is_calmer : Stmt := top 26
theorem sc_is_calmer : FnScope ["one", "other"] ["one", "other"] (defScope st_is_calmer) := ⟨rfl, rfl, rfl, by decide +kernel, rfl, by decide +kernel, by decide +kernel⟩
theorem ok_calmer (c_is_calm : Cal P w K mg base 5 "is_calm" ["one", "other"] (spCalm CShare)) (D : Df K mg "is_calmer" st_is_calmer ["one", "other"]) : Cal P w K mg base 6 "is_calmer" ["one", "other"] (spCalmer CShare) := by
  refine D.cal sc_is_calmer (fun vs H Q E h => ?_) (fun f cdv A out s H vs Q E hr h => ?_)
  · obtain ⟨s1, t1, s2, t2, ns, ms, rfl, _⟩ := h
    rfl
  obtain ⟨s1, t1, s2, t2, ns, ms, rfl, sh1, sh2, ln, k⟩ := h
  refine ⟨_, (pss_one (ps_ret (pe_and (pe_fn c_is_calm (hr.mono (by decide)) (pa_cons (pv 0) (pa_cons (pv 1) pa_nil))) (pe_one (pe_not (pe_fn c_is_calm (hr.mono (by decide)) (pa_cons (pv 1) (pa_cons (pv 0) pa_nil)))))))), ?_⟩
  refine ⟨_, rfl, _, rfl, s1, t1, s2, t2, ns, ms, rfl, sh1, sh2, ln, fun H1 k1 => ⟨_, rfl, ?_⟩⟩
  cases e : calm ns ms with
  | false =>
    rw [e] at k
    exact iteF (k H1 k1)
  | true =>
    rw [e] at k
    exact iteT ⟨_, rfl, _, rfl, s2, t2, s1, t1, ms, ns, rfl, sh2.same k1, sh1.same k1, ln.symm, fun H2 k2 => ⟨_, rfl, k H2 (k1.trans k2)⟩⟩
end
end Pl
namespace Pl
open PySem PySem.Spec PyProof.Rows L2

theorem perm_sum {l m : List Int} (h : l.Perm m) : l.sum = m.sum := by
  induction h with
  | nil => rfl
  | cons x _ ih => simp [ih]
  | swap x y l => simp; omega
  | trans _ _ a b => exact a.trans b


theorem dpInts (K : PySem.W.Frag) (H : Hp) : ∀ ns : List Int, DpAll K H (ns.map V.int) (ns.map PyData.int)
  | [] => .nil
  | n :: ns => .cons (.int n) (dpInts K H ns)
theorem depthInts : ∀ ns : List Int, PyData.depthAll (ns.map PyData.int) = 0
  | [] => rfl
  | n :: ns => by
    show max 0 (PyData.depthAll (ns.map PyData.int)) = 0
    rw [depthInts ns]; rfl
theorem layInts : ∀ ns : List Int, PyData.canLayAll0 (ns.map PyData.int) = true
  | [] => by simp [PyData.canLayAll0]
  | n :: ns => by
    simp only [List.map_cons, PyData.canLayAll0, PyData.canLay0, layInts ns, Bool.and_self]

theorem cons_erase {x : Int} : ∀ {ns : List Int} {j : Nat}, ns[j]? = some x → ([x] ++ ns.eraseIdx j).Perm ns
  | [], _, h => by simp at h
  | n :: ns, 0, h => by
    obtain rfl : n = x := by simpa using h
    exact List.Perm.refl _
  | n :: ns, j + 1, h => by
    have q := cons_erase (ns := ns) (j := j) (by simpa using h)
    show (x :: n :: ns.eraseIdx j).Perm (n :: ns)
    exact (List.Perm.swap n x _).trans (List.Perm.cons n q)
theorem map_erase {α β : Type} (f : α → β) : ∀ (l : List α) (j : Nat), (l.map f).eraseIdx j = (l.eraseIdx j).map f
  | [], j => rfl
  | x :: l, 0 => rfl
  | x :: l, j + 1 => by
    show f x :: (l.map f).eraseIdx j = f x :: (l.eraseIdx j).map f
    rw [map_erase f l j]
theorem perm_erase {ns ms zs : List Int} {j : Nat} {x : Int} (p : (ms ++ ns).Perm zs) (h : ns[j]? = some x) : ((ms ++ [x]) ++ ns.eraseIdx j).Perm zs := by
  refine List.Perm.trans ?_ p
  rw [List.append_assoc]
  refine List.Perm.append_left _ ?_
  exact cons_erase h
theorem at_int {ms : List Int} {r : Int} (h0 : 0 ≤ r) (h1 : r < ms.length) : ∃ x, ms[r.toNat]? = some x ∧ x ∈ ms ∧ atI (ms.map V.int) r = some (.int x) := by
  obtain ⟨x, hx, e, _⟩ := at_of_lt h0 h1
  refine ⟨x, e, hx, ?_⟩
  have z := atI_nat (xs := ms.map V.int) (j := r.toNat) (v := .int x) (by rw [List.getElem?_map, e]; rfl)
  rw [Int.toNat_of_nonneg h0] at z
  exact z
theorem ix_of {n : Nat} {r : Int} (h0 : 0 ≤ r) (h1 : r < n) : ixN n r = some r.toNat := by
  unfold ixN
  rw [if_pos h0, if_pos h1]
theorem am_set {ms : List Int} {j : Nat} {x : Int} (am : Am ms) (h0 : 0 ≤ x) (h1 : x ≤ 30) : Am (ms.set j x) := fun r hr => by
  rcases List.mem_or_eq_of_mem_set hr with h | h
  · exact am r h
  · rw [h]; exact ⟨h0, h1⟩
end Pl
namespace Pl
open PySem PySem.Spec PyProof.Rows L2















end Pl
namespace Pl
open PySem PySem.Spec PyProof.Rows L2
theorem sqT_same {K : PySem.W.Frag} {H H' : Hp} {a : Addr} {xs : List V} (e : Same H H') (h : SqT K H a xs) : SqT K H' a xs := by
  rcases h with (h | ⟨o, h⟩) | h
  · exact .inl (.inl (e _ _ h))
  · exact .inl (.inr ⟨o, e _ _ h⟩)
  · exact .inr h
mutual
theorem dpSame {K : PySem.W.Frag} {H H' : Hp} (k : Same H H') : ∀ (d : PyData) (v : V), Dp K H v d → Dp K H' v d
  | .none, _, h => by cases h; exact .non
  | .bool b, _, h => by cases h; exact .bl b
  | .int i, _, h => by cases h; exact .int i
  | .str z, _, h => by cases h; exact .str z
  | .list ds, _, h => by
    cases h with
    | lst a b => exact .lst (k.seq a) (dpSameAll k ds _ b)
  | .tuple ds, _, h => by
    cases h with
    | tup a b => exact .tup (sqT_same k a) (dpSameAll k ds _ b)
  | .dict _, _, h => by cases h
theorem dpSameAll {K : PySem.W.Frag} {H H' : Hp} (k : Same H H') : ∀ (ds : List PyData) (vs : List V), DpAll K H vs ds → DpAll K H' vs ds
  | [], _, h => by cases h; exact .nil
  | d :: ds, _, h => by
    cases h with
    | cons a b => exact .cons (dpSame k d _ a) (dpSameAll k ds _ b)
end
end Pl
namespace Pl
open PySem PySem.Spec PyProof.Rows L2
/-! what the top has written of Division -/
structure Cd (mg : Str → Option Value) : Prop where
  c_FEWEST_PEOPLE : ∃ t, mg "FEWEST_PEOPLE" = some (.int 2 t)
  c_MOST_PEOPLE : ∃ t, mg "MOST_PEOPLE" = some (.int 4 t)
structure DvK (K : PySem.W.Frag) (mg : Str → Option Value) (C : Addr) : Prop where
  cl : Cls K C
  nP : NoAttr K C "by_person"
  mgC : mg "Division" = some (.ref C)
  mks : PySem.W.makesIn K C = true
  kc : PySem.W.keepIn K (.ref C) = true
  ca : PySem.W.findIn K (.ref C) "__class__" = some (some (.builtin "object.__class__"))
  cg : PySem.W.specialIn K (.builtin "object.__class__") "__get__" = some (some (.builtin "getset_descriptor.__get__"))
  ct : PySem.W.takesIn K (.builtin "object.__class__") = some true
  mro : PySem.W.mroIn K C (.type "object") = some true
  kit : PySem.W.kitOne K (.ref C) (.ref C) = some true
structure DvF (K : PySem.W.Frag) (C : Addr) : Prop where
  pg : PySem.W.plainGet K C Str.empty = true
  hd : PySem.W.hasDictIn K C = true
  po : PySem.W.plainOver K C = true
  sa : PySem.W.findIn K (.ref C) "__setattr__" = some (some (.builtin "object.__setattr__"))
  nP : PySem.W.findIn K (.ref C) "by_person" = some none
  mks : PySem.W.makesIn K C = true
  kc : PySem.W.keepIn K (.ref C) = true
  ca : PySem.W.findIn K (.ref C) "__class__" = some (some (.builtin "object.__class__"))
  cg : PySem.W.specialIn K (.builtin "object.__class__") "__get__" = some (some (.builtin "getset_descriptor.__get__"))
  ct : PySem.W.takesIn K (.builtin "object.__class__") = some true
  mro : PySem.W.mroIn K C (.type "object") = some true
  kit : PySem.W.kitOne K (.ref C) (.ref C) = some true
theorem DvF.k {K : PySem.W.Frag} {mg : Str → Option Value} {C : Addr} (s : DvF K C) (g : mg "Division" = some (.ref C)) : DvK K mg C :=
  ⟨⟨s.pg, s.hd, s.po, s.sa⟩, s.nP, g, s.mks, s.kc, s.ca, s.cg, s.ct, s.mro, s.kit⟩
/-- shares with these amounts stand at these places -/
inductive ShAll (C : Addr) (H : Hp) : List Addr → List (List Int) → Prop where
  | nil : ShAll C H [] []
  | cons {s t : Addr} {ns : List Int} {ss : List Addr} {rows : List (List Int)} (h : ShAt C H s t ns) (r : ShAll C H ss rows) : ShAll C H (s :: ss) (ns :: rows)
theorem ShAll.same {C : Addr} {H H' : Hp} (k : Same H H') : ∀ {ss : List Addr} {rows : List (List Int)}, ShAll C H ss rows → ShAll C H' ss rows
  | _, _, .nil => .nil
  | _, _, .cons h r => .cons (h.same k) (r.same k)
theorem ShAll.len {C : Addr} {H : Hp} : ∀ {ss : List Addr} {rows : List (List Int)}, ShAll C H ss rows → ss.length = rows.length
  | _, _, .nil => rfl
  | _, _, .cons h r => by rw [List.length_cons, List.length_cons, r.len]
theorem ShAll.get {C : Addr} {H : Hp} : ∀ {ss : List Addr} {rows : List (List Int)} {i : Nat} {s : Addr}, ShAll C H ss rows → ss[i]? = some s → ∃ t ns, rows[i]? = some ns ∧ ShAt C H s t ns
  | _, _, 0, _, .cons h r, e => by cases e; exact ⟨_, _, rfl, h⟩
  | _, _, i + 1, _, .cons h r, e => by
    obtain ⟨t, ns, a, b⟩ := r.get (i := i) e
    exact ⟨t, ns, a, b⟩
  | _, _, _, _, .nil, e => by cases e
theorem ShAll.snoc {C : Addr} {H : Hp} {s t : Addr} {ns : List Int} (x : ShAt C H s t ns) : ∀ {ss : List Addr} {rows : List (List Int)}, ShAll C H ss rows → ShAll C H (ss ++ [s]) (rows ++ [ns])
  | _, _, .nil => .cons x .nil
  | _, _, .cons h r => .cons h (r.snoc x)
/-- the amounts of a division -/
def Rows (rows : List (List Int)) : Prop := 2 ≤ rows.length ∧ rows.length ≤ 4 ∧ ∃ n, 2 ≤ n ∧ n ≤ 6 ∧ ∀ ns ∈ rows, ns.length = n ∧ Am ns
theorem Rows.ne {rows : List (List Int)} (h : Rows rows) : rows ≠ [] := fun e => by
  have := h.1
  rw [e] at this
  simp at this
theorem Rows.am {rows : List (List Int)} (h : Rows rows) : ∀ ns ∈ rows, Am ns := fun ns hn => by
  obtain ⟨_, _, n, _, _, q⟩ := h
  exact (q ns hn).2
theorem Rows.l2 {rows : List (List Int)} (h : Rows rows) {ns : List Int} (hn : ns ∈ rows) : 2 ≤ ns.length := by
  obtain ⟨_, _, n, a, _, q⟩ := h
  have := (q ns hn).1
  omega
theorem Rows.l6 {rows : List (List Int)} (h : Rows rows) {ns : List Int} (hn : ns ∈ rows) : ns.length ≤ 6 := by
  obtain ⟨_, _, n, _, a, q⟩ := h
  have := (q ns hn).1
  omega
theorem Rows.eq {rows : List (List Int)} (h : Rows rows) {ns ms : List Int} (hn : ns ∈ rows) (hm : ms ∈ rows) : ns.length = ms.length := by
  obtain ⟨_, _, n, _, a, q⟩ := h
  rw [(q ns hn).1, (q ms hm).1]
def dvF (t : Addr) : List (Str × V) := [("by_person", .ref t)]
theorem dvF_get (t : Addr) : (dvF t).lookup ("by_person" : Str) = some (.ref t) := by simp [dvF, List.lookup]
/-- a division with the amounts rows stands at d, its tuple of shares at t -/
def DvAt (CD C : Addr) (H : Hp) (d t : Addr) (ss : List Addr) (rows : List (List Int)) : Prop := (∃ dx, H d = some (.ins CD dx (dvF t))) ∧ H t = some (.tup (ss.map V.ref)) ∧ ShAll C H ss rows ∧ Rows rows
theorem DvAt.same {CD C : Addr} {H H' : Hp} {d t : Addr} {ss : List Addr} {rows : List (List Int)} (h : DvAt CD C H d t ss rows) (k : Same H H') : DvAt CD C H' d t ss rows := by
  obtain ⟨⟨dx, h1⟩, h2, h3, r⟩ := h
  exact ⟨⟨dx, k _ _ h1⟩, k _ _ h2, h3.same k, r⟩
def spDvInit (CD C : Addr) : Sp := fun vs H Q _ => ∃ (d p dx : Addr) (ss : List Addr) (rows : List (List Int)), vs = [.ref d, .ref p] ∧ H d = some (.ins CD dx []) ∧ H p = some (.tup (ss.map V.ref)) ∧ ShAll C H ss rows ∧ Rows rows ∧
  ∀ H', Kp d H H' → DvAt CD C H' d p ss rows → Q .non H'
theorem ShAll.kp {C d : Addr} {H H' : Hp} (k : Kp d H H') (hd : ∃ CD dx fs, H d = some (.ins CD dx fs) ∧ ∀ t, fs ≠ shF t) : ∀ {ss : List Addr} {rows : List (List Int)}, ShAll C H ss rows → ShAll C H' ss rows
  | _, _, .nil => .nil
  | _, _, .cons (s := s) (t := t) h r => by
    refine .cons (t := t) ?_ (r.kp k hd)
    obtain ⟨CD, dx, fs, e, nf⟩ := hd
    obtain ⟨⟨dx2, h1⟩, h2, q⟩ := h
    refine ⟨⟨dx2, k _ _ (fun z => ?_) h1⟩, k _ _ (fun z => ?_) h2, q⟩
    · rw [z, e] at h1
      injection h1 with h1
      injection h1 with _ _ h1
      exact nf _ h1
    · rw [z, e] at h2
      cases h2
end Pl
namespace Pl
open PySem PySem.Spec PyProof.Rows L2
def spSpaced : Sp := fun vs H Q _ => ∃ (t : Addr) (ns : List Int), vs = [.ref t] ∧ H t = some (.tup (ns.map V.int)) ∧ ns.length ≤ 6 ∧ Am ns ∧ ∀ H', Same H H' → Q (.str (line ns)) H'
def spReadAmount : Sp := fun vs H Q _ => ∃ n : Int, vs = [.str (wd n)] ∧ 0 ≤ n ∧ n ≤ 30 ∧ Q (.int n) H
def spReadShare (C : Addr) : Sp := fun vs H Q _ => ∃ ns : List Int, vs = [.str (line ns)] ∧ 2 ≤ ns.length ∧ ns.length ≤ 6 ∧ Am ns ∧ ∀ (s t : Addr) (H' : Hp), Same H H' → ShAt C H' s t ns → Q (.ref s) H'
theorem log_am {n : Int} (h0 : 0 ≤ n) (h1 : n ≤ 30) : n.natAbs.log2 < 1920 := by
  have h : n.natAbs < 2 ^ 1920 := Nat.lt_of_le_of_lt (show n.natAbs ≤ 30 by omega) (by decide +kernel)
  by_cases z : n.natAbs = 0
  · rw [z]; decide
  · exact (Nat.log2_lt z).mpr h
theorem words_len {ns : List Int} (am : Am ns) : ((ns.map wd).map (·.length)).sum ≤ 2 * ns.length := by
  induction ns with
  | nil => simp
  | cons n r ih =>
    have h1 := (wd_ok (am n List.mem_cons_self).1 (am n List.mem_cons_self).2).2.2
    rw [← TL.len_tl] at h1
    have h2 := ih fun x hx => am x (List.mem_cons_of_mem _ hx)
    simp only [List.map_cons, List.sum_cons, List.length_cons]
    omega
section
variable {P : Program} {w : World} {K : PySem.W.Frag} {mg : Str → Option Value} {base : Heap} {CShare CDivision : Addr}
abbrev st_spaced : Stmt := top 23
theorem sc_spaced : FnScope ["amounts", "amount"] ["amounts"] (defScope st_spaced) := ⟨rfl, rfl, rfl, by decide +kernel, rfl, by decide +kernel, by decide +kernel⟩
theorem ok_spaced (B : Bn mg) (D : Df K mg "spaced" st_spaced ["amounts"]) : Cal P w K mg base 2 "spaced" ["amounts"] spSpaced := by
  refine D.cal sc_spaced (fun vs H Q E h => ?_) (fun f cdv A out s H vs Q E hr h => ?_)
  · obtain ⟨t, ns, rfl, _⟩ := h
    rfl
  obtain ⟨t, ns, rfl, ht, l6, am, k⟩ := h
  refine ⟨_, (pss_one (ps_ret (pe_join pe_str (pe_lc (own := [("amount", 1)]) (g := gName 1) rfl sc_spaced.nd (pi_tup (pv 0)) (blkOk_by (N := ["amounts", "amount"]) (sc := defScope st_spaced) (by decide +kernel)) (fun _ _ _ _ _ => (pg_name (i := 1) sc_spaced.nd rfl (.inl rfl))) (fun _ _ _ _ _ => pts_nil) (fun _ _ _ _ _ => (pe_callTy call_str_int (by rfl) B.n_str (by decide +kernel) (pa_cons (pv 1) pa_nil))))))), ?_⟩
  refine ⟨⟨_, rfl⟩, _, rfl, t, rfl, ⟨_, SqT.of ht⟩, fun D hD => lc_tup (K := K) (a := t) (xs := ns.map V.int) (fun i H' => Same H H' ∧ H' D = some (.lst (((ns.map wd).take i).map V.str)))
    ⟨same_new (Same.refl H) hD, upd_same⟩ (fun i H' _ q => SqT.of (q.1 _ _ ht)) (fun i x H' hx q => ⟨rfl, tyes ?_⟩) (fun H' q => ?_)⟩
  · rw [List.getElem?_map] at hx
    cases e : ns[i]? with
    | none => rw [e] at hx; cases hx
    | some n =>
      rw [e] at hx
      obtain rfl : V.int n = x := Option.some.inj hx
      have a := am n (List.mem_of_getElem? e)
      refine ⟨_, rfl, n, rfl, log_am a.1 a.2, _, q.2, size_lt (by rw [List.length_map, List.length_take, List.length_map]; omega), same_put q.1 hD, ?_⟩
      have e2 : (ns.map wd)[i]? = some (wd n) := by rw [List.getElem?_map, e]; rfl
      rw [upd_same, List.take_add_one, e2, List.map_append]
      rfl
  · have e := q.2
    rw [List.length_map, ← List.length_map (f := wd), List.take_length] at e
    refine ⟨_, D, ns.map wd, rfl, rfl, .inl (SqL.of e), ?_, ?_⟩
    · have := words_len am
      have l1 : (" " : Str).length = 1 := rfl
      rw [l1, List.length_map]
      omega
    · rw [TL.join_eq]
      exact k H' q.1
abbrev st_read_amount : Stmt := top 33
theorem sc_read_amount : FnScope ["word", "amount"] ["word"] (defScope st_read_amount) := ⟨rfl, rfl, rfl, by decide +kernel, rfl, by decide +kernel, by decide +kernel⟩
theorem ok_readAmount (B : Bn mg) (SDivision : DvK K mg CDivision) (cv_MOST : CvK K CDivision "MOST" 30) (D : Df K mg "read_amount" st_read_amount ["word"]) : Cal P w K mg base 2 "read_amount" ["word"] spReadAmount := by
  refine D.cal sc_read_amount (fun vs H Q E h => ?_) (fun f cdv A out s H vs Q E hr h => ?_)
  · obtain ⟨n, rfl, _⟩ := h
    rfl
  obtain ⟨n, rfl, n0, n1, k⟩ := h
  refine ⟨_, (pss_cons (ps_for PassesOwn.never rfl (pi_range1 (by rfl) B.n_range (pa_cons (pe_op op_add (pe_cv cv_MOST (pe_glob (v := .ref CDivision) rfl SDivision.mgC rfl)) pe_int) pa_nil)) (pg_name (i := 1) sc_read_amount.nd rfl (.inl rfl))
   (pss_one (ps_if (pt_cmpR op_eq (pv 0) (pe_callTy call_str_int (by rfl) B.n_str (by decide +kernel) (pa_cons (pv 1) pa_nil)) (nomark _)) (pss_one (ps_ret (pv 1))) pss_nil)))
   (pss_one ps_never)), ?_⟩
  refine ⟨rfl, _, _, rfl, rfl, 31, rfl, by decide, by decide, ?_⟩
  refine for_range (lo := 0) (n := 31) (fun i σ H' => ∃ v : Option V, σ = [some (.str (wd n)), v] ∧ H' = H ∧ (i : Int) ≤ n) ⟨none, rfl, rfl, by omega⟩ ?_ (fun σ H' ⟨v, _, _, z⟩ => by omega)
  rintro i σ H1 hi ⟨v, rfl, rfl, le⟩
  refine ⟨_, rfl, _, rfl, (0 + i : Int), rfl, log_am (by omega) (by omega), rfl, _, rfl, ite2 (fun c => ?_) (fun c => ?_)⟩
  · have c1 : V.str (wd n) = V.str (wd (0 + i)) := of_decide_eq_true c
    have c2 : wd n = wd (0 + i) := V.str.inj c1
    have c3 := wd_inj n0 n1 (by omega) (by omega) c2
    refine ⟨_, rfl, ?_⟩
    rw [← c3]
    exact k
  · refine ⟨_, rfl, rfl, ?_⟩
    have : ¬ n = 0 + i := fun e => c (by rw [← e]; exact decide_eq_true rfl)
    omega
abbrev st_read_share : Stmt := top 32
theorem sc_read_share : FnScope ["line", "word"] ["line"] (defScope st_read_share) := ⟨rfl, rfl, rfl, by decide +kernel, rfl, by decide +kernel, by decide +kernel⟩
theorem ok_readShare (B : Bn mg) (SShare : ShK K mg CShare) (m_initShare : MCal P w K mg base 4 CShare "__init__" ["self", "amounts"] (spInit CShare)) (c_read_amount : Cal P w K mg base 2 "read_amount" ["word"] spReadAmount) (D : Df K mg "read_share" st_read_share ["line"]) : Cal P w K mg base 6 "read_share" ["line"] (spReadShare CShare) := by
  refine D.cal sc_read_share (fun vs H Q E h => ?_) (fun f cdv A out s H vs Q E hr h => ?_)
  · obtain ⟨ns, rfl, _⟩ := h
    rfl
  obtain ⟨ns, rfl, l2, l6, am, k⟩ := h
  refine ⟨_, (pss_one (ps_ret (pe_mk m_initShare SShare.mks SShare.kc SShare.mgC (hr.mono (by decide)) (pa_cons (pe_callTy call_tuple_of (by rfl) B.n_tuple (by decide +kernel) (pa_cons (pe_lc (own := [("word", 1)]) (g := gName 1) rfl sc_read_share.nd (pi_list (pe_m1 F.slot_str_split F.type_str_split mt_split (pv 0) pe_str)) (blkOk_by (N := ["line", "word"]) (sc := defScope st_read_share) (by decide +kernel)) (fun _ _ _ _ _ => (pg_name (i := 1) sc_read_share.nd rfl (.inl rfl))) (fun _ _ _ _ _ => pts_nil) (fun _ _ _ _ _ => (pe_fn c_read_amount (hr.mono (by decide)) (pa_cons (pv 1) pa_nil)))) pa_nil)) pa_nil)))), ?_⟩
  have ll := line_len am
  refine ⟨_, rfl, ⟨_, rfl⟩, _, _, rfl, rfl, rfl, Nat.le_trans (show (line ns).length + 2 ≤ 1000 by omega) (by decide), ?_⟩
  rw [split_line (by intro z; rw [z] at l2; simp at l2) am]
  intro p np
  refine ⟨p, rfl, ⟨_, SqL.of upd_same⟩, fun D hD => lc_list (K := K) (a := p) (xs := (ns.map wd).map V.str) (fun i H' => Same (upd H p (.lst ((ns.map wd).map V.str))) H' ∧ H' D = some (.lst ((ns.take i).map V.int)))
    ⟨same_new (Same.refl _) hD, upd_same⟩ (fun i H' _ q => SqL.of (q.1 _ _ upd_same)) (fun i x H' hx q => ⟨rfl, tyes ?_⟩) (fun H' q => ?_)⟩
  · rw [List.getElem?_map, List.getElem?_map] at hx
    cases e : ns[i]? with
    | none => rw [e] at hx; cases hx
    | some n =>
      rw [e] at hx
      obtain rfl : V.str (wd n) = x := Option.some.inj hx
      have a := am n (List.mem_of_getElem? e)
      refine ⟨_, rfl, n, rfl, a.1, a.2, _, q.2, size_lt (by rw [List.length_map, List.length_take]; omega), same_put q.1 hD, ?_⟩
      rw [upd_same, List.take_add_one, e, List.map_append]
      rfl
  · have e := q.2
    rw [List.length_map, List.length_map, List.take_length] at e
    have s1 : Same H H' := fun b o z => q.1 _ _ (by rw [upd_ne (ne_of_none z np)]; exact z)
    refine ⟨D, _, rfl, .inl ⟨SqL.of e, fun l hl x dx nx nd nex => ?_⟩⟩
    have s2 : Same H (upd H' l (.tup (ns.map V.int))) := same_new s1 hl
    exact mk_at nx nd upd_same l2 l6 am fun H3 k3 sh => k x l H3 (s2.trans k3) sh
abbrev st_DvInit : Stmt := inClass (top 30) 1
theorem sc_DvInit : FnScope ["self", "shares", "share"] ["self", "shares"] (defScope st_DvInit) := ⟨rfl, rfl, rfl, by decide +kernel, rfl, by decide +kernel, by decide +kernel⟩
theorem ok_dvInit (B : Bn mg) (Cc : Cd mg) (SDivision : DvK K mg CDivision) (c_check_pair : Cal P w K mg base 4 "check_pair" ["one", "other"] (spPair CShare)) (D : MhK K CDivision "__init__" "Division.__init__" st_DvInit) :
    MCalR P w K mg base CX0 5 CDivision "__init__" (spStar (spDvInit CDivision CShare)) := by
  refine D.star sc_DvInit (fun kV doc pm an cdv ct => StX.bind_star1 (B := fun us => bindArgs (PySem.W.fnOf "__init__" "Division.__init__" (defArgs st_DvInit) (defBody st_DvInit) (defScope st_DvInit) .none kV doc pm an cdv ct) ⟨us, []⟩) (fun a => rfl) (fun a r rs => rfl)) (fun f cdv A out s H vs Q E hr h => ?_)
  obtain ⟨d, p, dx, ss, rows, rfl, hd, hp, sh, rw_, k⟩ := h
  refine ⟨_, (pss_cons (ps_for PassesOwn.never rfl (pi_tup (pv 1)) (pg_name (i := 2) sc_DvInit.nd rfl (.inl rfl))
   (pss_one (ps_expr (pe_fn c_check_pair (hr.mono (by decide)) (pa_cons (pe_ix ix_tup (pv 1) pe_int (fun _ _ => rfl)) (pa_cons (pv 2) pa_nil))))))
   (pss_cons (ps_if (pt_not (pt_chain op_le op_le (pe_glob (v := .int 2) rfl Cc.c_FEWEST_PEOPLE.choose_spec ⟨_, rfl⟩) (pe_callB call_len_seq (by rfl) B.n_len (by decide +kernel) (pa_cons (pv 1) pa_nil)) (pe_glob (v := .int 4) rfl Cc.c_MOST_PEOPLE.choose_spec ⟨_, rfl⟩))) (pss_one ps_never) pss_nil)
   (pss_one (ps_fld (pv 0) (pv 1) rfl)))), ?_⟩
  have ln := sh.len
  refine ⟨_, rfl, p, rfl, ⟨_, SqT.of hp⟩, ?_⟩
  refine for_tup (K := K) (a := p) (xs := ss.map V.ref) (fun i σ H' => ∃ v : Option V, σ = [some (.ref d), some (.ref p), v] ∧ H' = H) ⟨none, rfl, rfl⟩ (fun i σ H' _ ⟨v, _, e⟩ => by rw [e]; exact SqT.of hp) ?_ ?_
  · rintro i x σ H1 hx ⟨v, rfl, rfl⟩
    rw [List.getElem?_map] at hx
    cases e : ss[i]? with
    | none => rw [e] at hx; cases hx
    | some s2 =>
      rw [e] at hx
      obtain rfl : V.ref s2 = x := Option.some.inj hx
      obtain ⟨t2, ms, em, sh2⟩ := sh.get e
      have l0 : 0 < ss.length := by have := rw_.1; omega
      have e0 : ss[0]? = some ss[0] := List.getElem?_eq_getElem l0
      obtain ⟨t1, ns, en, sh1⟩ := sh.get e0
      refine ⟨_, rfl, p, _, _, _, rfl, rfl, SqT.of hp, atI_nat (j := 0) (by rw [List.getElem?_map, e0]; rfl), ?_⟩
      exact ⟨_, rfl, ss[0], t1, s2, t2, ns, ms, rfl, sh1, sh2, rw_.eq (List.mem_of_getElem? en) (List.mem_of_getElem? em), _, rfl, rfl⟩
  · rintro σ H1 ⟨v, rfl, rfl⟩
    refine ⟨_, rfl, p, _, rfl, .inr (SqT.of hp), _, _, rfl, rfl, _, rfl, ?_⟩
    have a1 : decide ((2 : Int) ≤ ((ss.map V.ref).length : Int)) = true := by
      have := rw_.1
      simp
      omega
    have a2 : decide (((ss.map V.ref).length : Int) ≤ 4) = true := by
      have := rw_.2.1
      simp
      omega
    rw [a1]
    refine iteT ⟨_, _, rfl, rfl, _, rfl, ?_⟩
    rw [a2]
    refine iteF ?_
    refine ⟨_, rfl, _, rfl, d, CDivision, dx, _, rfl, hd, SDivision.cl, SDivision.nP, (by show 0 < 1000; decide), ?_⟩
    have tp : p ≠ d := ne_of hp hd (by intro z; cases z)
    have kp : Kp d H1 (upd H1 d (.ins CDivision dx (putF "by_person" (.ref p) []))) := Kp.upd
    exact k _ kp ⟨⟨dx, upd_same⟩, by rw [upd_ne tp]; exact hp, sh.kp kp ⟨_, _, _, hd, fun t z => by cases z⟩, rw_⟩
end
end Pl
namespace Pl
open PySem PySem.Spec PyProof.Rows L2
def spRead (CD C : Addr) : Sp := fun vs H Q _ => ∃ rows : List (List Int), vs = [.ref CD, .str (text rows)] ∧ Rows rows ∧ ∀ (d t : Addr) (ss : List Addr) (H' : Hp), Same H H' → DvAt CD C H' d t ss rows → Q (.ref d) H'
def spPeople (CD C : Addr) : Sp := fun vs H Q _ => ∃ (d t : Addr) (ss : List Addr) (rows : List (List Int)), vs = [.ref d] ∧ DvAt CD C H d t ss rows ∧ Q (.int rows.length) H
def spStates (CD C : Addr) : Sp := fun vs H Q _ => ∃ (d t : Addr) (ss : List Addr) (rows : List (List Int)), vs = [.ref d] ∧ DvAt CD C H d t ss rows ∧ ∀ ns ∈ rows, Q (.int ns.length) H

theorem Rows.tlen {rows : List (List Int)} (h : Rows rows) : (text rows).length ≤ 76 := text_len (m := 6) (k := 4) h.2.1 (fun ns hn => h.l6 hn) h.am
theorem ShAll.get2 {C : Addr} {H : Hp} : ∀ {ss : List Addr} {rows : List (List Int)} {i : Nat} {ns : List Int}, ShAll C H ss rows → rows[i]? = some ns → ∃ s t, ss[i]? = some s ∧ ShAt C H s t ns
  | _, _, 0, _, .cons h r, e => by cases e; exact ⟨_, _, rfl, h⟩
  | _, _, i + 1, _, .cons h r, e => by
    obtain ⟨t, ns, a, b⟩ := r.get2 (i := i) e
    exact ⟨t, ns, a, b⟩
  | _, _, _, _, .nil, e => by cases e
/-- shares are read one by one -/
def RInv (C D : Addr) (H0 : Hp) (rows : List (List Int)) (i : Nat) (H : Hp) : Prop := Same H0 H ∧ ∃ ss : List Addr, H D = some (.lst (ss.map V.ref)) ∧ ShAll C H ss (rows.take i)
theorem RInv.start {C D : Addr} {H0 : Hp} {rows : List (List Int)} (h : H0 D = none) : RInv C D H0 rows 0 (L2.upd H0 D (.lst [])) := ⟨same_new (Same.refl H0) h, [], upd_same, .nil⟩
theorem ShAt.put {C D : Addr} {H : Hp} {s t : Addr} {ns : List Int} {xs : List V} {o : HO} (h : ShAt C H s t ns) (e : H D = some (.lst xs)) : ShAt C (L2.upd H D o) s t ns := by
  obtain ⟨⟨dx, h1⟩, h2, r⟩ := h
  exact ⟨⟨dx, by rw [upd_ne (ne_of h1 e (by intro z; cases z))]; exact h1⟩, by rw [upd_ne (ne_of h2 e (by intro z; cases z))]; exact h2, r⟩
theorem ShAll.put {C D : Addr} {H : Hp} {xs : List V} {o : HO} (e : H D = some (.lst xs)) : ∀ {ss : List Addr} {rows : List (List Int)}, ShAll C H ss rows → ShAll C (L2.upd H D o) ss rows
  | _, _, .nil => .nil
  | _, _, .cons h r => .cons (h.put e) (r.put e)
theorem RInv.next {C D s t : Addr} {H0 H H' : Hp} {rows : List (List Int)} {i : Nat} {ns : List Int} (p : RInv C D H0 rows i H) (n : H0 D = none) (l : rows.length ≤ 900) (e : rows[i]? = some ns) (k : Same H H') (sh : ShAt C H' s t ns) :
    ∃ acc, H' D = some (.lst acc) ∧ acc.length < sizeLine ∧ RInv C D H0 rows (i + 1) (L2.upd H' D (.lst (acc ++ [.ref s]))) := by
  obtain ⟨s0, ss, hd, al⟩ := p
  have hd2 := k _ _ hd
  have hl := al.len
  refine ⟨_, hd2, size_lt ?_, same_put (s0.trans k) n, ss ++ [s], ?_, ?_⟩
  · rw [List.length_map, hl, List.length_take]; omega
  · rw [upd_same, List.map_append]; rfl
  · rw [List.take_add_one, e]
    exact ((al.same k).put hd2).snoc (sh.put hd2)
theorem sum_le {α : Type} {f : α → Str} {c : Nat} : ∀ {l : List α}, (∀ x ∈ l, (f x).length ≤ c) → ((l.map f).map (·.length)).sum ≤ c * l.length
  | [], _ => Nat.zero_le _
  | x :: r, h => by
    have h1 := h x List.mem_cons_self
    have h2 := sum_le fun y hy => h y (List.mem_cons_of_mem _ hy)
    simp only [List.map_cons, List.sum_cons, List.length_cons, Nat.mul_add, Nat.mul_one]
    omega
section
variable {P : Program} {w : World} {K : PySem.W.Frag} {mg : Str → Option Value} {base : Heap} {CShare CDivision : Addr}
abbrev st_Di_read : Stmt := inClass (top 30) 2
theorem sc_Di_read : FnScope ["cls", "text", "shares", "line"] ["cls", "text"] (defScope st_Di_read) := ⟨rfl, rfl, rfl, by decide +kernel, rfl, by decide +kernel, by decide +kernel⟩
theorem ok_read (B : Bn mg) (SDivision : DvK K mg CDivision) (c_read_share : Cal P w K mg base 6 "read_share" ["line"] (spReadShare CShare)) (m_initDivision : MCalR P w K mg base CX0 5 CDivision "__init__" (spStar (spDvInit CDivision CShare)))
    (D : CmK K CDivision "read" "Division.read" st_Di_read) : CmCal P w K mg base CX0 7 CDivision "read" (spRead CDivision CShare) := by
  refine D.cal (fun _ _ _ _ _ _ us hl => match us, hl with | [_, _], _ => rfl) sc_Di_read (fun vs H Q E h => ?_) (fun f cdv A out s H vs Q E hr h => ?_)
  · obtain ⟨rows, rfl, _⟩ := h
    rfl
  obtain ⟨rows, rfl, rw_, k⟩ := h
  refine ⟨_, (pss_cons (ps_if (PW.pt (pw_or (pt_not (pt_val (pe_callB call_isi (by rfl) B.n_isinstance (by decide +kernel) (pa_cons (pv 1) (pa_cons (pe_bltn (v := .ty "str") (by rfl) B.n_str (by decide +kernel) rfl) pa_nil))))) (pw_or1 (pt_not (pt_val (pe_m1 F.slot_str_endswith F.type_str_endswith mt_endswith (pv 1) pe_str)))))) (pss_one ps_never) pss_nil)
   (pss_one (ps_try_thru0 (pss_cons (ps_setLc (i := 2) (own := [("line", 3)]) (g := gName 3) rfl sc_Di_read.nd rfl rfl (sw_true rfl rfl rfl (by decide +kernel)) (pi_list (pe_m1 F.slot_str_split F.type_str_split mt_split (pe_slice sl_str (pv 1) po_none (po_some (pe_un un_neg pe_int))) pe_str)) (blkOk_by (N := ["cls", "text", "shares", "line"]) (sc := defScope st_Di_read) (by decide +kernel)) (fun _ _ _ _ _ => (pg_name (i := 3) sc_Di_read.nd rfl (.inl rfl))) (fun _ _ _ _ _ => pts_nil) (fun _ _ _ _ _ => (pe_fn c_read_share (hr.mono (by decide)) (pa_cons (pv 3) pa_nil))))
   (pss_one (ps_ret (pe_mkV m_initDivision pass0 SDivision.mks SDivision.kc (hr.mono (by decide)) (pv 0) (pv 2)))))))), ?_⟩
  refine ⟨_, rfl, _, _, _, _, true, rfl, .ty _, .base (.str _), kit_ty (by decide +kernel), _, rfl, iteF ?_⟩
  refine ⟨_, rfl, ⟨_, rfl⟩, _, _, rfl, rfl, ?_⟩
  rw [text_ends rw_.ne]
  refine ⟨_, rfl, iteF ?_⟩
  have tl := rw_.tlen
  refine ⟨_, rfl, 1, rfl, (-1), rfl, _, rfl, Nat.le_trans (show (text rows).length ≤ 1000 by omega) (by decide), ?_⟩
  rw [text_cut rw_.ne]
  have bl := body_len rw_.ne
  refine ⟨⟨_, rfl⟩, _, _, rfl, rfl, rfl, Nat.le_trans (show (body rows).length + 2 ≤ 1000 by omega) (by decide), ?_⟩
  rw [body_split rw_.ne rw_.am]
  intro p np
  refine ⟨p, rfl, ⟨_, SqL.of upd_same⟩, fun D hD => lc_list (K := K) (a := p) (xs := (rows.map line).map V.str) (RInv CShare D (upd H p (.lst ((rows.map line).map V.str))) rows)
    (RInv.start hD) (fun i H' _ q => SqL.of (q.1 _ _ upd_same)) (fun i x H' hx q => ⟨rfl, tyes ?_⟩) (fun H' q => ?_)⟩
  · rw [List.getElem?_map, List.getElem?_map] at hx
    cases e : rows[i]? with
    | none => rw [e] at hx; cases hx
    | some ns =>
      rw [e] at hx
      obtain rfl : V.str (line ns) = x := Option.some.inj hx
      have m := List.mem_of_getElem? e
      exact ⟨_, rfl, ns, rfl, rw_.l2 m, rw_.l6 m, rw_.am ns m, fun s t H2 k2 sh => q.next hD (by have := rw_.2.1; omega) e k2 sh⟩
  · obtain ⟨s0, ss, hd, al⟩ := q
    rw [List.length_map, List.length_map, List.take_length] at al
    have s1 : Same H H' := fun b o z => s0 _ _ (by rw [upd_ne (ne_of_none z np)]; exact z)
    refine ⟨_, rfl, rfl, _, rfl, D, _, rfl, .inr (SqL.of hd), fun x dx nx nd nex => ⟨_, _, rfl, ?_, fun q hq => ?_⟩⟩
    · have := al.len
      have := rw_.2.1
      exact size_of (by rw [List.length_map]; omega)
    have s2 : Same H' (upd (upd (upd H' dx (.own x)) x (.ins CDivision dx [])) q (.tup (ss.map V.ref))) := same_new (same_new (same_new (Same.refl _) nd) (by rw [upd_ne (Ne.symm nex)]; exact nx)) hq
    have xq : x ≠ q := fun z => by rw [← z, upd_same] at hq; cases hq
    refine ⟨x, q, dx, ss, rows, rfl, by rw [upd_ne xq, upd_same], upd_same, al.same s2, rw_, fun H3 kp dv => ⟨rfl, k x q ss H3 ?_ dv⟩⟩
    exact fun b o z => kp b o (ne_of_none (s1 b o z) nx) (s2 b o (s1 b o z))
abbrev st_Di_shares : Stmt := inClass (top 30) 3
theorem sc_Di_shares : FnScope ["self"] ["self"] (defScope st_Di_shares) := ⟨rfl, rfl, rfl, by decide +kernel, rfl, by decide +kernel, by decide +kernel⟩
theorem ok_pshares (SDivision : DvK K mg CDivision) (D : Ph K CDivision "shares" "Division.shares" st_Di_shares ["self"]) : PCal P w K mg base 2 CDivision "shares" ["self"] (getSp CDivision "by_person") := by
  refine D.cal sc_Di_shares (fun vs H Q E h => ?_) (fun f cdv A out s H vs Q E hr h => ?_)
  · obtain ⟨a, dx, fs, v, rfl, _⟩ := h
    rfl
  obtain ⟨a, dx, fs, v, rfl, h1, l, k⟩ := h
  refine ⟨_, (pss_one (ps_ret (pe_fld (pv 0) rfl))), ?_⟩
  exact ⟨_, rfl, a, CDivision, dx, _, _, rfl, h1, SDivision.cl, SDivision.nP, l, k⟩
abbrev st_Di_people : Stmt := inClass (top 30) 4
theorem sc_Di_people : FnScope ["self"] ["self"] (defScope st_Di_people) := ⟨rfl, rfl, rfl, by decide +kernel, rfl, by decide +kernel, by decide +kernel⟩
theorem ok_people (B : Bn mg) (SDivision : DvK K mg CDivision) (D : Ph K CDivision "people" "Division.people" st_Di_people ["self"]) : PCal P w K mg base 2 CDivision "people" ["self"] (spPeople CDivision CShare) := by
  refine D.cal sc_Di_people (fun vs H Q E h => ?_) (fun f cdv A out s H vs Q E hr h => ?_)
  · obtain ⟨d, t, ss, rows, rfl, _⟩ := h
    rfl
  obtain ⟨d, t, ss, rows, rfl, ⟨⟨dx, hd⟩, ht, al, rw_⟩, k⟩ := h
  refine ⟨_, (pss_one (ps_ret (pe_callB call_len_seq (by rfl) B.n_len (by decide +kernel) (pa_cons (pe_fld (pv 0) rfl) pa_nil)))), ?_⟩
  refine ⟨_, rfl, d, CDivision, dx, _, _, rfl, hd, SDivision.cl, SDivision.nP, dvF_get t, t, _, rfl, .inr (SqT.of ht), ?_⟩
  rw [List.length_map, al.len]
  exact k
abbrev st_Di_states : Stmt := inClass (top 30) 5
theorem sc_Di_states : FnScope ["self"] ["self"] (defScope st_Di_states) := ⟨rfl, rfl, rfl, by decide +kernel, rfl, by decide +kernel, by decide +kernel⟩
theorem ok_states (B : Bn mg) (SDivision : DvK K mg CDivision) (m_len : MCal P w K mg base 2 CShare "__len__" ["self"] (spLen CShare)) (D : Ph K CDivision "states" "Division.states" st_Di_states ["self"]) : PCal P w K mg base 4 CDivision "states" ["self"] (spStates CDivision CShare) := by
  refine D.cal sc_Di_states (fun vs H Q E h => ?_) (fun f cdv A out s H vs Q E hr h => ?_)
  · obtain ⟨d, t, ss, rows, rfl, _⟩ := h
    rfl
  obtain ⟨d, t, ss, rows, rfl, ⟨⟨dx, hd⟩, ht, al, rw_⟩, k⟩ := h
  refine ⟨_, (pss_one (ps_ret (pe_callB (call_lenM m_len (hr.mono (by decide))) (by rfl) B.n_len (by decide +kernel) (pa_cons (pe_ix ix_tup (pe_fld (pv 0) rfl) pe_int (fun _ _ => rfl)) pa_nil)))), ?_⟩
  have l0 : 0 < rows.length := by have := rw_.1; omega
  have e0 : rows[0]? = some rows[0] := List.getElem?_eq_getElem l0
  obtain ⟨s1, t1, es, sh⟩ := al.get2 e0
  have m := List.mem_of_getElem? e0
  have l6 := rw_.l6 m
  refine ⟨_, rfl, d, CDivision, dx, _, _, rfl, hd, SDivision.cl, SDivision.nP, dvF_get t, t, _, _, _, rfl, rfl, SqT.of ht, atI_nat (j := 0) (by rw [List.getElem?_map, es]; rfl), ?_⟩
  obtain ⟨d1, a1⟩ := sh.1
  exact ⟨s1, d1, _, rfl, a1, s1, t1, rows[0], rfl, sh, rows[0].length, rfl, by omega, k _ m⟩



end
end Pl
namespace Pl
open PySem PySem.Spec PyProof.Rows L2
/-- the number of states -/
def nst (rows : List (List Int)) : Nat := (rows.headD []).length
theorem Rows.nst {rows : List (List Int)} (h : Rows rows) : ∀ ns ∈ rows, ns.length = nst rows := fun ns hn => by
  cases rows with
  | nil => simp at hn
  | cons r rs => exact h.eq hn List.mem_cons_self
theorem Rows.nst6 {rows : List (List Int)} (h : Rows rows) : 2 ≤ Pl.nst rows ∧ Pl.nst rows ≤ 6 := by
  cases rows with
  | nil => exact absurd rfl h.ne
  | cons r rs => exact ⟨h.l2 List.mem_cons_self, h.l6 List.mem_cons_self⟩
/-- what all have in a state -/
def col (rows : List (List Int)) (i : Nat) : List Int := rows.map fun ns => ns.getD i 0
def tots (rows : List (List Int)) : List Int := (List.range (nst rows)).map fun i => (col rows i).sum
theorem tots_len (rows : List (List Int)) : (tots rows).length = nst rows := by simp [tots]
theorem tots_at {rows : List (List Int)} {i : Nat} (h : i < nst rows) : (tots rows)[i]? = some (col rows i).sum := by
  unfold tots
  rw [List.getElem?_map, List.getElem?_range h]
  rfl
/-- tuples of these amounts stand at these places -/
def TpAll (H : Hp) (ts : List Addr) (rows : List (List Int)) : Prop := ts.length = rows.length ∧ ∀ (j : Nat) (t : Addr) (ns : List Int), ts[j]? = some t → rows[j]? = some ns → H t = some (.tup (ns.map V.int))
theorem TpAll.same {H H' : Hp} {ts : List Addr} {rows : List (List Int)} (h : TpAll H ts rows) (k : Same H H') : TpAll H' ts rows := ⟨h.1, fun j t ns a b => k _ _ (h.2 j t ns a b)⟩
theorem TpAll.nil {H : Hp} : TpAll H [] [] := ⟨rfl, fun j t ns a => by simp at a⟩
theorem TpAll.snoc {H : Hp} {ts : List Addr} {rows : List (List Int)} {t : Addr} {ns : List Int} (h : TpAll H ts rows) (e : H t = some (.tup (ns.map V.int))) : TpAll H (ts ++ [t]) (rows ++ [ns]) := by
  refine ⟨by simp [h.1], fun j u ms a b => ?_⟩
  rcases Nat.lt_trichotomy j ts.length with q | q | q
  · rw [List.getElem?_append_left q] at a
    rw [List.getElem?_append_left (by rw [← h.1]; exact q)] at b
    exact h.2 j u ms a b
  · have e1 : (ts ++ [t])[j]? = some t := by rw [q]; simp
    have e2 : (rows ++ [ns])[j]? = some ns := by rw [q, h.1]; simp
    rw [e1] at a
    rw [e2] at b
    cases a
    cases b
    exact e
  · rw [List.getElem?_eq_none (by simp; omega)] at a
    cases a
theorem TpAll.get {H : Hp} {ts : List Addr} {rows : List (List Int)} (h : TpAll H ts rows) {t : Addr} (m : t ∈ ts) : ∃ ns ∈ rows, H t = some (.tup (ns.map V.int)) := by
  obtain ⟨j, lt, e⟩ := List.getElem_of_mem m
  have l2 : j < rows.length := by rw [← h.1]; exact lt
  exact ⟨rows[j], List.getElem_mem l2, h.2 j t _ (by rw [← e]; exact List.getElem?_eq_getElem lt) (List.getElem?_eq_getElem l2)⟩
theorem TpAll.put {D : Addr} {H : Hp} {ts : List Addr} {rows : List (List Int)} {xs : List V} {o : HO} (h : TpAll H ts rows) (e : H D = some (.lst xs)) : TpAll (L2.upd H D o) ts rows :=
  ⟨h.1, fun j t ns a b => by
    have z := h.2 j t ns a b
    rw [upd_ne (ne_of z e (by intro z; cases z))]
    exact z⟩
theorem walkN {K : PySem.W.Frag} {ts : List Addr} {rows : List (List Int)} (rw_ : Rows rows) (l : ts.length = rows.length) :
    Walk (ItzN K ts) (nst rows) (fun H => TpAll H ts rows) (fun i H v H' => ∃ T, v = .ref T ∧ H T = none ∧ H' = upd H T (.tup ((col rows i).map V.int))) := by
  refine ⟨?_, ?_, ?_⟩
  · intro i H hi q a ha
    obtain ⟨ns, m, e⟩ := q.get ha
    have ln := rw_.nst ns m
    exact ⟨_, _, SqT.of e, by rw [List.getElem?_map, List.getElem?_eq_getElem (show i < ns.length by omega)]; rfl⟩
  · intro H q
    cases ts with
    | nil =>
      have := rw_.1
      simp at l
      omega
    | cons a r =>
      obtain ⟨ns, m, e⟩ := q.get (t := a) List.mem_cons_self
      exact ⟨a, r, _, rfl, SqT.of e, by rw [List.length_map, rw_.nst ns m]; exact Nat.le_refl _⟩
  · rintro i H v H' hi q ⟨T, vs, rfl, nT, rfl, lv, k⟩
    refine ⟨T, rfl, nT, ?_⟩
    have e : vs = (col rows i).map V.int := by
      refine List.ext_getElem? fun j => ?_
      by_cases lt : j < ts.length
      · have l2 : j < rows.length := by omega
        have h1 := k j ts[j] _ (List.getElem?_eq_getElem lt) (SqT.of (q.2 j _ _ (List.getElem?_eq_getElem lt) (List.getElem?_eq_getElem l2)))
        have ln := rw_.nst _ (List.getElem_mem l2)
        rw [← h1, col, List.map_map, List.getElem?_map, List.getElem?_map, List.getElem?_eq_getElem l2, List.getElem?_eq_getElem (show i < rows[j].length by omega)]
        simp [List.getD, List.getElem?_eq_getElem (show i < rows[j].length by omega)]
      · rw [List.getElem?_eq_none (by omega), List.getElem?_eq_none (by simp [col]; omega)]
    rw [e]
def spTotals (CD C : Addr) : Sp := fun vs H Q _ => ∃ (d t : Addr) (ss : List Addr) (rows : List (List Int)), vs = [.ref d] ∧ DvAt CD C H d t ss rows ∧ ∀ (p : Addr) (H' : Hp), Same H H' → H' p = some (.tup ((tots rows).map V.int)) → Q (.ref p) H'
def spDvItem (K : PySem.W.Frag) (CD C CP : Addr) : Sp := fun vs H Q E => ∃ (d t : Addr) (ss : List Addr) (rows : List (List Int)) (y : V), vs = [.ref d, y] ∧ DvAt CD C H d t ss rows ∧ Kd K H y ∧
  (∀ (i : Nat) (s : Addr), y = .int i → ss[i]? = some s → Q (.ref s) H) ∧ (isTo (rows.length - 1) y = false → E (.ref CP) none H)
section
variable {P : Program} {w : World} {K : PySem.W.Frag} {mg : Str → Option Value} {base : Heap} {CShare CDivision CNoShare CNoAmounts CNoPerson : Addr}
abbrev st_Di_totals : Stmt := inClass (top 30) 6
theorem sc_Di_totals : FnScope ["self", "rows", "share", "column"] ["self"] (defScope st_Di_totals) := ⟨rfl, rfl, rfl, by decide +kernel, rfl, by decide +kernel, by decide +kernel⟩
theorem ok_totals (B : Bn mg) (SShare : ShK K mg CShare) (SDivision : DvK K mg CDivision) (p_amounts : PCal P w K mg base 2 CShare "amounts" ["self"] (getSp CShare "by_state"))
    (D : Ph K CDivision "totals" "Division.totals" st_Di_totals ["self"]) : PCal P w K mg base 4 CDivision "totals" ["self"] (spTotals CDivision CShare) := by
  refine D.cal sc_Di_totals (fun vs H Q E h => ?_) (fun f cdv A out s H vs Q E hr h => ?_)
  · obtain ⟨d, t, ss, rows, rfl, _⟩ := h
    rfl
  obtain ⟨d, t, ss, rows, rfl, ⟨⟨dx, hd⟩, ht, al, rw_⟩, k⟩ := h
  refine ⟨_, (pss_cons (ps_setLc (i := 1) (own := [("share", 2)]) (g := gName 2) rfl sc_Di_totals.nd rfl rfl (sw_true rfl rfl rfl (by decide +kernel)) (pi_tup (pe_fld (pv 0) rfl)) (blkOk_by (N := ["self", "rows", "share", "column"]) (sc := defScope st_Di_totals) (by decide +kernel)) (fun _ _ _ _ _ => (pg_name (i := 2) sc_Di_totals.nd rfl (.inl rfl))) (fun _ _ _ _ _ => pts_nil) (fun _ _ _ _ _ => (pe_pr p_amounts SShare.cl (hr.mono (by decide)) (pv 2))))
   (pss_one (ps_ret (pe_callTy call_tuple_of (by rfl) B.n_tuple (by decide +kernel) (pa_cons (pe_lc (own := [("column", 3)]) (g := gName 3) rfl sc_Di_totals.nd (pi_zipS (by rfl) B.n_zip (pv 1)) (blkOk_by (N := ["self", "rows", "share", "column"]) (sc := defScope st_Di_totals) (by decide +kernel)) (fun _ _ _ _ _ => (pg_name (i := 3) sc_Di_totals.nd rfl (.inl rfl))) (fun _ _ _ _ _ => pts_nil) (fun _ _ _ _ _ => (pe_callB (show CallR _ (.builtin "sum") (rSumT K) from call_sumT rfl) (by rfl) B.n_sum (by decide +kernel) (pa_cons (pv 3) pa_nil)))) pa_nil))))), ?_⟩
  have ln := al.len
  refine ⟨_, rfl, d, CDivision, dx, _, _, rfl, hd, SDivision.cl, SDivision.nP, dvF_get t, t, rfl, ⟨_, SqT.of ht⟩, fun D hD => lc_tup (K := K) (a := t) (xs := ss.map V.ref)
    (fun i H' => Same H H' ∧ ∃ ts, H' D = some (.lst (ts.map V.ref)) ∧ TpAll H' ts (rows.take i)) ⟨same_new (Same.refl H) hD, [], upd_same, .nil⟩ (fun i H' _ q => SqT.of (q.1 _ _ ht)) (fun i x H' hx q => ⟨rfl, tyes ?_⟩) (fun H' q => ?_)⟩
  · rw [List.getElem?_map] at hx
    cases e : ss[i]? with
    | none => rw [e] at hx; cases hx
    | some s1 =>
      rw [e] at hx
      obtain rfl : V.ref s1 = x := Option.some.inj hx
      obtain ⟨t1, ns, en, sh⟩ := al.get e
      obtain ⟨⟨d1, a1⟩, a2, _⟩ := id sh
      obtain ⟨s0, ts, hD2, tp⟩ := q
      refine ⟨_, rfl, s1, d1, _, rfl, s0 _ _ a1, s1, d1, _, _, rfl, s0 _ _ a1, shF_get t1, _, hD2, size_lt ?_, same_put s0 hD, ts ++ [t1], ?_, ?_⟩
      · rw [List.length_map, tp.1, List.length_take]
        have := rw_.2.1
        omega
      · rw [upd_same, List.map_append]
        rfl
      · rw [List.take_add_one, en]
        exact (tp.put hD2).snoc (by rw [upd_ne (ne_of (s0 _ _ a2) hD2 (by intro z; cases z))]; exact s0 _ _ a2)
  · obtain ⟨s0, ts, hD2, tp⟩ := q
    rw [List.length_map, ln, List.take_length] at tp
    have l0 := rw_.1
    have l4 := rw_.2.1
    have n6 := rw_.nst6
    refine ⟨_, rfl, D, ts, rfl, .inr (SqL.of hD2), by rw [tp.1]; exact l0, by rw [tp.1]; exact l4, fun a ha => ?_, fun D2 nD2 => lc_it (walkN rw_ tp.1) (fun i H2 => Same H' H2 ∧ H2 D2 = some (.lst (((tots rows).take i).map V.int)))
      ⟨same_new (Same.refl H') nD2, upd_same⟩ (fun i H2 _ q => tp.same q.1) ?_ (fun H2 q => ?_)⟩
    · obtain ⟨ns, _, e⟩ := tp.get ha
      exact ⟨_, SqT.of e⟩
    · rintro i x H2 H3 hi q ⟨T, rfl, nT, rfl⟩
      refine ⟨rfl, tyes ⟨_, rfl, T, col rows i, rfl, SqT.of upd_same, ((tots rows).take i).map V.int, ?_, size_lt (by rw [List.length_map, List.length_take, tots_len]; omega), same_put (same_new q.1 nT) nD2, ?_⟩⟩
      · exact (by rw [upd_ne (ne_of_none q.2 nT)]; exact q.2)
      · rw [upd_same, List.take_add_one, tots_at hi, List.map_append]
        rfl
    · have e := q.2
      rw [← tots_len, List.take_length] at e
      exact ⟨D2, _, rfl, .inl ⟨SqL.of e, fun l hl => k l _ (same_new (s0.trans q.1) hl) upd_same⟩⟩
abbrev st_Di_getitem : Stmt := inClass (top 30) 7
theorem sc_Di_getitem : FnScope ["self", "at"] ["self", "at"] (defScope st_Di_getitem) := ⟨rfl, rfl, rfl, by decide +kernel, rfl, by decide +kernel, by decide +kernel⟩
theorem ok_dvItem (B : Bn mg) (SDivision : DvK K mg CDivision) (e_NoPerson : ExK K mg "NoPerson" CNoPerson) (c_is_integer_to : Cal P w K mg base 2 "is_integer_to" ["thing", "most"] (spIsInt K)) (D : Mh K CDivision "__getitem__" "Division.__getitem__" st_Di_getitem ["self", "at"]) :
    MCalX P w K mg base 3 CDivision "__getitem__" ["self", "at"] (spDvItem K CDivision CShare CNoPerson) := by
  refine D.calX sc_Di_getitem (fun vs H Q E h => ?_) (fun f cdv A out s H vs Q E hr h => ?_)
  · obtain ⟨d, t, ss, rows, y, rfl, _⟩ := h
    rfl
  obtain ⟨d, t, ss, rows, y, rfl, ⟨⟨dx, hd⟩, ht, al, rw_⟩, kd, k1, k2⟩ := h
  refine ⟨_, (pss_cons (ps_if (pt_not (pt_val (pe_fn c_is_integer_to (hr.mono (by decide)) (pa_cons (pv 1) (pa_cons (pe_op op_sub (pe_callB call_len_seq (by rfl) B.n_len (by decide +kernel) (pa_cons (pe_fld (pv 0) rfl) pa_nil)) pe_int) pa_nil))))) (pss_one (ps_err e_NoPerson (takes_of rfl rfl rfl rfl))) pss_nil)
   (pss_one (ps_ret (pe_ix ix_tup (pe_fld (pv 0) rfl) (pv 1) (fun _ _ => rfl))))), ?_⟩
  have ln := al.len
  refine ⟨_, rfl, _, rfl, d, CDivision, dx, _, _, rfl, hd, SDivision.cl, SDivision.nP, dvF_get t, t, _, rfl, .inr (SqT.of ht), _, _, rfl, rfl, y, _, rfl, kd, ?_⟩
  have em : (((ss.map V.ref).length : Nat) : Int) - 1 = (rows.length : Int) - 1 := by rw [List.length_map, ln]
  rw [em]
  cases e : isTo ((rows.length : Int) - 1) y with
  | false => exact ⟨_, rfl, iteT (k2 e)⟩
  | true =>
    refine ⟨_, rfl, iteF ?_⟩
    cases y <;> first | (simp [isTo] at e; done) | skip
    rename_i i
    simp only [isTo, Bool.and_eq_true, decide_eq_true_eq] at e
    have ei : ((i.toNat : Nat) : Int) = i := by omega
    have lt : i.toNat < ss.length := by omega
    have es : ss[i.toNat]? = some ss[i.toNat] := List.getElem?_eq_getElem lt
    refine ⟨_, rfl, d, CDivision, dx, _, _, rfl, hd, SDivision.cl, SDivision.nP, dvF_get t, _, rfl, t, _, _, _, rfl, rfl, SqT.of ht, ?_, k1 i.toNat _ (by rw [ei]) es⟩
    have z := atI_nat (xs := ss.map V.ref) (j := i.toNat) (v := V.ref ss[i.toNat]) (by rw [List.getElem?_map, es]; rfl)
    rw [ei] at z
    exact z
end
end Pl
namespace Pl
open PySem PySem.Spec PyProof.Rows L2
/-- how much more a person has in the second state -/
def rs (rows : List (List Int)) (p s t : Nat) : Int := (((rows[p]?).getD [])[t]?).getD 0 - (((rows[p]?).getD [])[s]?).getD 0
def spCheckD (CD C : Addr) : Sp := fun vs H Q _ => ∃ (d t : Addr) (ss : List Addr) (rows : List (List Int)), vs = [.ref d] ∧ DvAt CD C H d t ss rows ∧ Q .non H
def spRise (CD C : Addr) : Sp := fun vs H Q _ => ∃ (d t : Addr) (ss : List Addr) (rows : List (List Int)) (p a b : Nat), vs = [.ref d, .int p, .int a, .int b] ∧ DvAt CD C H d t ss rows ∧ p < rows.length ∧ (∀ ns ∈ rows, a < ns.length ∧ b < ns.length) ∧ Q (.int (rs rows p a b)) H
section
variable {P : Program} {w : World} {K : PySem.W.Frag} {mg : Str → Option Value} {base : Heap} {CShare CDivision CNoPerson : Addr}
abbrev st_check_division : Stmt := top 31
theorem sc_check_division : FnScope ["thing"] ["thing"] (defScope st_check_division) := ⟨rfl, rfl, rfl, by decide +kernel, rfl, by decide +kernel, by decide +kernel⟩
theorem ok_checkD (B : Bn mg) (SDivision : DvK K mg CDivision) (D : Df K mg "check_division" st_check_division ["thing"]) : Cal P w K mg base 1 "check_division" ["thing"] (spCheckD CDivision CShare) := by
  refine D.cal sc_check_division (fun vs H Q E h => ?_) (fun f cdv A out s H vs Q E hr h => ?_)
  · obtain ⟨d, t, ss, rows, rfl, _⟩ := h
    rfl
  obtain ⟨d, t, ss, rows, rfl, ⟨⟨dx, hd⟩, _⟩, k⟩ := h
  refine ⟨_, (pss_one (ps_if (pt_not (pt_val (pe_callB call_isi (by rfl) B.n_isinstance (by decide +kernel) (pa_cons (pv 0) (pa_cons (pe_glob (v := .ref CDivision) rfl SDivision.mgC rfl) pa_nil))))) (pss_one ps_never) pss_nil)), ?_⟩
  exact ⟨_, rfl, _, _, _, _, true, rfl, .own _, .base (.ins hd SDivision.cl SDivision.ca SDivision.cg SDivision.ct SDivision.mro), SDivision.kit, _, rfl, iteF k⟩
abbrev st_rise : Stmt := top 43
theorem sc_rise : FnScope ["division", "person", "state", "second", "amounts"] ["division", "person", "state", "second"] (defScope st_rise) := ⟨rfl, rfl, rfl, by decide +kernel, rfl, by decide +kernel, by decide +kernel⟩
theorem ok_rise (SShare : ShK K mg CShare) (SDivision : DvK K mg CDivision) (fiGD : ∀ f, PySem.W.findIn K (.ref CDivision) "__getitem__" = some (some (.ref f)) → PySem.W.fnIn K f = true) (p_amounts : PCal P w K mg base 2 CShare "amounts" ["self"] (getSp CShare "by_state"))
    (m_getitemD : MCalX P w K mg base 3 CDivision "__getitem__" ["self", "at"] (spDvItem K CDivision CShare CNoPerson)) (D : Df K mg "rise" st_rise ["division", "person", "state", "second"]) : Cal P w K mg base 5 "rise" ["division", "person", "state", "second"] (spRise CDivision CShare) := by
  refine D.cal sc_rise (fun vs H Q E h => ?_) (fun f cdv A out s H vs Q E hr h => ?_)
  · obtain ⟨d, t, ss, rows, p, a, b, rfl, _⟩ := h
    rfl
  obtain ⟨d, t, ss, rows, p, a, b, rfl, dv, lp, lab, k⟩ := h
  refine ⟨_, (pss_cons (ps_set (i := 4) sc_rise.nd rfl (.inl rfl) (pe_pr p_amounts SShare.cl (hr.mono (by decide)) (pe_subX m_getitemD passF fiGD (hr.mono (by decide)) (pv 0) (pv 1))))
   (pss_one (ps_ret (pe_op op_sub (pe_ix ix_tup (pv 4) (pv 3) (fun _ _ => rfl)) (pe_ix ix_tup (pv 4) (pv 2) (fun _ _ => rfl)))))), ?_⟩
  obtain ⟨⟨dx, hd⟩, ht, al, rw_⟩ := id dv
  have ep : rows[p]? = some rows[p] := List.getElem?_eq_getElem lp
  obtain ⟨s1, t1, es, sh⟩ := al.get2 ep
  obtain ⟨la, lb⟩ := lab _ (List.mem_of_getElem? ep)
  have ea : rows[p][a]? = some rows[p][a] := List.getElem?_eq_getElem la
  have eb : rows[p][b]? = some rows[p][b] := List.getElem?_eq_getElem lb
  refine ⟨_, rfl, _, rfl, d, dx, _, rfl, hd, d, t, ss, rows, .int p, rfl, dv, Kd.int _, fun i s2 ei es2 => ?_, fun no => ?_⟩
  · have ei : i = p := by
      have z := V.int.inj ei
      omega
    subst ei
    rw [es] at es2
    cases es2
    obtain ⟨⟨d1, a1⟩, a2, _⟩ := id sh
    refine ⟨s1, d1, _, rfl, a1, s1, d1, _, .ref t1, rfl, a1, shF_get t1, ?_⟩
    refine ⟨_, rfl, _, rfl, t1, _, _, _, rfl, rfl, SqT.of a2, atI_nat (j := b) (by rw [List.getElem?_map, eb]; rfl), _, rfl, _, rfl, t1, _, _, _, rfl, rfl, SqT.of a2, atI_nat (j := a) (by rw [List.getElem?_map, ea]; rfl), _, _, rfl, rfl, ?_⟩
    have e : rs rows i a b = rows[i][b] - rows[i][a] := by simp [rs, ep, ea, eb]
    rw [e] at k
    exact k
  · exact absurd no (by simp only [isTo]; simp; omega)
end
end Pl
namespace Pl
open PySem PySem.Spec PyProof.Rows L2
theorem size_lt' {n : Nat} (h : n ≤ 10000) : n < sizeLine := Nat.lt_of_le_of_lt h (by decide)
/-- triples of numbers in the heap -/
inductive TrL (H : Hp) : List V → List (Nat × Nat × Int) → Prop
  | nil : TrL H [] []
  | cons {q : Addr} {s t : Nat} {m : Int} {vs : List V} {ns : List (Nat × Nat × Int)} : H q = some (.tup [.int s, .int t, .int m]) → TrL H vs ns → TrL H (.ref q :: vs) ((s, t, m) :: ns)
theorem TrL.same {H H' : Hp} (k : Same H H') : ∀ {vs : List V} {ns : List (Nat × Nat × Int)}, TrL H vs ns → TrL H' vs ns
  | _, _, .nil => .nil
  | _, _, .cons h r => .cons (k _ _ h) (r.same k)
theorem TrL.put {H : Hp} {l : Addr} {ys : List V} {o : HO} (hl : H l = some (.lst ys)) : ∀ {vs : List V} {ns : List (Nat × Nat × Int)}, TrL H vs ns → TrL (L2.upd H l o) vs ns
  | _, _, .nil => .nil
  | _, _, .cons h r => .cons (by rw [upd_ne (ne_of h hl (by intro z; cases z))]; exact h) (r.put hl)
theorem TrL.len {H : Hp} : ∀ {vs : List V} {ns : List (Nat × Nat × Int)}, TrL H vs ns → vs.length = ns.length
  | _, _, .nil => rfl
  | _, _, .cons _ r => by rw [List.length_cons, List.length_cons, r.len]
theorem TrL.snoc {H : Hp} {q : Addr} {s t : Nat} {m : Int} (h : H q = some (.tup [.int s, .int t, .int m])) : ∀ {vs : List V} {ns : List (Nat × Nat × Int)}, TrL H vs ns → TrL H (vs ++ [.ref q]) (ns ++ [(s, t, m)])
  | _, _, .nil => .cons h .nil
  | _, _, .cons h' r => .cons h' (TrL.snoc h r)
theorem TrL.at {H : Hp} : ∀ {vs : List V} {ns : List (Nat × Nat × Int)} {i : Nat} {x : V}, TrL H vs ns → vs[i]? = some x → ∃ (q : Addr) (s t : Nat) (m : Int), x = .ref q ∧ H q = some (.tup [.int s, .int t, .int m]) ∧ ns[i]? = some (s, t, m)
  | _, _, _, _, .nil, e => by cases e
  | _, _, 0, _, .cons h r, e => by
    cases e
    exact ⟨_, _, _, _, rfl, h, rfl⟩
  | _, _, i + 1, _, .cons h r, e => r.at (i := i) (by simpa using e)
/-- a block over numbers that it takes in turn -/
theorem lrW {lo : Int} {n : Nat} {H0 : Hp} {R : Hp → Prop} {F : V → Hp → (Hp → Prop) → Prop} (Pv : Nat → Hp → Prop) (h0 : Pv 0 H0) (hs : ∀ i H, i < n → Pv i H → F (.int (lo + i)) H (Pv (i + 1))) (hd : ∀ H, Pv n H → R H) :
    ∃ W : Nat → Nat → Hp → Prop, (∃ m, W 0 m H0) ∧ ∀ i m H, W i m H → ((Itr lo n).stop i H ∧ R H) ∨ ((Itr lo n).go i H ∧ ∃ Nx : Hp → Prop, (∀ H', Nx H' → ∃ m', m' < m ∧ W (i + 1) m' H') ∧ ∀ x H', (Itr lo n).yld i H x H' → F x H' Nx) := by
  refine ⟨fun i m H => m = n - i ∧ i ≤ n ∧ Pv i H, ⟨n, by simp, Nat.zero_le _, h0⟩, ?_⟩
  rintro i m H ⟨rfl, hi, p⟩
  by_cases hlt : i < n
  · refine .inr ⟨hlt, Pv (i + 1), fun H' p' => ⟨n - (i + 1), by omega, rfl, hlt, p'⟩, fun x H' y => ?_⟩
    obtain ⟨e1, e2⟩ := y
    subst e1 e2
    exact hs i _ hlt p
  · have e : i = n := by omega
    subst e
    exact .inl ⟨Nat.le_refl _, hd H p⟩
theorem lcW {K : PySem.W.Frag} {a : Addr} {xs : List V} {H0 : Hp} {R : Hp → Prop} {F : V → Hp → (Hp → Prop) → Prop} (Pv : Nat → Hp → Prop) (h0 : Pv 0 H0) (hl : ∀ i H, i ≤ xs.length → Pv i H → SqL K H a xs)
    (hs : ∀ i x H, xs[i]? = some x → Pv i H → F x H (Pv (i + 1))) (hd : ∀ H, Pv xs.length H → R H) :
    ∃ W : Nat → Nat → Hp → Prop, (∃ m, W 0 m H0) ∧ ∀ i m H, W i m H →
      ((Itl K a).stop i H ∧ R H) ∨ ((Itl K a).go i H ∧ ∃ Nx : Hp → Prop, (∀ H', Nx H' → ∃ m', m' < m ∧ W (i + 1) m' H') ∧ ∀ x H', (Itl K a).yld i H x H' → F x H' Nx) := by
  refine ⟨fun i m H => m = xs.length - i ∧ i ≤ xs.length ∧ Pv i H, ⟨xs.length, by simp, Nat.zero_le _, h0⟩, ?_⟩
  rintro i m H ⟨rfl, hi, p⟩
  have q := hl i H hi p
  by_cases hlt : i < xs.length
  · refine .inr ⟨⟨xs, xs[i], q, by simp [hlt]⟩, Pv (i + 1), fun H' p' => ⟨xs.length - (i + 1), by omega, rfl, hlt, p'⟩, fun x H' y => ?_⟩
    obtain ⟨e, y⟩ := y
    subst e
    exact hs i x _ (y xs q) p
  · have e : i = xs.length := by omega
    subst e
    exact .inl ⟨⟨xs, q, Nat.le_refl _⟩, hd H p⟩
/-- the number of states -/
def wdt (rows : List (List Int)) : Nat := ((rows[0]?).getD []).length
theorem Rows.wdt {rows : List (List Int)} (h : Rows rows) {ns : List Int} (hn : ns ∈ rows) : ns.length = wdt rows := by
  have l0 : 0 < rows.length := by have := h.1; omega
  have e0 : rows[0]? = some rows[0] := List.getElem?_eq_getElem l0
  unfold Pl.wdt
  rw [e0]
  exact h.eq hn (List.mem_of_getElem? e0)
theorem Rows.w26 {rows : List (List Int)} (h : Rows rows) : 2 ≤ Pl.wdt rows ∧ Pl.wdt rows ≤ 6 := by
  have l0 : 0 < rows.length := by have := h.1; omega
  have m := List.getElem_mem l0
  rw [← h.wdt m]
  exact ⟨h.l2 m, h.l6 m⟩
/-- what the levels must keep -/
def IsNeeds (rows : List (List Int)) (ns : List (Nat × Nat × Int)) : Prop := ∀ s t m, (s, t, m) ∈ ns ↔ ∃ p, p < rows.length ∧ s < wdt rows ∧ t < wdt rows ∧ 1 ≤ rs rows p s t ∧ m = min (rs rows p s t) 2 - 1
def spNeeds (CD C : Addr) : Sp := fun vs H Q _ => ∃ (d t : Addr) (ss : List Addr) (rows : List (List Int)), vs = [.ref d] ∧ DvAt CD C H d t ss rows ∧
  ∀ (l : Addr) (ws : List V) (ns : List (Nat × Nat × Int)) (H' : Hp), Same H H' → H' l = some (.lst ws) → TrL H' ws ns → IsNeeds rows ns → ns.length ≤ 144 → Q (.ref l) H'
def NdI (D : Addr) (H0 : Hp) (ns : List (Nat × Nat × Int)) (i : Nat) (H : Hp) : Prop := Same H0 H ∧ ∃ (vs : List V) (ms : List (Nat × Nat × Int)), H D = some (.lst vs) ∧ TrL H vs ms ∧ ms.length ≤ i ∧ ∀ x, x ∈ ms ↔ ∃ s t b, (s, t, b) ∈ ns.take i ∧ 1 ≤ b ∧ x = (s, t, min b 2 - 1)
theorem mem_take_succ {α : Type} {l : List α} {i : Nat} {a x : α} (h : l[i]? = some a) : x ∈ l.take (i + 1) ↔ x ∈ l.take i ∨ x = a := by
  rw [List.take_add_one, h]
  simp
def RsI (rows : List (List Int)) (D : Addr) (H0 : Hp) (p s t : Nat) (H : Hp) : Prop := Same H0 H ∧ ∃ (vs : List V) (ns : List (Nat × Nat × Int)), H D = some (.lst vs) ∧ TrL H vs ns ∧ ns.length ≤ 36 * p + 6 * s + t ∧
  ∀ x, x ∈ ns ↔ ∃ p' s' t', x = (s', t', rs rows p' s' t') ∧ s' < wdt rows ∧ t' < wdt rows ∧ (p' < p ∨ (p' = p ∧ (s' < s ∨ (s' = s ∧ t' < t))))
theorem RsI.row {rows : List (List Int)} {D : Addr} {H0 H : Hp} {p s : Nat} (w6 : wdt rows ≤ 6) (h : RsI rows D H0 p s (wdt rows) H) : RsI rows D H0 p (s + 1) 0 H := by
  obtain ⟨sm, vs, ns, hd, tr, l, mem⟩ := h
  refine ⟨sm, vs, ns, hd, tr, by omega, fun x => (mem x).trans ⟨?_, ?_⟩⟩
  · rintro ⟨p', s', t', e, a, b, c⟩
    exact ⟨p', s', t', e, a, b, by omega⟩
  · rintro ⟨p', s', t', e, a, b, c⟩
    exact ⟨p', s', t', e, a, b, by omega⟩
theorem RsI.person {rows : List (List Int)} {D : Addr} {H0 H : Hp} {p : Nat} (w6 : wdt rows ≤ 6) (h : RsI rows D H0 p (wdt rows) 0 H) : RsI rows D H0 (p + 1) 0 0 H := by
  obtain ⟨sm, vs, ns, hd, tr, l, mem⟩ := h
  refine ⟨sm, vs, ns, hd, tr, by omega, fun x => (mem x).trans ⟨?_, ?_⟩⟩
  · rintro ⟨p', s', t', e, a, b, c⟩
    exact ⟨p', s', t', e, a, b, by omega⟩
  · rintro ⟨p', s', t', e, a, b, c⟩
    exact ⟨p', s', t', e, a, b, by omega⟩
theorem RsI.step {rows : List (List Int)} {D q : Addr} {H0 H H' : Hp} {p s t : Nat} (h : RsI rows D H0 p s t H) (nd : H0 D = none) (sm : Same H H') (hs : s < wdt rows) (ht : t < wdt rows) (hq : H' q = some (.tup [.int s, .int t, .int (rs rows p s t)])) (w6 : wdt rows ≤ 6) (p4 : p ≤ 4) :
    ∃ acc, H' D = some (.lst acc) ∧ acc.length < sizeLine ∧ RsI rows D H0 p s (t + 1) (L2.upd H' D (.lst (acc ++ [.ref q]))) := by
  obtain ⟨s0, vs, ns, hd, tr, l, mem⟩ := h
  have hd' := sm _ _ hd
  have lv := tr.len
  refine ⟨vs, hd', size_lt' (by omega), same_put (s0.trans sm) nd, vs ++ [.ref q], ns ++ [(s, t, rs rows p s t)], upd_same, ?_, by rw [List.length_append]; show _ + 1 ≤ _; omega, fun x => ?_⟩
  · exact TrL.snoc (by rw [upd_ne (ne_of hq hd' (by intro z; cases z))]; exact hq) ((tr.same sm).put hd')
  · rw [List.mem_append, mem, List.mem_singleton]
    constructor
    · rintro (⟨p', s', t', e, a, b, c⟩ | e)
      · exact ⟨p', s', t', e, a, b, by omega⟩
      · exact ⟨p, s, t, e, hs, ht, by omega⟩
    · rintro ⟨p', s', t', e, a, b, c⟩
      by_cases z : p' = p ∧ s' = s ∧ t' = t
      · obtain ⟨rfl, rfl, rfl⟩ := z
        exact .inr e
      · exact .inl ⟨p', s', t', e, a, b, by omega⟩
section
variable {P : Program} {w : World} {K : PySem.W.Frag} {mg : Str → Option Value} {base : Heap} {CShare CDivision CNoPerson : Addr}
abbrev st_level_needs : Stmt := top 51
theorem sc_level_needs : FnScope ["division", "states", "rises", "person", "state", "second", "by"] ["division"] (defScope st_level_needs) := ⟨rfl, rfl, rfl, by decide +kernel, rfl, by decide +kernel, by decide +kernel⟩
theorem ok_needs (B : Bn mg) (SDivision : DvK K mg CDivision) (p_people : PCal P w K mg base 2 CDivision "people" ["self"] (spPeople CDivision CShare)) (p_states : PCal P w K mg base 4 CDivision "states" ["self"] (spStates CDivision CShare)) (c_rise : Cal P w K mg base 5 "rise" ["division", "person", "state", "second"] (spRise CDivision CShare)) (D : Df K mg "level_needs" st_level_needs ["division"]) : Cal P w K mg base 6 "level_needs" ["division"] (spNeeds CDivision CShare) := by
  refine D.cal sc_level_needs (fun vs H Q E h => ?_) (fun f cdv A out s H vs Q E hr h => ?_)
  · obtain ⟨d, t, ss, rows, rfl, _⟩ := h
    rfl
  obtain ⟨d, t, ss, rows, rfl, dv, k⟩ := h
  refine ⟨_, (pss_cons (ps_set (i := 1) sc_level_needs.nd rfl (.inr rfl) (pe_listRg rfl (by rfl) B.n_list (prg_1 (by rfl) B.n_range (pe_pr p_states SDivision.cl (hr.mono (by decide)) (pv 0)))))
   (pss_cons (ps_setLcN (i := 2) (own := [("person", 3), ("state", 4), ("second", 5)]) (g := gName 3) rfl sc_level_needs.nd rfl rfl (sw_true rfl rfl rfl (by decide +kernel)) (pi_range1 (by rfl) B.n_range (pa_cons (pe_pr p_people SDivision.cl (hr.mono (by decide)) (pv 0)) pa_nil)) (blkOk_by (N := ["division", "states", "rises", "person", "state", "second", "by"]) (sc := defScope st_level_needs) (by decide +kernel)) (by decide) (fun _ _ _ _ _ => ⟨(pg_name (i := 3) sc_level_needs.nd rfl (.inl rfl)), pts_nil, (PIns.cons (us := [4, 5]) (pi_listK (K := K) (pv 1)) (pg_name (i := 4) sc_level_needs.nd rfl (.inl rfl)) pts_nil (by decide) (by intro _ _; rfl) (PIns.cons (us := [5]) (pi_listK (K := K) (pv 1)) (pg_name (i := 5) sc_level_needs.nd rfl (.inl rfl)) pts_nil (by decide) (by intro _ _; rfl) (.nil (pe_tup (pa_cons (pv 4) (pa_cons (pv 5) (pa_cons (pe_fn c_rise (hr.mono (by decide)) (pa_cons (pv 0) (pa_cons (pv 3) (pa_cons (pv 4) (pa_cons (pv 5) pa_nil))))) pa_nil)))))))⟩))
   (pss_one (ps_ret (pe_lc (own := [("state", 4), ("second", 5), ("by", 6)]) (g := gTup K 3 (gCons (gName 4) (gCons (gName 5) (gCons (gName 6) gNil)))) rfl sc_level_needs.nd (pi_list (pv 2)) (blkOk_by (N := ["division", "states", "rises", "person", "state", "second", "by"]) (sc := defScope st_level_needs) (by decide +kernel)) (fun _ _ _ _ _ => (pg_tup rfl (pgs_cons (pg_name (i := 4) sc_level_needs.nd rfl (.inl rfl)) (pgs_cons (pg_name (i := 5) sc_level_needs.nd rfl (.inl rfl)) (pgs_cons (pg_name (i := 6) sc_level_needs.nd rfl (.inl rfl)) pgs_nil))))) (fun _ _ _ _ _ => (pts_one (pt_cmpR op_ge (pv 6) pe_int (nomark _)))) (fun _ _ _ _ _ => (pe_tup (pa_cons (pv 4) (pa_cons (pv 5) (pa_cons (pe_op op_sub (pe_callB (call_min2 rfl) (by rfl) B.n_min (by decide +kernel) (pa_cons (pv 6) (pa_cons pe_int pa_nil))) pe_int) pa_nil)))))))))), ?_⟩
  obtain ⟨⟨dx, hd⟩, ht, al, rw_⟩ := id dv
  obtain ⟨w2, w6⟩ := rw_.w26
  have p24 := rw_.1
  have p4 := rw_.2.1
  refine ⟨_, rfl, d, dx, _, rfl, hd, d, t, ss, rows, rfl, dv, fun ns0 hn0 => ?_⟩
  rw [rw_.wdt hn0]
  refine ⟨_, rfl, RgOk.of_le (by omega) (by omega) (by omega) (by omega), fun S hS => ?_⟩
  generalize hH1 : upd H S _ = H1
  have k1 : Same H H1 := by rw [← hH1]; exact same_new (Same.refl H) hS
  have e1 : H1 S = some (.lst (rgV 0 (wdt rows : Int))) := by rw [← hH1, upd_same]
  clear hH1
  have dv1 := dv.same k1
  have rl : (rgV 0 (wdt rows : Int)).length = wdt rows := by rw [rgV_length]; omega
  have rg : ∀ {i : Nat} {x : V}, (rgV 0 (wdt rows : Int))[i]? = some x → i < wdt rows ∧ x = .int (i : Nat) := fun {i x} e => by
    have lt : i < wdt rows := by rw [← rl]; exact (List.getElem?_eq_some_iff.mp e).1
    refine ⟨lt, ?_⟩
    unfold rgV at e
    rw [List.getElem?_map, List.getElem?_range (by omega)] at e
    have z := Option.some.inj e
    rw [← z]
    simp
  refine ⟨_, rfl, d, dx, _, rfl, k1 _ _ hd, d, t, ss, rows, rfl, dv1, _, rfl, by omega, by omega, fun D hD => ?_⟩
  refine lrW (lo := 0) (fun i H' => RsI rows D H1 i 0 0 H') ⟨same_new (Same.refl _) hD, [], [], upd_same, .nil, Nat.le_refl _, fun x => ⟨fun z => (nomatch z), fun ⟨p', s', t', e, a, b, c⟩ => by omega⟩⟩ (fun i H2 hi r2 => ?_) (fun H2 r2 => ?_)
  · refine ⟨rfl, tyes ?_⟩
    refine ⟨_, rfl, S, rfl, ⟨_, SqL.of (r2.1 _ _ e1)⟩, ?_⟩
    refine lcW (fun j H' => RsI rows D H1 i j 0 H') r2 (fun j H' _ r => SqL.of (r.1 _ _ e1)) (fun j x H3 hx r3 => ?_) (fun H3 r3 => ?_)
    · obtain ⟨lj, rfl⟩ := rg hx
      refine ⟨rfl, tyes ?_⟩
      refine ⟨_, rfl, S, rfl, ⟨_, SqL.of (r3.1 _ _ e1)⟩, ?_⟩
      refine lcW (fun l H' => RsI rows D H1 i j l H') r3 (fun l H' _ r => SqL.of (r.1 _ _ e1)) (fun l x H4 hx r4 => ?_) (fun H4 r4 => ?_)
      · obtain ⟨ll, rfl⟩ := rg hx
        refine ⟨rfl, tyes ?_⟩
        refine ⟨_, rfl, _, rfl, _, rfl, _, rfl, _, rfl, _, rfl, d, t, ss, rows, i, j, l, by simp, dv1.same r4.1, by omega, fun ns hn => by rw [rw_.wdt hn]; exact ⟨lj, ll⟩, ?_⟩
        refine ⟨(by show 3 ≤ sizeLine; decide), fun q hq => ?_⟩
        exact r4.step hD (same_new (Same.refl _) hq) lj ll upd_same w6 (by omega)
      · rw [rl] at r4
        exact r4.row w6
    · rw [rl] at r3
      exact r3.person w6
  · have r2 : RsI rows D H1 rows.length 0 0 H2 := by simpa using r2
    obtain ⟨k2, vs, ns, hd2, tr, l, mem⟩ := r2
    have lv := tr.len
    refine ⟨_, rfl, D, rfl, ⟨_, SqL.of hd2⟩, fun D2 hD2 => lc_list (K := K) (a := D) (xs := vs) (NdI D2 H2 ns) ⟨same_new (Same.refl _) hD2, [], [], upd_same, .nil, Nat.le_refl _, fun x => ⟨fun z => (nomatch z), fun ⟨s', t', b, z, _⟩ => (nomatch z)⟩⟩ (fun i H3 _ r => SqL.of (r.1 _ _ hd2)) (fun i x H3 hx r3 => ?_) (fun H3 r3 => ?_)⟩
    · obtain ⟨k3, vs3, ms, h3, tr3, l3, mem3⟩ := r3
      obtain ⟨q, a, b, m, rfl, hq, en⟩ := tr.at hx
      have hq3 := k3 _ _ hq
      have lx : i < vs.length := (List.getElem?_eq_some_iff.mp hx).1
      refine ⟨q, _, rfl, SqT.of hq3, rfl, _, _, rfl, _, _, rfl, _, _, rfl, rfl, rfl, ?_⟩
      refine ⟨_, rfl, _, _, rfl, rfl, _, rfl, ?_⟩
      refine ite2 (fun c => ?_) (fun c => ?_)
      · have c2 : 1 ≤ m := of_decide_eq_true c
        refine ⟨_, rfl, _, rfl, _, rfl, _, _, rfl, _, _, rfl, rfl, (by show 3 ≤ sizeLine; decide), fun q2 hq2 => ?_⟩
        generalize hH4 : upd H3 q2 _ = H4
        have k4 : Same H3 H4 := by rw [← hH4]; exact same_new (Same.refl _) hq2
        have e4 : H4 q2 = some (.tup [.int a, .int b, .int (min m 2 - 1)]) := by
          rw [← hH4, upd_same]
          have : (if (2 : Int) < m then (2 : Int) else m) = min m 2 := by split <;> omega
          rw [this]
        clear hH4
        have h4 := k4 _ _ h3
        have l4 := tr3.len
        refine ⟨vs3, h4, size_lt' (by omega), same_put (k3.trans k4) hD2, vs3 ++ [.ref q2], ms ++ [(a, b, min m 2 - 1)], upd_same, TrL.snoc (by rw [upd_ne (ne_of e4 h4 (by intro z; cases z))]; exact e4) ((tr3.same k4).put h4), by rw [List.length_append]; show _ + 1 ≤ _; omega, fun x => ?_⟩
        rw [List.mem_append, mem3, List.mem_singleton]
        constructor
        · rintro (⟨s', t', b', hm, c, e⟩ | e)
          · exact ⟨s', t', b', (mem_take_succ en).mpr (.inl hm), c, e⟩
          · exact ⟨a, b, m, (mem_take_succ en).mpr (.inr rfl), c2, e⟩
        · rintro ⟨s', t', b', hm, c, e⟩
          rcases (mem_take_succ en).mp hm with hm | hm
          · exact .inl ⟨s', t', b', hm, c, e⟩
          · cases hm
            exact .inr e
      · have c2 : ¬ 1 ≤ m := fun z => c (decide_eq_true z)
        refine ⟨k3, vs3, ms, h3, tr3, by omega, fun x => (mem3 x).trans ⟨?_, ?_⟩⟩
        · rintro ⟨s', t', b', hm, c, e⟩
          exact ⟨s', t', b', (mem_take_succ en).mpr (.inl hm), c, e⟩
        · rintro ⟨s', t', b', hm, c, e⟩
          rcases (mem_take_succ en).mp hm with hm | hm
          · exact ⟨s', t', b', hm, c, e⟩
          · cases hm
            exact absurd c c2
    · obtain ⟨k3, vs3, ms, h3, tr3, l3, mem3⟩ := r3
      rw [lv] at l3 mem3
      rw [List.take_length] at mem3
      refine k D2 vs3 ms H3 ((k1.trans k2).trans k3) h3 tr3 (fun s' t' m => (mem3 _).trans ⟨?_, ?_⟩) (by omega)
      · rintro ⟨a, b, c, hm, c1, e⟩
        obtain ⟨p', a', b', e2, la, lb, lp⟩ := (mem _).mp hm
        cases e2
        cases e
        exact ⟨p', by omega, la, lb, c1, rfl⟩
      · rintro ⟨p', lp, la, lb, c1, e⟩
        exact ⟨s', t', rs rows p' s' t', (mem _).mpr ⟨p', s', t', rfl, la, lb, by omega⟩, c1, by rw [e]⟩
end
end Pl
namespace Pl
open PySem PySem.Spec PyProof.Rows L2
/-! the mathematics of levels -/
def gI (l : List Int) (i : Nat) : Int := (l[i]?).getD 0
theorem gI_of {l : List Int} {i : Nat} {x : Int} (h : l[i]? = some x) : gI l i = x := by unfold gI; rw [h]; rfl
theorem gI_at {l : List Int} {i : Nat} (h : i < l.length) : l[i]? = some (gI l i) := by unfold gI; rw [List.getElem?_eq_getElem h]; rfl
theorem gI_mem {l : List Int} {x : Int} (h : x ∈ l) : ∃ i, i < l.length ∧ gI l i = x := by
  obtain ⟨i, hi, e⟩ := List.getElem_of_mem h
  exact ⟨i, hi, gI_of (by rw [List.getElem?_eq_getElem hi, e])⟩

theorem sumG_le : ∀ {a b : List Int}, a.length = b.length → (∀ i, i < a.length → gI a i ≤ gI b i) → a.sum ≤ b.sum
  | [], [], _, _ => Int.le_refl _
  | x :: a, y :: b, l, h => by
    have h0 : x ≤ y := h 0 (by simp)
    have ih := sumG_le (a := a) (b := b) (by simpa using l) fun i hi => by simpa [gI] using h (i + 1) (by simpa using hi)
    rw [List.sum_cons, List.sum_cons]
    omega
theorem sumG_lt : ∀ {a b : List Int}, a.length = b.length → (∀ i, i < a.length → gI a i ≤ gI b i) → (∃ i, i < a.length ∧ gI a i < gI b i) → a.sum < b.sum
  | [], [], _, _, ⟨i, hi, _⟩ => by simp at hi
  | x :: a, y :: b, l, h, ⟨i, hi, lt⟩ => by
    have h0 : x ≤ y := h 0 (by simp)
    have ht : ∀ i, i < a.length → gI a i ≤ gI b i := fun i hi => by simpa [gI] using h (i + 1) (by simpa using hi)
    have l' : a.length = b.length := by simpa using l
    rw [List.sum_cons, List.sum_cons]
    cases i with
    | zero =>
      have z : x < y := lt
      have := sumG_le l' ht
      omega
    | succ i =>
      have := sumG_lt l' ht ⟨i, by simpa using hi, by simpa [gI] using lt⟩
      omega
theorem sum_le_mul {b : Int} : ∀ {a : List Int}, (∀ x ∈ a, x ≤ b) → a.sum ≤ b * a.length
  | [], _ => by simp
  | x :: a, h => by
    have := sum_le_mul (a := a) fun y hy => h y (List.mem_cons_of_mem _ hy)
    have h0 := h x List.mem_cons_self
    rw [List.sum_cons, List.length_cons, Int.natCast_add, Int.mul_add]
    omega
theorem sum_nn : ∀ {a : List Int}, (∀ x ∈ a, 0 ≤ x) → 0 ≤ a.sum
  | [], _ => by simp
  | x :: a, h => by
    have := sum_nn (a := a) fun y hy => h y (List.mem_cons_of_mem _ hy)
    have h0 := h x List.mem_cons_self
    rw [List.sum_cons]
    omega
theorem filt_len (p : Int → Bool) : ∀ (g : List Int), (g.filter p).length + (g.filter fun x => !p x).length = g.length
  | [] => rfl
  | x :: g => by
    have := filt_len p g
    cases e : p x <;> simp [List.filter_cons, e] <;> omega
theorem filt_split (k : Nat) : ∀ (g : List Int), (g.filter fun x => decide (x < (k : Int) + 1)).length = (g.filter fun x => decide (x < (k : Int))).length + (g.filter fun x => decide (x = (k : Int))).length
  | [] => rfl
  | x :: g => by
    have ih := filt_split k g
    rw [List.filter_cons, List.filter_cons, List.filter_cons]
    by_cases a : x < (k : Int)
    · have b : x < (k : Int) + 1 := by omega
      have c : ¬ x = (k : Int) := by omega
      simp [a, b, c, ih]
      omega
    · by_cases c : x = (k : Int)
      · subst c
        have b : (k : Int) < (k : Int) + 1 := by omega
        have d : ¬ (k : Int) < (k : Int) := by omega
        rw [if_pos (by simpa using b), if_neg (by simpa using d), if_pos (by simp)]
        rw [List.length_cons, List.length_cons, ih]
        omega
      · have b : ¬ x < (k : Int) + 1 := by omega
        simp [a, b, c, ih]
theorem pigeon : ∀ (k : Nat) (g : List Int), (∀ u : Nat, u < k → (u : Int) ∈ g) → k ≤ (g.filter fun x => decide (x < (k : Int))).length
  | 0, g, _ => Nat.zero_le _
  | k + 1, g, h => by
    have ih := pigeon k g fun u hu => h u (by omega)
    have hk := h k (by omega)
    have e := filt_split k g
    have : 0 < (g.filter fun x => decide (x = (k : Int))).length := List.length_pos_of_mem (List.mem_filter.mpr ⟨hk, by simp⟩)
    have e2 : ((k + 1 : Nat) : Int) = (k : Int) + 1 := by omega
    rw [e2, e]
    omega
/-- what the numbers of the states must keep -/
def Sol (C : Nat → Nat → Int → Prop) (n : Nat) (g : List Int) : Prop := g.length = n ∧ (∀ i, i < n → 0 ≤ gI g i) ∧ ∀ s t m, C s t m → gI g s + m ≤ gI g t
def Cok (C : Nat → Nat → Int → Prop) (n : Nat) : Prop := ∀ s t m, C s t m → s < n ∧ t < n ∧ 0 ≤ m ∧ m ≤ 1
theorem gap_of {g : List Int} {i : Nat} (hi : i < g.length) (big : (g.length : Int) ≤ gI g i) : ∃ u : Nat, u < g.length ∧ (u : Int) ∉ g := by
  refine Classical.byContradiction fun z => ?_
  have all : ∀ u : Nat, u < g.length → (u : Int) ∈ g := fun u hu => Classical.byContradiction fun y => z ⟨u, hu, y⟩
  have a := pigeon g.length g all
  have b := filt_len (fun x => decide (x < (g.length : Int))) g
  have m : gI g i ∈ g := List.mem_of_getElem? (gI_at hi)
  have : 0 < (g.filter fun x => !decide (x < (g.length : Int))).length := List.length_pos_of_mem (List.mem_filter.mpr ⟨m, by simp; omega⟩)
  omega
theorem low_sol {C : Nat → Nat → Int → Prop} {n : Nat} (hC : Cok C n) : ∀ (k : Nat) (g : List Int), Sol C n g → g.sum.toNat ≤ k → ∃ g', Sol C n g' ∧ ∀ i, i < n → gI g' i < n := by
  intro k
  induction k with
  | zero =>
    intro g sg hk
    by_cases c : ∀ i, i < n → gI g i < n
    · exact ⟨g, sg, c⟩
    · exfalso
      obtain ⟨i, hi⟩ := Classical.not_forall.mp c
      obtain ⟨hi, hb⟩ := Classical.not_imp.mp hi
      obtain ⟨l, nn, _⟩ := sg
      have z := sumG_lt (a := List.replicate n 0) (b := g) (by simp [l]) (fun j hj => by
        have hj : j < n := by simpa using hj
        have := nn j hj
        have e : gI (List.replicate n (0 : Int)) j = 0 := gI_of (by rw [List.getElem?_replicate]; simp [hj])
        omega) ⟨i, by simpa using hi, by
        have e : gI (List.replicate n (0 : Int)) i = 0 := gI_of (by rw [List.getElem?_replicate]; simp [hi])
        omega⟩
      have e : (List.replicate n (0 : Int)).sum = 0 := by simp
      omega
  | succ k ih =>
    intro g sg hk
    by_cases c : ∀ i, i < n → gI g i < n
    · exact ⟨g, sg, c⟩
    · obtain ⟨i, hi⟩ := Classical.not_forall.mp c
      obtain ⟨hi, hb⟩ := Classical.not_imp.mp hi
      obtain ⟨l, nn, st⟩ := sg
      subst l
      obtain ⟨u, hu, nu⟩ := gap_of hi (by omega)
      have ne : ∀ j, j < g.length → gI g j ≠ u := fun j hj e => nu (by rw [← e]; exact List.mem_of_getElem? (gI_at hj))
      have ev : ∀ j, j < g.length → gI (g.map fun x => if (u : Int) + 1 ≤ x then x - 1 else x) j = if (u : Int) + 1 ≤ gI g j then gI g j - 1 else gI g j := fun j hj => gI_of (by rw [List.getElem?_map, gI_at hj]; rfl)
      refine ih (g.map fun x => if (u : Int) + 1 ≤ x then x - 1 else x) ⟨by simp, fun j hj => ?_, fun s t m cs => ?_⟩ ?_
      · rw [ev j hj]
        have := nn j hj
        split <;> omega
      · obtain ⟨ls, lt, m0, m1⟩ := hC s t m cs
        rw [ev s ls, ev t lt]
        have := st s t m cs
        have := ne s ls
        have := ne t lt
        split <;> split <;> omega
      · have z := sumG_lt (a := g.map fun x => if (u : Int) + 1 ≤ x then x - 1 else x) (b := g) (by simp) (fun j hj => by
          rw [ev j (by simpa using hj)]
          split <;> omega) ⟨i, by simpa using hi, by
          rw [ev i hi]
          rw [if_pos (by omega)]
          omega⟩
        have z2 : 0 ≤ (g.map fun x => if (u : Int) + 1 ≤ x then x - 1 else x).sum := sum_nn fun x hx => by
          obtain ⟨j, hj, e⟩ := gI_mem hx
          have hj : j < g.length := by simpa using hj
          rw [← e, ev j hj]
          have := nn j hj
          split <;> omega
        omega
/-- the smallest numbers -/
def Least (C : Nat → Nat → Int → Prop) (n : Nat) (h : List Int) : Prop := Sol C n h ∧ ∀ g, Sol C n g → ∀ i, i < n → gI h i ≤ gI g i

/-- below all solutions -/
def Below (C : Nat → Nat → Int → Prop) (n : Nat) (h : List Int) : Prop := h.length = n ∧ (∀ i, i < n → 0 ≤ gI h i) ∧ ∀ g, Sol C n g → ∀ i, i < n → gI h i ≤ gI g i
theorem Below.none {C : Nat → Nat → Int → Prop} {n : Nat} (hC : Cok C n) {h : List Int} (b : Below C n h) {i : Nat} (hi : i < n) (big : (n : Int) ≤ gI h i) : ∀ g, ¬ Sol C n g := fun g sg => by
  obtain ⟨g', sg', lt⟩ := low_sol hC _ g sg (Nat.le_refl _)
  have := b.2.2 g' sg' i hi
  have := lt i hi
  omega

theorem Below.least {C : Nat → Nat → Int → Prop} {n : Nat} {h : List Int} (b : Below C n h) (s : ∀ s t m, C s t m → gI h s + m ≤ gI h t) : Least C n h := ⟨⟨b.1, b.2.1, s⟩, b.2.2⟩
end Pl
namespace Pl
open PySem PySem.Spec PyProof.Rows L2
def BlI (D : Addr) (H1 : Hp) (T : Nat → Prop) (i : Nat) (H : Hp) : Prop := Same H1 H ∧ ∃ bs : List Bool, H D = some (.lst (bs.map V.bl)) ∧ bs.length = i ∧ ∀ j b, bs[j]? = some b → (b = true ↔ T j)
theorem BlI.start {D : Addr} {H1 : Hp} {T : Nat → Prop} (h : H1 D = none) : BlI D H1 T 0 (upd H1 D (.lst [])) := ⟨same_new (Same.refl H1) h, [], upd_same, rfl, fun j b e => by simp at e⟩
theorem BlI.next {D : Addr} {H1 H H' : Hp} {T : Nat → Prop} {i : Nat} (q : BlI D H1 T i H) (k : Same H H') (h : H1 D = none) (li : i ≤ 1000000) {b : Bool} (hb : b = true ↔ T i) : ∃ acc, H' D = some (.lst acc) ∧ acc.length < sizeLine ∧ BlI D H1 T (i + 1) (upd H' D (.lst (acc ++ [.bl b]))) := by
  obtain ⟨s, bs, e, l, t⟩ := q
  refine ⟨_, k _ _ e, Nat.lt_of_le_of_lt (show _ ≤ 1000000 by rw [List.length_map]; omega) (by decide), same_put (s.trans k) h, bs ++ [b], ?_, by simp [l], fun j c ej => ?_⟩
  · rw [upd_same, List.map_append]
    rfl
  · by_cases z : j < bs.length
    · rw [List.getElem?_append_left z] at ej
      exact t j c ej
    · rw [List.getElem?_append_right (by omega)] at ej
      have z2 : j - bs.length = 0 := by
        have := (List.getElem?_eq_some_iff.mp ej).1
        simp at this
        omega
      rw [z2] at ej
      have e3 : b = c := by simpa using ej
      subst e3
      have : j = i := by omega
      rw [this]
      exact hb
theorem BlI.all {D : Addr} {H1 H : Hp} {T : Nat → Prop} {n : Nat} (q : BlI D H1 T n H) : ∃ bs : List Bool, H D = some (.lst (bs.map V.bl)) ∧ (bs.all id = true ↔ ∀ j, j < n → T j) := by
  obtain ⟨s, bs, e, l, t⟩ := q
  refine ⟨bs, e, ?_⟩
  rw [List.all_eq_true]
  constructor
  · intro h j hj
    have ej : bs[j]? = some bs[j] := List.getElem?_eq_getElem (by omega)
    exact (t j _ ej).mp (h _ (List.mem_of_getElem? ej))
  · intro h b hb
    obtain ⟨j, hj, e⟩ := List.getElem_of_mem hb
    exact (t j b (by rw [List.getElem?_eq_getElem hj, e])).mpr (h j (by omega))
end Pl
namespace Pl
open PySem PySem.Spec PyProof.Rows L2







end Pl
namespace Pl
open PySem PySem.Spec PyProof.Rows L2









end Pl
namespace Pl
open PySem PySem.Spec PyProof.Rows L2
def NdC (rows : List (List Int)) (s t : Nat) (m : Int) : Prop := ∃ p, p < rows.length ∧ s < wdt rows ∧ t < wdt rows ∧ 1 ≤ rs rows p s t ∧ m = min (rs rows p s t) 2 - 1
theorem ndC_ok (rows : List (List Int)) : Cok (NdC rows) (wdt rows) := fun s t m ⟨p, _, a, b, c, e⟩ => ⟨a, b, by omega, by omega⟩
theorem getI {l : List Int} {i : Nat} (h : i < l.length) : atI (l.map V.int) (i : Int) = some (.int (gI l i)) := atI_nat (j := i) (by rw [List.getElem?_map, gI_at h]; rfl)
def spMeets : Sp := fun vs H Q _ => ∃ (h l : Addr) (hs : List Int) (ws : List V) (ns : List (Nat × Nat × Int)), vs = [.ref h, .ref l] ∧ H h = some (.tup (hs.map V.int)) ∧ H l = some (.lst ws) ∧ TrL H ws ns ∧ ns.length ≤ 144 ∧ (∀ s t m, (s, t, m) ∈ ns → s < hs.length ∧ t < hs.length) ∧
  ∀ (b : Bool) (H' : Hp), Same H H' → (b = true ↔ ∀ s t m, (s, t, m) ∈ ns → gI hs s + m ≤ gI hs t) → Q (.bl b) H'
/-- lifted as far as is needed -/
def Lft (ns : List (Nat × Nat × Int)) (hs : List Int) (i : Nat) (x : Int) : Prop := gI hs i ≤ x ∧ (∀ s m, (s, i, m) ∈ ns → gI hs s + m ≤ x) ∧ (x = gI hs i ∨ ∃ s m, (s, i, m) ∈ ns ∧ x = gI hs s + m)
def spLifted : Sp := fun vs H Q _ => ∃ (h l : Addr) (hs : List Int) (ws : List V) (ns : List (Nat × Nat × Int)), vs = [.ref h, .ref l] ∧ H h = some (.tup (hs.map V.int)) ∧ H l = some (.lst ws) ∧ TrL H ws ns ∧ ns.length ≤ 144 ∧ hs.length ≤ 6 ∧ (∀ s t m, (s, t, m) ∈ ns → s < hs.length ∧ t < hs.length) ∧
  ∀ (p : Addr) (xs : List Int) (H' : Hp), Same H H' → H' p = some (.tup (xs.map V.int)) → xs.length = hs.length → (∀ i, i < hs.length → Lft ns hs i (gI xs i)) → Q (.ref p) H'
def LfI (D : Addr) (H0 : Hp) (ns : List (Nat × Nat × Int)) (hs : List Int) (i : Nat) (H : Hp) : Prop := Same H0 H ∧ ∃ xs : List Int, H D = some (.lst (xs.map V.int)) ∧ xs.length = i ∧ ∀ j, j < i → Lft ns hs j (gI xs j)
/-- the wants of one place -/
def InI (D : Addr) (H0 : Hp) (ns : List (Nat × Nat × Int)) (hs : List Int) (t i : Nat) (H : Hp) : Prop := Same H0 H ∧ ∃ ys : List Int, H D = some (.lst (ys.map V.int)) ∧ ys.length ≤ i ∧ ∀ y, y ∈ ys ↔ ∃ s m, (s, t, m) ∈ ns.take i ∧ y = gI hs s + m
section
variable {P : Program} {w : World} {K : PySem.W.Frag} {mg : Str → Option Value} {base : Heap} {CShare CDivision CNoPerson : Addr}
abbrev st_meets : Stmt := top 52
theorem sc_meets : FnScope ["heights", "needs", "state", "second", "more"] ["heights", "needs"] (defScope st_meets) := ⟨rfl, rfl, rfl, by decide +kernel, rfl, by decide +kernel, by decide +kernel⟩
theorem ok_meets (B : Bn mg) (D : Df K mg "meets" st_meets ["heights", "needs"]) : Cal P w K mg base 1 "meets" ["heights", "needs"] spMeets := by
  refine D.cal sc_meets (fun vs H Q E h => ?_) (fun f cdv A out s H vs Q E hr h => ?_)
  · obtain ⟨h, l, hs, ws, ns, rfl, _⟩ := h
    rfl
  obtain ⟨h, l, hs, ws, ns, rfl, hh, hl, tr, n1, bd, k⟩ := h
  refine ⟨_, (pss_one (ps_ret (pe_callB (cr_all rfl) (by rfl) B.n_all (by decide +kernel) (pa_cons (pe_lc (own := [("state", 2), ("second", 3), ("more", 4)]) (g := gTup K 3 (gCons (gName 2) (gCons (gName 3) (gCons (gName 4) gNil)))) rfl sc_meets.nd (pi_list (pv 1)) (blkOk_by (N := ["heights", "needs", "state", "second", "more"]) (sc := defScope st_meets) (by decide +kernel)) (fun _ _ _ _ _ => (pg_tup rfl (pgs_cons (pg_name (i := 2) sc_meets.nd rfl (.inl rfl)) (pgs_cons (pg_name (i := 3) sc_meets.nd rfl (.inl rfl)) (pgs_cons (pg_name (i := 4) sc_meets.nd rfl (.inl rfl)) pgs_nil))))) (fun _ _ _ _ _ => pts_nil) (fun _ _ _ _ _ => (pe_cmpR op_ge (pe_ix (show IxR _ (rIxT K) from ix_tup) (pv 0) (pv 3) (fun _ _ => rfl)) (pe_op op_add (pe_ix (show IxR _ (rIxT K) from ix_tup) (pv 0) (pv 2) (fun _ _ => rfl)) (pv 4)) (nomark _)))) pa_nil)))), ?_⟩
  have lv := tr.len
  refine ⟨_, rfl, l, rfl, ⟨_, SqL.of hl⟩, fun D hD => lc_list (K := K) (a := l) (xs := ws) (BlI D H fun j => ∀ s t m, ns[j]? = some (s, t, m) → gI hs s + m ≤ gI hs t) (BlI.start hD) (fun i H' _ q => SqL.of (q.1 _ _ hl)) (fun i x H' hx q => ?_) (fun H' q => ?_)⟩
  · obtain ⟨r, a, b, m, rfl, hr2, en⟩ := tr.at hx
    obtain ⟨la, lb⟩ := bd a b m (List.mem_of_getElem? en)
    have lx : i < ws.length := (List.getElem?_eq_some_iff.mp hx).1
    have hh' := q.1 _ _ hh
    refine ⟨r, _, rfl, SqT.of (q.1 _ _ hr2), rfl, _, _, rfl, _, _, rfl, _, _, rfl, rfl, rfl, tyes ?_⟩
    refine ⟨_, rfl, _, rfl, h, _, _, _, rfl, rfl, SqT.of hh', getI lb, _, rfl, _, rfl, h, _, _, _, rfl, rfl, SqT.of hh', getI la, _, rfl, _, _, rfl, rfl, _, _, rfl, rfl, ?_⟩
    refine q.next (Same.refl _) hD (by omega) ?_
    rw [decide_eq_true_eq]
    constructor
    · intro z s t m' e
      rw [en] at e
      cases e
      exact z
    · intro z
      exact z a b m en
  · obtain ⟨bs, e, ev⟩ := q.all
    refine ⟨D, bs, rfl, SqL.of e, k _ H' q.1 ?_⟩
    rw [ev]
    constructor
    · intro z s t m hm
      obtain ⟨j, hj, e⟩ := List.getElem_of_mem hm
      exact z j (by omega) s t m (by rw [List.getElem?_eq_getElem hj, e])
    · intro z j hj s t m e
      exact z s t m (List.mem_of_getElem? e)
abbrev st_lifted : Stmt := top 53
theorem sc_lifted : FnScope ["heights", "needs", "at", "height", "state", "second", "more"] ["heights", "needs"] (defScope st_lifted) := ⟨rfl, rfl, rfl, by decide +kernel, rfl, by decide +kernel, by decide +kernel⟩
theorem ok_lifted (B : Bn mg) (n_enumerate : mg "enumerate" = none) (D : Df K mg "lifted" st_lifted ["heights", "needs"]) : Cal P w K mg base 1 "lifted" ["heights", "needs"] spLifted := by
  refine D.cal sc_lifted (fun vs H Q E h => ?_) (fun f cdv A out s H vs Q E hr h => ?_)
  · obtain ⟨h, l, hs, ws, ns, rfl, _⟩ := h
    rfl
  obtain ⟨h, l, hs, ws, ns, rfl, hh, hl, tr, n1, l6, bd, k⟩ := h
  refine ⟨_, (pss_one (ps_ret (pe_callTy call_tuple_of (by rfl) B.n_tuple (by decide +kernel) (pa_cons (pe_lc (own := [("at", 2), ("height", 3)]) (g := gTup K 2 (gCons (gName 2) (gCons (gName 3) gNil))) rfl sc_lifted.nd (pi_enumT (by rfl) n_enumerate (pa_cons (pv 0) pa_nil)) (blkOk_by (N := ["heights", "needs", "at", "height", "state", "second", "more"]) (sc := defScope st_lifted) (by decide +kernel)) (fun _ _ _ _ _ => (pg_tup rfl (pgs_cons (pg_name (i := 2) sc_lifted.nd rfl (.inr rfl)) (pgs_cons (pg_name (i := 3) sc_lifted.nd rfl (.inl rfl)) pgs_nil)))) (fun _ _ _ _ _ => pts_nil) (fun _ _ _ _ _ => (pe_callB (show CallR _ (.builtin "max") (rMax K) from cr_max rfl) (by rfl) B.n_max (by decide +kernel) (pa_cons (pe_op op_cat (pe_lst (pa_cons (pv 3) pa_nil)) (pe_lc (own := [("state", 4), ("second", 5), ("more", 6)]) (g := gTup K 3 (gCons (gName 4) (gCons (gName 5) (gCons (gName 6) gNil)))) rfl sc_lifted.nd (pi_listK (K := K) (pv 1)) (blkOk_in (N := ["heights", "needs", "at", "height", "state", "second", "more"]) (defScope st_lifted) rfl (by decide +kernel)) (fun _ _ _ _ _ => (pg_tup rfl (pgs_cons (pg_name (i := 4) sc_lifted.nd rfl (.inl rfl)) (pgs_cons (pg_name (i := 5) sc_lifted.nd rfl (.inl rfl)) (pgs_cons (pg_name (i := 6) sc_lifted.nd rfl (.inl rfl)) pgs_nil))))) (fun _ _ _ _ _ => (pts_one (pt_cmpR op_eq (pv 5) (pv 2) (nomark _)))) (fun _ _ _ _ _ => (pe_op op_add (pe_ix (show IxR _ (rIxT K) from ix_tup) (pv 0) (pv 4) (fun _ _ => rfl)) (pv 6))))) pa_nil)))) pa_nil)))), ?_⟩
  have lw := tr.len
  have l6' : (hs.map V.int).length ≤ 6 := by rw [List.length_map]; exact l6
  refine ⟨_, rfl, h, _, rfl, SqT.of hh, fun D hD => lc_it (walk_enumT (K := K) (a := h) (xs := hs.map V.int)) (LfI D H ns hs) ⟨same_new (Same.refl _) hD, [], upd_same, rfl, fun j z => absurd z (Nat.not_lt_zero j)⟩ (fun i H' _ q => SqT.of (q.1 _ _ hh)) ?_ (fun H' q => ?_)⟩
  · rintro i x H1 H2 hi ⟨s1, xs, h1, lx, ok⟩ ⟨T, x', y', rfl, nT, rfl, ex, ey⟩
    rw [List.length_map] at hi
    have e1 : x' = .int (i : Nat) := (Option.some.inj ex).symm
    have e2 : y' = .int (gI hs i) := by
      have ey : (hs.map V.int)[i]? = some y' := ey
      rw [List.getElem?_map, gI_at hi] at ey
      exact (Option.some.inj ey).symm
    subst e1 e2
    generalize hH2 : upd H1 T _ = H2
    have k2 : Same H1 H2 := by rw [← hH2]; exact same_new (Same.refl _) nT
    have hT : H2 T = some (.tup [.int (i : Nat), .int (gI hs i)]) := by rw [← hH2, upd_same]
    clear hH2
    have s2 := s1.trans k2
    have h2 := k2 _ _ h1
    refine ⟨T, _, rfl, SqT.of hT, rfl, _, _, rfl, _, _, rfl, rfl, rfl, tyes ?_⟩
    refine ⟨_, rfl, (by show 1 ≤ sizeLine; decide), fun A1 hA1 => ?_⟩
    generalize hH3 : upd H2 A1 _ = H3
    have k3 : Same H2 H3 := by rw [← hH3]; exact same_new (Same.refl _) hA1
    have e3 : H3 A1 = some (.lst [.int (gI hs i)]) := by rw [← hH3, upd_same]
    clear hH3
    have s3 := s2.trans k3
    have hl3 := s3 _ _ hl
    refine ⟨_, rfl, l, rfl, ⟨_, SqL.of hl3⟩, fun D2 hD2 => lc_list (K := K) (a := l) (xs := ws) (InI D2 H3 ns hs i) ⟨same_new (Same.refl _) hD2, [], upd_same, Nat.le_refl _, fun y => ⟨fun z => (nomatch z), fun ⟨_, _, z, _⟩ => (nomatch z)⟩⟩ (fun j H' _ q => SqL.of (q.1 _ _ hl3)) (fun j x H4 hx q => ?_) (fun H4 q => ?_)⟩
    · obtain ⟨s4, ys, h4, ly, mem⟩ := q
      obtain ⟨r, a, b, m, rfl, hr2, en⟩ := tr.at hx
      obtain ⟨la, lb⟩ := bd a b m (List.mem_of_getElem? en)
      have lj : j < ws.length := (List.getElem?_eq_some_iff.mp hx).1
      have hr4 := (s3.trans s4) _ _ hr2
      have hh4 := (s3.trans s4) _ _ hh
      refine ⟨r, _, rfl, SqT.of hr4, rfl, _, _, rfl, _, _, rfl, _, _, rfl, rfl, rfl, ?_⟩
      refine ⟨_, rfl, _, rfl, rfl, _, rfl, ?_⟩
      refine ite2 (fun c => ?_) (fun c => ?_)
      · have c2 : b = i := by
          have z : V.int (b : Nat) = V.int (i : Nat) := of_decide_eq_true c
          have := V.int.inj z
          omega
        subst c2
        refine ⟨_, rfl, _, rfl, h, _, _, _, rfl, rfl, SqT.of hh4, getI la, _, rfl, _, _, rfl, rfl, ?_⟩
        refine ⟨_, h4, size_lt' (by rw [List.length_map]; omega), same_put s4 hD2, ys ++ [gI hs a + m], by rw [upd_same, List.map_append]; rfl, by rw [List.length_append]; show _ + 1 ≤ _; omega, fun y => ?_⟩
        rw [List.mem_append, mem, List.mem_singleton]
        constructor
        · rintro (⟨s', m', hm, e⟩ | e)
          · exact ⟨s', m', (mem_take_succ en).mpr (.inl hm), e⟩
          · exact ⟨a, m, (mem_take_succ en).mpr (.inr rfl), e⟩
        · rintro ⟨s', m', hm, e⟩
          rcases (mem_take_succ en).mp hm with hm | hm
          · exact .inl ⟨s', m', hm, e⟩
          · cases hm
            exact .inr e
      · have c2 : b ≠ i := fun z => c (by rw [z]; exact decide_eq_true rfl)
        refine ⟨s4, ys, h4, by omega, fun y => (mem y).trans ⟨?_, ?_⟩⟩
        · rintro ⟨s', m', hm, e⟩
          exact ⟨s', m', (mem_take_succ en).mpr (.inl hm), e⟩
        · rintro ⟨s', m', hm, e⟩
          rcases (mem_take_succ en).mp hm with hm | hm
          · exact ⟨s', m', hm, e⟩
          · cases hm
            exact absurd rfl c2
    · obtain ⟨s4, ys, h4, ly, mem⟩ := q
      rw [lw, List.take_length] at mem
      rw [lw] at ly
      refine ⟨A1, D2, _, _, rfl, rfl, s4 _ _ e3, h4, (by show 1 + _ ≤ sizeLine; rw [List.length_map]; exact Nat.le_of_lt (size_lt' (by omega))), fun A2 hA2 => ?_⟩
      generalize hH5 : upd H4 A2 _ = H5
      have k5 : Same H4 H5 := by rw [← hH5]; exact same_new (Same.refl _) hA2
      have e5 : H5 A2 = some (.lst ((gI hs i :: ys).map V.int)) := by rw [← hH5, upd_same]; rfl
      clear hH5
      have s5 := k3.trans (s4.trans k5)
      refine ⟨A2, gI hs i :: ys, rfl, SqL.of e5, by simp, fun m hm mx => ?_⟩
      refine ⟨_, s5 _ _ h2, size_lt' (by rw [List.length_map]; omega), same_put (s2.trans s5) hD, xs ++ [m], by rw [upd_same, List.map_append]; rfl, by rw [List.length_append, lx]; rfl, fun j hj => ?_⟩
      by_cases z : j < i
      · have e : gI (xs ++ [m]) j = gI xs j := by unfold gI; rw [List.getElem?_append_left (by omega)]
        rw [e]
        exact ok j z
      · have z : j = i := by omega
        subst z
        have e : gI (xs ++ [m]) j = m := gI_of (by rw [List.getElem?_append_right (by omega), lx, Nat.sub_self]; rfl)
        rw [e]
        refine ⟨mx _ List.mem_cons_self, fun s' m' hm' => mx _ (List.mem_cons_of_mem _ ((mem _).mpr ⟨s', m', hm', rfl⟩)), ?_⟩
        rcases List.mem_cons.mp hm with h | h
        · exact .inl h
        · exact .inr ((mem _).mp h)
  · obtain ⟨s1, xs, h1, lx, ok⟩ := q
    rw [List.length_map] at lx ok
    refine ⟨D, _, rfl, .inl ⟨SqL.of h1, fun p hp => ?_⟩⟩
    exact k p xs _ (same_new s1 hp) upd_same lx ok
end
end Pl
namespace Pl
open PySem PySem.Spec PyProof.Rows L2
def spLevels (CD C : Addr) : Sp := fun vs H Q _ => ∃ (d t : Addr) (ss : List Addr) (rows : List (List Int)), vs = [.ref d] ∧ DvAt CD C H d t ss rows ∧
  (∀ (l : Addr) (hs : List Int) (H' : Hp), Same H H' → H' l = some (.tup (hs.map V.int)) → Least (NdC rows) (wdt rows) hs → Q (.ref l) H') ∧ (∀ H', Same H H' → (∀ g, ¬ Sol (NdC rows) (wdt rows) g) → Q .non H')
theorem fold_max : ∀ (ns : List Int) (n : Int), (ns.foldl max n ∈ n :: ns) ∧ ∀ y ∈ n :: ns, y ≤ ns.foldl max n
  | [], n => ⟨List.mem_cons_self, fun y hy => by rw [List.mem_singleton.mp hy]; exact Int.le_refl _⟩
  | m :: ns, n => by
    obtain ⟨a, b⟩ := fold_max ns (max n m)
    rw [List.foldl_cons]
    refine ⟨?_, fun y hy => ?_⟩
    · rcases List.mem_cons.mp a with h | h
      · rw [h]
        rcases Int.le_total n m with c | c
        · rw [Int.max_eq_right c]; simp
        · rw [Int.max_eq_left c]; simp
      · simp [h]
    · have z := b (max n m) List.mem_cons_self
      rcases List.mem_cons.mp hy with h | h
      · rw [h]; omega
      · rcases List.mem_cons.mp h with h | h
        · rw [h]; omega
        · exact b y (List.mem_cons_of_mem _ h)
theorem rep_flat (x : V) : ∀ n : Nat, (List.replicate n [x]).flatten = List.replicate n x
  | 0 => rfl
  | n + 1 => by rw [List.replicate_succ, List.flatten_cons, rep_flat x n]; rfl
theorem Below.zero {C : Nat → Nat → Int → Prop} {n : Nat} : Below C n (List.replicate n 0) := by
  have e : ∀ i, i < n → gI (List.replicate n (0 : Int)) i = 0 := fun i hi => gI_of (by rw [List.getElem?_replicate]; simp [hi])
  exact ⟨by simp, fun i hi => by rw [e i hi]; exact Int.le_refl _, fun g sg i hi => by rw [e i hi]; exact sg.2.1 i hi⟩
theorem Below.lift {C : Nat → Nat → Int → Prop} {n : Nat} {ns : List (Nat × Nat × Int)} (hn : ∀ s t m, (s, t, m) ∈ ns ↔ C s t m) (hC : Cok C n) {h x : List Int} (b : Below C n h) (l : x.length = n) (lf : ∀ i, i < n → Lft ns h i (gI x i)) : Below C n x := by
  refine ⟨l, fun i hi => Int.le_trans (b.2.1 i hi) (lf i hi).1, fun g sg i hi => ?_⟩
  rcases (lf i hi).2.2 with e | ⟨s, m, hm, e⟩
  · rw [e]; exact b.2.2 g sg i hi
  · have c := (hn s i m).mp hm
    have := sg.2.2 s i m c
    have := b.2.2 g sg s (hC s i m c).1
    omega
section
variable {P : Program} {w : World} {K : PySem.W.Frag} {mg : Str → Option Value} {base : Heap} {CShare CDivision CNoPerson : Addr}
abbrev st_levels : Stmt := top 39
theorem sc_levels : FnScope ["division", "needs", "heights"] ["division"] (defScope st_levels) := ⟨rfl, rfl, rfl, by decide +kernel, rfl, by decide +kernel, by decide +kernel⟩
theorem ok_levels (B : Bn mg) (SDivision : DvK K mg CDivision) (p_states : PCal P w K mg base 4 CDivision "states" ["self"] (spStates CDivision CShare)) (c_check_division : Cal P w K mg base 1 "check_division" ["thing"] (spCheckD CDivision CShare)) (c_level_needs : Cal P w K mg base 6 "level_needs" ["division"] (spNeeds CDivision CShare)) (c_meets : Cal P w K mg base 1 "meets" ["heights", "needs"] spMeets) (c_lifted : Cal P w K mg base 1 "lifted" ["heights", "needs"] spLifted) (D : Df K mg "levels" st_levels ["division"]) : Cal P w K mg base 7 "levels" ["division"] (spLevels CDivision CShare) := by
  refine D.cal sc_levels (fun vs H Q E h => ?_) (fun f cdv A out s H vs Q E hr h => ?_)
  · obtain ⟨d, t, ss, rows, rfl, _⟩ := h
    rfl
  obtain ⟨d, t, ss, rows, rfl, dv, kY, kN⟩ := h
  refine ⟨_, (pss_cons (ps_expr (pe_fn c_check_division (hr.mono (by decide)) (pa_cons (pv 0) pa_nil)))
   (pss_cons (ps_set (i := 1) sc_levels.nd rfl (.inl rfl) (pe_fn c_level_needs (hr.mono (by decide)) (pa_cons (pv 0) pa_nil)))
   (pss_cons (ps_set (i := 2) sc_levels.nd rfl (.inl rfl) (pe_op op_repT (pe_tup (pa_cons pe_int pa_nil)) (pe_pr p_states SDivision.cl (hr.mono (by decide)) (pv 0))))
   (pss_cons (ps_while PassesOwn.never (PW.pt (pw_and (pt_not (pt_val (pe_fn c_meets (hr.mono (by decide)) (pa_cons (pv 2) (pa_cons (pv 1) pa_nil))))) (pw_and1 (pt_cmpR op_lt (pe_callB (call_maxT rfl (un66 hr)) (by rfl) B.n_max (by decide +kernel) (pa_cons (pv 2) pa_nil)) (pe_pr p_states SDivision.cl (hr.mono (by decide)) (pv 0)) (nomark _))))) (pss_one (ps_set (i := 2) sc_levels.nd rfl (.inl rfl) (pe_fn c_lifted (hr.mono (by decide)) (pa_cons (pv 2) (pa_cons (pv 1) pa_nil))))))
   (pss_one (ps_ret (pe_ifExp (pt_val (pe_fn c_meets (hr.mono (by decide)) (pa_cons (pv 2) (pa_cons (pv 1) pa_nil)))) (pv 2) pe_non))))))), ?_⟩
  obtain ⟨⟨dx, hd⟩, ht, al, rw_⟩ := id dv
  obtain ⟨w2, w6⟩ := rw_.w26
  have hC := ndC_ok rows
  refine ⟨_, rfl, d, t, ss, rows, rfl, dv, ?_⟩
  refine ⟨_, rfl, d, t, ss, rows, rfl, dv, fun l ws ns H1 k1 hl tr hn n1 => ?_⟩
  refine ⟨(by show 1 ≤ sizeLine; decide), fun z hz => ?_⟩
  generalize hH2 : upd H1 z _ = H2
  have q2 : Same H1 H2 := by rw [← hH2]; exact same_new (Same.refl _) hz
  have e2 : H2 z = some (.tup [.int 0]) := by rw [← hH2, upd_same]
  clear hH2
  have k2 := k1.trans q2
  have dv2 := dv.same k2
  refine ⟨_, rfl, d, dx, _, rfl, k2 _ _ hd, d, t, ss, rows, rfl, dv2, fun ns0 hn0 => ?_⟩
  rw [rw_.wdt hn0]
  refine ⟨z, _, _, rfl, rfl, SqT.of e2, by simp, by omega, by omega, by decide, fun h0 hh0 => ?_⟩
  generalize hH3 : upd H2 h0 _ = H3
  have q3 : Same H2 H3 := by rw [← hH3]; exact same_new (Same.refl _) hh0
  have e3 : H3 h0 = some (.tup ((List.replicate (wdt rows) 0).map V.int)) := by
    rw [← hH3, upd_same, rep_flat, List.map_replicate]
    rfl
  clear hH3
  have hlT : ∀ s t m, (s, t, m) ∈ ns → s < wdt rows ∧ t < wdt rows := fun s t m hm => by
    have z := hC s t m ((hn s t m).mp hm)
    exact ⟨z.1, z.2.1⟩
  have kl : Same H1 H3 := q2.trans q3
  have gz : ∀ i, i < wdt rows → gI (List.replicate (wdt rows) (0 : Int)) i = 0 := fun i hi => gI_of (by rw [List.getElem?_replicate]; simp [hi])
  refine ⟨fun m σ H' => ∃ (h : Addr) (hs : List Int), m = (37 - hs.sum).toNat ∧ σ = [some (.ref d), some (.ref l), some (.ref h)] ∧ Same H1 H' ∧ H' h = some (.tup (hs.map V.int)) ∧ Below (NdC rows) (wdt rows) hs ∧ ∀ i, i < wdt rows → gI hs i ≤ wdt rows, ⟨_, h0, _, rfl, rfl, kl, e3, Below.zero, fun i hi => by rw [gz i hi]; omega⟩, ?_⟩
  rintro m σ H4 ⟨h, hs, rfl, rfl, k4, hh, bl, up⟩
  have kk4 := k1.trans k4
  have lh := bl.1
  refine ⟨_, rfl, _, rfl, h, l, hs, ws, ns, rfl, hh, k4 _ _ hl, tr.same k4, n1, fun s t m hm => by rw [lh]; exact hlT s t m hm, fun b H5 k5 hb => ?_⟩
  have kk5 := kk4.trans k5
  have hh5 := k5 _ _ hh
  have k15 := k4.trans k5
  have last : ∀ H', Same H5 H' → (b = true ∨ ∃ i, i < wdt rows ∧ (wdt rows : Int) ≤ gI hs i) → tRet (tIf (tB (tCall spMeets [] E0 (tCons (tVar 2) (tCons (tVar 1) tNil)))) (tVar 2) (tC V.non)) { nx := fun x H' => Q V.non H', rt := Q } [some (.ref d), some (.ref l), some (.ref h)] H' := by
    intro H6 k6 why
    have k16 := k15.trans k6
    refine ⟨_, rfl, _, rfl, h, l, hs, ws, ns, rfl, k6 _ _ hh5, k16 _ _ hl, tr.same k16, n1, fun s t m hm => by rw [lh]; exact hlT s t m hm, fun b2 H7 k7 hb2 => ?_⟩
    have kk7 := (kk5.trans k6).trans k7
    cases b2 with
    | true =>
      refine ⟨_, rfl, iteT ?_⟩
      refine ⟨_, rfl, kY h hs H7 kk7 (k7 _ _ (k6 _ _ hh5)) (bl.least fun s t m c => hb2.mp rfl s t m ((hn s t m).mpr c))⟩
    | false =>
      refine ⟨_, rfl, iteF ?_⟩
      refine kN H7 kk7 ?_
      rcases why with e | ⟨i, hi, big⟩
      · have : (false = true) := by rw [hb2, ← hb]; exact e
        cases this
      · exact bl.none hC hi big
  cases b with
  | true =>
    refine ⟨_, rfl, ?_⟩
    exact last H5 (Same.refl _) (.inl rfl)
  | false =>
    refine ⟨_, rfl, ?_⟩
    cases hs with
    | nil => simp at lh; omega
    | cons x xs =>
    refine ⟨_, rfl, h, x, xs, rfl, SqT.of hh5, _, rfl, d, dx, _, rfl, kk5 _ _ hd, d, t, ss, rows, rfl, dv.same kk5, fun ns1 hn1 => ?_⟩
    rw [rw_.wdt hn1]
    obtain ⟨fm, fa⟩ := fold_max xs x
    refine ⟨_, _, rfl, rfl, _, rfl, ?_⟩
    refine ite2 (fun c => ?_) (fun c => ?_)
    · have c2 : xs.foldl max x < (wdt rows : Int) := of_decide_eq_true c
      refine ⟨fun σ' H' => ∃ (h' : Addr) (zs : List Int), σ' = [some (.ref d), some (.ref l), some (.ref h')] ∧ Same H1 H' ∧ H' h' = some (.tup (zs.map V.int)) ∧ zs.length = wdt rows ∧ ∀ i, i < wdt rows → Lft ns (x :: xs) i (gI zs i), fun σ' H' ⟨h', zs, e1, e2, e3, e4, e5⟩ => ?_, ?_⟩
      · have lt : ∀ i, i < wdt rows → gI (x :: xs) i < wdt rows := fun i hi => by
          have := fa _ (List.mem_of_getElem? (gI_at (l := x :: xs) (i := i) (by omega)))
          omega
        have bl' := bl.lift hn hC e4 e5
        have up' : ∀ i, i < wdt rows → gI zs i ≤ wdt rows := fun i hi => by
          rcases (e5 i hi).2.2 with e | ⟨s, m, hm, e⟩
          · rw [e]; exact up i hi
          · have z := hC s i m ((hn s i m).mp hm)
            have := lt s z.1
            omega
        have hup : (x :: xs).sum < zs.sum := by
          have nb : ¬ ∀ s t m, (s, t, m) ∈ ns → gI (x :: xs) s + m ≤ gI (x :: xs) t := fun z => by cases hb.mpr z
          obtain ⟨s, hs⟩ := Classical.not_forall.mp nb
          obtain ⟨t', ht'⟩ := Classical.not_forall.mp hs
          obtain ⟨m, hm⟩ := Classical.not_forall.mp ht'
          obtain ⟨hm, no⟩ := Classical.not_imp.mp hm
          have bt := (hlT s t' m hm).2
          refine sumG_lt (by rw [lh, e4]) (fun i hi => (e5 i (by omega)).1) ⟨t', by omega, ?_⟩
          have := (e5 t' bt).2.1 s m hm
          omega
        have le : zs.sum ≤ 36 := by
          have z := sum_le_mul (a := zs) (b := 6) fun y hy => by
            obtain ⟨j, hj, e⟩ := gI_mem hy
            have := up' j (by omega)
            omega
          omega
        exact ⟨_, by omega, h', zs, rfl, e1, e2, e3, bl', up'⟩
      · refine ⟨_, rfl, _, rfl, h, l, x :: xs, ws, ns, rfl, hh5, k15 _ _ hl, tr.same k15, n1, by omega, fun s t m hm => by rw [lh]; exact hlT s t m hm, fun p zs H6 k6 hp lz lf => ?_⟩
        exact ⟨p, zs, rfl, k15.trans k6, hp, by omega, fun i hi => lf i (by omega)⟩
    · have c2 : ¬ xs.foldl max x < (wdt rows : Int) := fun z => c (decide_eq_true z)
      obtain ⟨i, hi, e⟩ := gI_mem fm
      exact last H5 (Same.refl _) (.inr ⟨i, by omega, by omega⟩)
end
end Pl
namespace Pl
open PySem PySem.Spec PyProof.Rows L2
/-- as many ints as states, and high enough -/
def LvD (rows : List (List Int)) (xs : List V) : Prop := ∃ hs : List Int, xs = hs.map V.int ∧ hs.length = wdt rows ∧ ∀ s t m, NdC rows s t m → gI hs s + m ≤ gI hs t
theorem ints_of : ∀ {xs : List V}, (∀ (j : Nat) (x : V), xs[j]? = some x → isInt x = true) → ∃ hs : List Int, xs = hs.map V.int
  | [], _ => ⟨[], rfl⟩
  | x :: xs, h => by
    obtain ⟨hs, e⟩ := ints_of (xs := xs) fun j y e => h (j + 1) y (by simpa using e)
    have hx := h 0 x rfl
    cases x <;> first | (simp [isInt] at hx; done) | skip
    rename_i i
    exact ⟨i :: hs, by rw [e]; rfl⟩
theorem ints_is {hs : List Int} {j : Nat} {x : V} (e : (hs.map V.int)[j]? = some x) : isInt x = true := by
  rw [List.getElem?_map] at e
  cases z : hs[j]? with
  | none => rw [z] at e; cases e
  | some y => rw [z] at e; cases e; rfl
def spShowV (K : PySem.W.Frag) (CD C : Addr) : Sp := fun vs H Q _ => ∃ (d t : Addr) (ss : List Addr) (rows : List (List Int)) (x : V), vs = [.ref d, x] ∧ DvAt CD C H d t ss rows ∧
  ((∃ ty, TyX K H x ty ∧ PySem.W.kitOne K ty (.type "tuple") = some false ∧ Q (.bl false) H) ∨
   (∃ (p : Addr) (xs : List V), x = .ref p ∧ H p = some (.tup xs) ∧ xs.length ≤ 100 ∧ (∀ y ∈ xs, Kd K H y) ∧ ∀ (b : Bool) (H' : Hp), Same H H' → (b = true ↔ LvD rows xs) → Q (.bl b) H'))
section
variable {P : Program} {w : World} {K : PySem.W.Frag} {mg : Str → Option Value} {base : Heap} {CShare CDivision CNoPerson : Addr}
abbrev st_shows_levels : Stmt := top 40
theorem sc_shows_levels : FnScope ["division", "thing", "level"] ["division", "thing"] (defScope st_shows_levels) := ⟨rfl, rfl, rfl, by decide +kernel, rfl, by decide +kernel, by decide +kernel⟩
theorem ok_showV (B : Bn mg) (SDivision : DvK K mg CDivision) (p_states : PCal P w K mg base 4 CDivision "states" ["self"] (spStates CDivision CShare)) (c_check_division : Cal P w K mg base 1 "check_division" ["thing"] (spCheckD CDivision CShare)) (c_is_integer : Cal P w K mg base 1 "is_integer" ["thing"] (spIsI K)) (c_level_needs : Cal P w K mg base 6 "level_needs" ["division"] (spNeeds CDivision CShare)) (c_meets : Cal P w K mg base 1 "meets" ["heights", "needs"] spMeets) (D : Df K mg "shows_levels" st_shows_levels ["division", "thing"]) : Cal P w K mg base 7 "shows_levels" ["division", "thing"] (spShowV K CDivision CShare) := by
  refine D.cal sc_shows_levels (fun vs H Q E h => ?_) (fun f cdv A out s H vs Q E hr h => ?_)
  · obtain ⟨d, t, ss, rows, x, rfl, _⟩ := h
    rfl
  obtain ⟨d, t, ss, rows, x, rfl, dv, h⟩ := h
  refine ⟨_, (pss_cons (ps_expr (pe_fn c_check_division (hr.mono (by decide)) (pa_cons (pv 0) pa_nil)))
   (pss_cons (ps_if (PW.pt (pw_or (pt_not (pt_val (pe_callB call_isi (by rfl) B.n_isinstance (by decide +kernel) (pa_cons (pv 1) (pa_cons (pe_bltn (v := .ty "tuple") (by rfl) B.n_tuple (by decide +kernel) rfl) pa_nil))))) (pw_or1 (pt_cmpR op_ne (pe_callB call_len_seq (by rfl) B.n_len (by decide +kernel) (pa_cons (pv 1) pa_nil)) (pe_pr p_states SDivision.cl (hr.mono (by decide)) (pv 0)) (nomark _))))) (pss_one (ps_ret pe_bl)) pss_nil)
   (pss_one (ps_ret (pe_and (pe_callB (cr_all rfl) (by rfl) B.n_all (by decide +kernel) (pa_cons (pe_lc (own := [("level", 2)]) (g := gName 2) rfl sc_shows_levels.nd (pi_tup (pv 1)) (blkOk_by (N := ["division", "thing", "level"]) (sc := defScope st_shows_levels) (by decide +kernel)) (fun _ _ _ _ _ => (pg_name (i := 2) sc_shows_levels.nd rfl (.inl rfl))) (fun _ _ _ _ _ => pts_nil) (fun _ _ _ _ _ => (pe_fn c_is_integer (hr.mono (by decide)) (pa_cons (pv 2) pa_nil)))) pa_nil)) (pe_one (pe_fn c_meets (hr.mono (by decide)) (pa_cons (pv 1) (pa_cons (pe_fn c_level_needs (hr.mono (by decide)) (pa_cons (pv 0) pa_nil)) pa_nil))))))))), ?_⟩
  obtain ⟨⟨dx, hd⟩, ht, al, rw_⟩ := id dv
  obtain ⟨w2, w6⟩ := rw_.w26
  have hC := ndC_ok rows
  refine ⟨_, rfl, d, t, ss, rows, rfl, dv, ?_⟩
  rcases h with ⟨ty, tx, kt, k⟩ | ⟨p, xs, rfl, hp, l100, kd, k⟩
  · exact ⟨_, rfl, _, _, _, _, false, rfl, .ty _, tx, kt, _, rfl, iteT k⟩
  refine ⟨_, rfl, _, _, _, _, true, rfl, .ty _, .base (.tup hp), kit_ty (by decide +kernel), _, rfl, iteF ?_⟩
  refine ⟨_, rfl, p, _, rfl, .inr (SqT.of hp), _, rfl, d, dx, _, rfl, hd, d, t, ss, rows, rfl, dv, fun ns0 hn0 => ?_⟩
  rw [rw_.wdt hn0]
  refine ⟨rfl, _, rfl, ?_⟩
  refine ite2 (fun c => ?_) (fun c => ?_)
  · refine k false H (Same.refl H) ⟨fun z => (nomatch z), fun ⟨hs, e, z, _⟩ => ?_⟩
    have z2 : xs.length = wdt rows := by rw [e, List.length_map, z]
    rw [z2] at c
    simp at c
  have lh : xs.length = wdt rows := by
    have z : V.int (xs.length : Int) = V.int (wdt rows : Int) := by simpa using c
    have := V.int.inj z
    omega
  refine ⟨_, rfl, p, rfl, ⟨_, SqT.of hp⟩, fun D hD => lc_tup (K := K) (a := p) (xs := xs) (BlI D H fun j => ∀ x, xs[j]? = some x → isInt x = true) (BlI.start hD) (fun i H' _ q => SqT.of (q.1 _ _ hp)) (fun i x H' hx q => ⟨rfl, tyes ?_⟩) (fun H' q => ?_)⟩
  · have il := (List.getElem?_eq_some_iff.mp hx).1
    refine ⟨_, rfl, _, rfl, (kd x (List.mem_of_getElem? hx)).same q.1, q.next (Same.refl _) hD (by omega) (b := isInt x) ⟨fun z y hy => ?_, fun z => z x hx⟩⟩
    rw [hx] at hy
    cases hy
    exact z
  · have k1 := q.1
    obtain ⟨bs, e, ev⟩ := q.all
    refine ⟨D, bs, rfl, SqL.of e, ?_⟩
    cases ea : bs.all id with
    | false =>
      refine ⟨_, rfl, iteF (k false H' k1 ⟨fun z => (nomatch z), fun ⟨hs, e2, _⟩ => ?_⟩)⟩
      have : bs.all id = true := ev.mpr fun j _ x hx => ints_is (by rw [← e2]; exact hx)
      rw [ea] at this
      cases this
    | true =>
      obtain ⟨hs, rfl⟩ := ints_of fun j x hx => ev.mp ea j (List.getElem?_eq_some_iff.mp hx).1 x hx
      rw [List.length_map] at lh
      refine ⟨_, rfl, iteT ?_⟩
      refine ⟨_, rfl, _, rfl, d, t, ss, rows, rfl, dv.same k1, fun l ws ns H2 k2 hl tr hn n1 => ?_⟩
      have kk := k1.trans k2
      refine ⟨p, l, hs, ws, ns, rfl, kk _ _ hp, hl, tr, n1, fun s t m hm => ?_, fun b H3 k3 hb => k b H3 (kk.trans k3) (hb.trans ⟨fun z => ⟨hs, rfl, lh, fun s t m c => z s t m ((hn s t m).mpr c)⟩, fun ⟨gs, e3, _, z⟩ s t m hm => ?_⟩)⟩
      · have z := hC s t m ((hn s t m).mp hm)
        rw [lh]
        exact ⟨z.1, z.2.1⟩
      · have : hs = gs := (List.map_inj_right (f := V.int) (fun _ _ h => V.int.inj h)).mp e3
        subst this
        exact z s t m ((hn s t m).mp hm)
end
end Pl
namespace Pl
open PySem PySem.Spec PyProof.Rows L2
/-- the slots as they stand -/
theorem tcl {wi : TI} {g : TG} {tt : TT} {us : List Nat} {t : TIn} {σ σ' : L2.St} {H : Hp} {D : Addr} {Nx : Hp → Prop} (e : σ = σ') (h : tClause wi g tt us t σ' H D Nx) : tClause wi g tt us t σ H D Nx := e ▸ h
/-- one rises and the other falls -/
def Opp (rows : List (List Int)) (p o s t : Nat) : Prop := p < rows.length ∧ o < rows.length ∧ s < wdt rows ∧ t < wdt rows ∧ 1 ≤ rs rows p s t ∧ 1 ≤ rs rows o t s
def Bef (p' o' s' t' p o s t : Nat) : Prop := p' < p ∨ (p' = p ∧ (o' < o ∨ (o' = o ∧ (s' < s ∨ (s' = s ∧ t' < t)))))
def FOpp (rows : List (List Int)) (p o s t : Nat) : Prop := Opp rows p o s t ∧ ∀ p' o' s' t', Opp rows p' o' s' t' → ¬ Bef p' o' s' t' p o s t

def NoB (rows : List (List Int)) (p o s t : Nat) : Prop := ∀ p' o' s' t', Opp rows p' o' s' t' → ¬ Bef p' o' s' t' p o s t
theorem NoB.s {rows : List (List Int)} {p o s : Nat} (h : NoB rows p o s (wdt rows)) : NoB rows p o (s + 1) 0 := fun p' o' s' t' c b => h p' o' s' t' c (by
  obtain ⟨_, _, _, lt, _⟩ := c
  unfold Bef at b ⊢
  omega)
theorem NoB.o {rows : List (List Int)} {p o : Nat} (h : NoB rows p o (wdt rows) 0) : NoB rows p (o + 1) 0 0 := fun p' o' s' t' c b => h p' o' s' t' c (by
  obtain ⟨_, _, ls, lt, _⟩ := c
  unfold Bef at b ⊢
  omega)
theorem NoB.p {rows : List (List Int)} {p : Nat} (h : NoB rows p rows.length 0 0) : NoB rows (p + 1) 0 0 0 := fun p' o' s' t' c b => h p' o' s' t' c (by
  obtain ⟨lp, lo, ls, lt, _⟩ := c
  unfold Bef at b ⊢
  omega)
theorem NoB.t {rows : List (List Int)} {p o s t : Nat} (h : NoB rows p o s t) (no : ¬ Opp rows p o s t) : NoB rows p o s (t + 1) := fun p' o' s' t' c b => by
  by_cases z : p' = p ∧ o' = o ∧ s' = s ∧ t' = t
  · obtain ⟨rfl, rfl, rfl, rfl⟩ := z
    exact no c
  · refine h p' o' s' t' c ?_
    unfold Bef at b ⊢
    omega
theorem NoB.start (rows : List (List Int)) : NoB rows 0 0 0 0 := fun p' o' s' t' _ b => by
  unfold Bef at b
  omega
theorem NoB.all {rows : List (List Int)} (h : NoB rows rows.length 0 0 0) : ∀ p o s t, ¬ Opp rows p o s t := fun p o s t c => h p o s t c (by
  obtain ⟨lp, _⟩ := c
  unfold Bef
  omega)
/-- the first of those found stands first -/
def OpI (rows : List (List Int)) (D : Addr) (H0 : Hp) (p o s t : Nat) (H : Hp) : Prop := Same H0 H ∧ ∃ vs : List V, H D = some (.lst vs) ∧ vs.length ≤ 144 * p + 36 * o + 6 * s + t ∧
  ((vs = [] ∧ NoB rows p o s t) ∨ (∃ (u : Addr) (r : List V) (a b c d : Nat), vs = .ref u :: r ∧ H u = some (.tup [.int a, .int b, .int c, .int d]) ∧ FOpp rows a b c d))
theorem OpI.s {rows : List (List Int)} {D : Addr} {H0 H : Hp} {p o s : Nat} (w6 : wdt rows ≤ 6) (h : OpI rows D H0 p o s (wdt rows) H) : OpI rows D H0 p o (s + 1) 0 H := by
  obtain ⟨sm, vs, hd, l, c⟩ := h
  exact ⟨sm, vs, hd, by omega, c.imp (fun z => ⟨z.1, z.2.s⟩) id⟩
theorem OpI.o {rows : List (List Int)} {D : Addr} {H0 H : Hp} {p o : Nat} (w6 : wdt rows ≤ 6) (h : OpI rows D H0 p o (wdt rows) 0 H) : OpI rows D H0 p (o + 1) 0 0 H := by
  obtain ⟨sm, vs, hd, l, c⟩ := h
  exact ⟨sm, vs, hd, by omega, c.imp (fun z => ⟨z.1, z.2.o⟩) id⟩
theorem OpI.p {rows : List (List Int)} {D : Addr} {H0 H : Hp} {p : Nat} (p4 : rows.length ≤ 4) (h : OpI rows D H0 p rows.length 0 0 H) : OpI rows D H0 (p + 1) 0 0 0 H := by
  obtain ⟨sm, vs, hd, l, c⟩ := h
  exact ⟨sm, vs, hd, by omega, c.imp (fun z => ⟨z.1, z.2.p⟩) id⟩
theorem OpI.skip {rows : List (List Int)} {D : Addr} {H0 H H' : Hp} {p o s t : Nat} (h : OpI rows D H0 p o s t H) (k : Same H H') (no : ¬ Opp rows p o s t) : OpI rows D H0 p o s (t + 1) H' := by
  obtain ⟨sm, vs, hd, l, c⟩ := h
  refine ⟨sm.trans k, vs, k _ _ hd, by omega, ?_⟩
  rcases c with ⟨e, n⟩ | ⟨u, r, a, b, c, d, e, hu, fo⟩
  · exact .inl ⟨e, n.t no⟩
  · exact .inr ⟨u, r, a, b, c, d, e, k _ _ hu, fo⟩
theorem OpI.add {rows : List (List Int)} {D q : Addr} {H0 H H' : Hp} {p o s t : Nat} (h : OpI rows D H0 p o s t H) (nD : H0 D = none) (k : Same H H') (yes : Opp rows p o s t) (hq : H' q = some (.tup [.int p, .int o, .int s, .int t])) (w6 : wdt rows ≤ 6) (p4 : rows.length ≤ 4) :
    ∃ acc, H' D = some (.lst acc) ∧ acc.length < sizeLine ∧ OpI rows D H0 p o s (t + 1) (L2.upd H' D (.lst (acc ++ [.ref q]))) := by
  obtain ⟨sm, vs, hd, l, c⟩ := h
  have hd' := k _ _ hd
  obtain ⟨lp, lo, ls, lt, _⟩ := id yes
  have hq' : (L2.upd H' D (.lst (vs ++ [.ref q]))) q = some (.tup [.int p, .int o, .int s, .int t]) := by rw [upd_ne (ne_of hq hd' (by intro z; cases z))]; exact hq
  refine ⟨vs, hd', size_lt' (by omega), same_put (sm.trans k) nD, vs ++ [.ref q], upd_same, by rw [List.length_append]; show _ + 1 ≤ _; omega, .inr ?_⟩
  rcases c with ⟨rfl, n⟩ | ⟨u, r, a, b, c, d, rfl, hu, fo⟩
  · exact ⟨q, [], p, o, s, t, rfl, hq', yes, n⟩
  · exact ⟨u, r ++ [.ref q], a, b, c, d, rfl, by rw [upd_ne (ne_of (k _ _ hu) hd' (by intro z; cases z))]; exact k _ _ hu, fo⟩
def spOpp (CD C : Addr) : Sp := fun vs H Q _ => ∃ (d t : Addr) (ss : List Addr) (rows : List (List Int)), vs = [.ref d] ∧ DvAt CD C H d t ss rows ∧
  ∀ (l : Addr) (ws : List V) (H' : Hp), Same H H' → H' l = some (.lst ws) → ((ws = [] ∧ ∀ p o s t, ¬ Opp rows p o s t) ∨ (∃ (u : Addr) (r : List V) (a b c d : Nat), ws = .ref u :: r ∧ H' u = some (.tup [.int a, .int b, .int c, .int d]) ∧ FOpp rows a b c d)) → Q (.ref l) H'
section
variable {P : Program} {w : World} {K : PySem.W.Frag} {mg : Str → Option Value} {base : Heap} {CShare CDivision CNoPerson : Addr}
abbrev st_opposites : Stmt := top 57
theorem sc_opposites : FnScope ["division", "people", "states", "person", "other", "state", "second"] ["division"] (defScope st_opposites) := ⟨rfl, rfl, rfl, by decide +kernel, rfl, by decide +kernel, by decide +kernel⟩
theorem ok_opp (B : Bn mg) (SDivision : DvK K mg CDivision) (p_people : PCal P w K mg base 2 CDivision "people" ["self"] (spPeople CDivision CShare)) (p_states : PCal P w K mg base 4 CDivision "states" ["self"] (spStates CDivision CShare)) (c_rise : Cal P w K mg base 5 "rise" ["division", "person", "state", "second"] (spRise CDivision CShare)) (D : Df K mg "opposites" st_opposites ["division"]) : Cal P w K mg base 6 "opposites" ["division"] (spOpp CDivision CShare) := by
  refine D.cal sc_opposites (fun vs H Q E h => ?_) (fun f cdv A out s H vs Q E hr h => ?_)
  · obtain ⟨d, t, ss, rows, rfl, _⟩ := h
    rfl
  obtain ⟨d, t, ss, rows, rfl, dv, k⟩ := h
  refine ⟨_, (pss_cons (ps_set (i := 1) sc_opposites.nd rfl (.inr rfl) (pe_listRg rfl (by rfl) B.n_list (prg_1 (by rfl) B.n_range (pe_pr p_people SDivision.cl (hr.mono (by decide)) (pv 0)))))
   (pss_cons (ps_set (i := 2) sc_opposites.nd rfl (.inr rfl) (pe_listRg rfl (by rfl) B.n_list (prg_1 (by rfl) B.n_range (pe_pr p_states SDivision.cl (hr.mono (by decide)) (pv 0)))))
   (pss_one (ps_ret (pe_lcN (own := [("person", 3), ("other", 4), ("state", 5), ("second", 6)]) (g := gName 3) rfl sc_opposites.nd (pi_list (pv 1)) (blkOk_by (N := ["division", "people", "states", "person", "other", "state", "second"]) (sc := defScope st_opposites) (by decide +kernel)) (by decide) (fun _ _ _ _ _ => ⟨(pg_name (i := 3) sc_opposites.nd rfl (.inl rfl)), pts_nil, (PIns.cons (us := [4, 5, 6]) (pi_listK (K := K) (pv 1)) (pg_name (i := 4) sc_opposites.nd rfl (.inl rfl)) pts_nil (by decide) (by intro _ _; rfl) (PIns.cons (us := [5, 6]) (pi_listK (K := K) (pv 2)) (pg_name (i := 5) sc_opposites.nd rfl (.inl rfl)) pts_nil (by decide) (by intro _ _; rfl) (PIns.cons (us := [6]) (pi_listK (K := K) (pv 2)) (pg_name (i := 6) sc_opposites.nd rfl (.inl rfl)) (pts_one (PW.pt (pw_and (pt_cmpR op_ge (pe_fn c_rise (hr.mono (by decide)) (pa_cons (pv 0) (pa_cons (pv 3) (pa_cons (pv 5) (pa_cons (pv 6) pa_nil))))) pe_int (nomark _)) (pw_and1 (pt_cmpR op_ge (pe_fn c_rise (hr.mono (by decide)) (pa_cons (pv 0) (pa_cons (pv 4) (pa_cons (pv 6) (pa_cons (pv 5) pa_nil))))) pe_int (nomark _)))))) (by decide) (by intro _ _; rfl) (.nil (pe_tup (pa_cons (pv 3) (pa_cons (pv 4) (pa_cons (pv 5) (pa_cons (pv 6) pa_nil)))))))))⟩)))))), ?_⟩
  obtain ⟨⟨dx, hd⟩, ht, al, rw_⟩ := id dv
  obtain ⟨w2, w6⟩ := rw_.w26
  have p24 := rw_.1
  have p4 := rw_.2.1
  have rl : ∀ n : Nat, (rgV 0 (n : Int)).length = n := fun n => by rw [rgV_length]; omega
  have rg : ∀ {n i : Nat} {x : V}, (rgV 0 (n : Int))[i]? = some x → i < n ∧ x = .int (i : Nat) := fun {n i x} e => by
    have lt : i < n := by
      have z := (List.getElem?_eq_some_iff.mp e).1
      rw [rl] at z
      exact z
    refine ⟨lt, ?_⟩
    unfold rgV at e
    rw [List.getElem?_map, List.getElem?_range (by omega)] at e
    have z := Option.some.inj e
    rw [← z]
    simp
  refine ⟨_, rfl, d, dx, _, rfl, hd, d, t, ss, rows, rfl, dv, _, rfl, RgOk.of_le (by omega) (by omega) (by omega) (by omega), fun S1 hS1 => ?_⟩
  generalize hH1 : upd H S1 _ = H1
  have k1 : Same H H1 := by rw [← hH1]; exact same_new (Same.refl H) hS1
  have e1 : H1 S1 = some (.lst (rgV 0 (rows.length : Int))) := by rw [← hH1, upd_same]
  clear hH1
  refine ⟨_, rfl, d, dx, _, rfl, k1 _ _ hd, d, t, ss, rows, rfl, dv.same k1, fun ns0 hn0 => ?_⟩
  rw [rw_.wdt hn0]
  refine ⟨_, rfl, RgOk.of_le (by omega) (by omega) (by omega) (by omega), fun S2 hS2 => ?_⟩
  generalize hH2 : upd H1 S2 _ = H2
  have k2 : Same H1 H2 := by rw [← hH2]; exact same_new (Same.refl H1) hS2
  have e2 : H2 S2 = some (.lst (rgV 0 (wdt rows : Int))) := by rw [← hH2, upd_same]
  clear hH2
  have e1 := k2 _ _ e1
  have k2 := k1.trans k2
  have dv2 := dv.same k2
  refine ⟨_, rfl, S1, rfl, ⟨_, SqL.of e1⟩, fun D hD => ?_⟩
  refine lcW (fun i H' => OpI rows D H2 i 0 0 0 H') ⟨same_new (Same.refl _) hD, [], upd_same, Nat.le_refl _, .inl ⟨rfl, NoB.start rows⟩⟩ (fun i H' _ r => SqL.of (r.1 _ _ e1)) (fun i x H3 hx r3 => ?_) (fun H3 r3 => ?_)
  · obtain ⟨li, rfl⟩ := rg hx
    refine ⟨rfl, tyes (tcl (σ' := [some (.ref d), some (.ref S1), some (.ref S2), some (.int (i : Nat)), none, none, none]) rfl ?_)⟩
    refine ⟨_, rfl, S1, rfl, ⟨_, SqL.of (r3.1 _ _ e1)⟩, ?_⟩
    refine lcW (fun j H' => OpI rows D H2 i j 0 0 H') r3 (fun j H' _ r => SqL.of (r.1 _ _ e1)) (fun j x H4 hx r4 => ?_) (fun H4 r4 => ?_)
    · obtain ⟨lj, rfl⟩ := rg hx
      refine ⟨rfl, tyes (tcl (σ' := [some (.ref d), some (.ref S1), some (.ref S2), some (.int (i : Nat)), some (.int (j : Nat)), none, none]) rfl ?_)⟩
      refine ⟨_, rfl, S2, rfl, ⟨_, SqL.of (r4.1 _ _ e2)⟩, ?_⟩
      refine lcW (fun a H' => OpI rows D H2 i j a 0 H') r4 (fun a H' _ r => SqL.of (r.1 _ _ e2)) (fun a x H5 hx r5 => ?_) (fun H5 r5 => ?_)
      · obtain ⟨la, rfl⟩ := rg hx
        refine ⟨rfl, tyes (tcl (σ' := [some (.ref d), some (.ref S1), some (.ref S2), some (.int (i : Nat)), some (.int (j : Nat)), some (.int (a : Nat)), none]) rfl ?_)⟩
        refine ⟨_, rfl, S2, rfl, ⟨_, SqL.of (r5.1 _ _ e2)⟩, ?_⟩
        refine lcW (fun b H' => OpI rows D H2 i j a b H') r5 (fun b H' _ r => SqL.of (r.1 _ _ e2)) (fun b x H6 hx r6 => ?_) (fun H6 r6 => ?_)
        · obtain ⟨lb, rfl⟩ := rg hx
          have dv6 := dv2.same r6.1
          refine ⟨rfl, ?_⟩
          refine ⟨_, rfl, _, rfl, _, rfl, _, rfl, d, t, ss, rows, i, a, b, rfl, dv6, li, fun ns hn => by rw [rw_.wdt hn]; exact ⟨la, lb⟩, ?_⟩
          refine ⟨_, _, rfl, rfl, _, rfl, ?_⟩
          refine ite2 (fun c => ?_) (fun c => ?_)
          · have c1 : 1 ≤ rs rows i a b := of_decide_eq_true c
            refine ⟨_, rfl, _, rfl, _, rfl, _, rfl, d, t, ss, rows, j, b, a, rfl, dv6, lj, fun ns hn => by rw [rw_.wdt hn]; exact ⟨lb, la⟩, ?_⟩
            refine ⟨_, _, rfl, rfl, _, rfl, ?_⟩
            refine ite2 (fun c3 => ?_) (fun c3 => ?_)
            · have c4 : 1 ≤ rs rows j b a := of_decide_eq_true c3
              refine ⟨_, rfl, _, rfl, _, rfl, _, rfl, (by show 4 ≤ sizeLine; decide), fun q hq => ?_⟩
              exact r6.add hD (same_new (Same.refl _) hq) ⟨li, lj, la, lb, c1, c4⟩ upd_same w6 p4
            · have c4 : ¬ 1 ≤ rs rows j b a := fun z => c3 (decide_eq_true z)
              exact r6.skip (Same.refl _) fun z => c4 z.2.2.2.2.2
          · have c1 : ¬ 1 ≤ rs rows i a b := fun z => c (decide_eq_true z)
            exact r6.skip (Same.refl _) fun z => c1 z.2.2.2.2.1
        · rw [rl] at r6
          exact r6.s w6
      · rw [rl] at r5
        exact r5.o w6
    · rw [rl] at r4
      exact r4.p p4
  · rw [rl] at r3
    obtain ⟨k3, vs, hd3, _, c⟩ := r3
    exact k D vs H3 (k2.trans k3) hd3 (c.imp (fun z => ⟨z.1, z.2.all⟩) id)
end
end Pl
namespace Pl
open PySem PySem.Spec PyProof.Rows L2
/-- pairs of ints in the heap -/
inductive PrL (H : Hp) : List V → List (Int × Int) → Prop
  | nil : PrL H [] []
  | cons {q : Addr} {a b : Int} {vs : List V} {ps : List (Int × Int)} : H q = some (.tup [.int a, .int b]) → PrL H vs ps → PrL H (.ref q :: vs) ((a, b) :: ps)
theorem PrL.same {H H' : Hp} (k : Same H H') : ∀ {vs : List V} {ps : List (Int × Int)}, PrL H vs ps → PrL H' vs ps
  | _, _, .nil => .nil
  | _, _, .cons h r => .cons (k _ _ h) (r.same k)
theorem PrL.put {H : Hp} {l : Addr} {ys : List V} {o : HO} (hl : H l = some (.lst ys)) : ∀ {vs : List V} {ps : List (Int × Int)}, PrL H vs ps → PrL (L2.upd H l o) vs ps
  | _, _, .nil => .nil
  | _, _, .cons h r => .cons (by rw [upd_ne (ne_of h hl (by intro z; cases z))]; exact h) (r.put hl)
theorem PrL.len {H : Hp} : ∀ {vs : List V} {ps : List (Int × Int)}, PrL H vs ps → vs.length = ps.length
  | _, _, .nil => rfl
  | _, _, .cons _ r => by rw [List.length_cons, List.length_cons, r.len]
theorem PrL.snoc {H : Hp} {q : Addr} {a b : Int} (h : H q = some (.tup [.int a, .int b])) : ∀ {vs : List V} {ps : List (Int × Int)}, PrL H vs ps → PrL H (vs ++ [.ref q]) (ps ++ [(a, b)])
  | _, _, .nil => .cons h .nil
  | _, _, .cons h' r => .cons h' (PrL.snoc h r)
theorem PrL.at {H : Hp} : ∀ {vs : List V} {ps : List (Int × Int)} {i : Nat} {x : V}, PrL H vs ps → vs[i]? = some x → ∃ (q : Addr) (a b : Int), x = .ref q ∧ H q = some (.tup [.int a, .int b]) ∧ ps[i]? = some (a, b)
  | _, _, _, _, .nil, e => by cases e
  | _, _, 0, _, .cons h r, e => by
    cases e
    exact ⟨_, _, _, rfl, h, rfl⟩
  | _, _, i + 1, _, .cons h r, e => r.at (i := i) (by simpa using e)
/-- the pair at a place -/
def kP (H : Hp) : V → Int × Int
  | .ref t => match H t with
    | some (.tup [.int a, .int b]) => (a, b)
    | _ => (0, 0)
  | _ => (0, 0)
theorem PrL.map {H : Hp} : ∀ {vs : List V} {ps : List (Int × Int)}, PrL H vs ps → ps = vs.map (kP H)
  | _, _, .nil => rfl
  | _, _, .cons h r => by
    rw [List.map_cons, ← r.map]
    simp only [kP, h]
theorem PrL.mem {H : Hp} : ∀ {vs : List V} {ps : List (Int × Int)}, PrL H vs ps → ∀ x ∈ vs, ∃ t, x = .ref t ∧ H t = some (.tup [.int (kP H x).1, .int (kP H x).2])
  | _, _, .nil, x, hx => by cases hx
  | _, _, .cons (q := q) h r, x, hx => by
    rcases List.mem_cons.mp hx with rfl | hx
    · exact ⟨q, rfl, by simp only [kP, h]⟩
    · exact r.mem x hx
theorem prL_of {H : Hp} : ∀ {vs : List V}, (∀ x ∈ vs, ∃ t, x = .ref t ∧ H t = some (.tup [.int (kP H x).1, .int (kP H x).2])) → PrL H vs (vs.map (kP H))
  | [], _ => .nil
  | x :: vs, h => by
    obtain ⟨t, rfl, e⟩ := h x List.mem_cons_self
    exact .cons e (prL_of fun y hy => h y (List.mem_cons_of_mem _ hy))
/-- by the first, then by the second -/
def Lx (p q : Int × Int) : Prop := p.1 < q.1 ∨ (p.1 = q.1 ∧ p.2 ≤ q.2)

theorem sortP {H : Hp} {xs ys : List V} {ps : List (Int × Int)} (h : PrL H xs ps) (s : SrtO.Srtd (ltP (kP H)) ys) (b : SrtO.Stb (ltP (kP H)) ys xs) : PrL H ys (ys.map (kP H)) ∧ (ys.map (kP H)).Perm ps ∧ (ys.map (kP H)).Pairwise Lx := by
  refine ⟨prL_of fun y hy => h.mem y (b.perm.mem_iff.mp hy), by rw [h.map]; exact b.perm.map _, ?_⟩
  rw [List.pairwise_map]
  refine List.Pairwise.imp (fun {x y} z => ?_) s
  have z := SrtO.lexB_no.mp z
  unfold Lx
  omega
/-- the states with their totals -/
def tpair (rows : List (List Int)) (i : Nat) : Int × Int := ((col rows i).sum, (i : Int))
def tpairs (rows : List (List Int)) : List (Int × Int) := (List.range (wdt rows)).map (tpair rows)
theorem nst_wdt (rows : List (List Int)) : nst rows = wdt rows := by
  unfold nst wdt
  cases rows <;> rfl
/-- the states in their order -/
def IsOrd (rows : List (List Int)) (ps : List (Int × Int)) : Prop := ps.Perm (tpairs rows) ∧ ps.Pairwise Lx

def spByT (CD C : Addr) : Sp := fun vs H Q _ => ∃ (d t : Addr) (ss : List Addr) (rows : List (List Int)), vs = [.ref d] ∧ DvAt CD C H d t ss rows ∧ ∀ (p : Addr) (ps : List (Int × Int)) (H' : Hp), Same H H' → H' p = some (.tup ((ps.map Prod.snd).map V.int)) → IsOrd rows ps → Q (.ref p) H'
def spOrder (CD C : Addr) : Sp := fun vs H Q _ => ∃ (d t : Addr) (ss : List Addr) (rows : List (List Int)), vs = [.ref d] ∧ DvAt CD C H d t ss rows ∧
  (∀ (r p : Addr) (ps : List (Int × Int)) (H' : Hp), Same H H' → H' r = some (.tup [.str "order", .ref p]) → H' p = some (.tup ((ps.map Prod.snd).map V.int)) → IsOrd rows ps → (∀ p o s t, ¬ Opp rows p o s t) → Q (.ref r) H') ∧
  (∀ (r u : Addr) (a b c e : Nat) (H' : Hp), Same H H' → H' r = some (.tup [.str "opposite", .ref u]) → H' u = some (.tup [.int a, .int b, .int c, .int e]) → FOpp rows a b c e → Q (.ref r) H')
section
variable {P : Program} {w : World} {K : PySem.W.Frag} {mg : Str → Option Value} {base : Heap} {CShare CDivision CNoPerson : Addr}
abbrev st_by_totals : Stmt := top 58
theorem sc_by_totals : FnScope ["division", "pairs", "state", "total"] ["division"] (defScope st_by_totals) := ⟨rfl, rfl, rfl, by decide +kernel, rfl, by decide +kernel, by decide +kernel⟩
theorem ok_byT (B : Bn mg) (n_enumerate : mg "enumerate" = none) (SDivision : DvK K mg CDivision) (p_totals : PCal P w K mg base 4 CDivision "totals" ["self"] (spTotals CDivision CShare)) (D : Df K mg "by_totals" st_by_totals ["division"]) : Cal P w K mg base 6 "by_totals" ["division"] (spByT CDivision CShare) := by
  refine D.cal sc_by_totals (fun vs H Q E h => ?_) (fun f cdv A out s H vs Q E hr h => ?_)
  · obtain ⟨d, t, ss, rows, rfl, _⟩ := h
    rfl
  obtain ⟨d, t, ss, rows, rfl, dv, k⟩ := h
  refine ⟨_, (pss_cons (ps_set (i := 1) sc_by_totals.nd rfl (.inl rfl) (pe_callB cr_sortedPO (by rfl) B.n_sorted (by decide +kernel) (pa_cons (pe_lc (own := [("state", 2), ("total", 3)]) (g := gTup K 2 (gCons (gName 2) (gCons (gName 3) gNil))) rfl sc_by_totals.nd (pi_enumT (by rfl) n_enumerate (pa_cons (pe_pr p_totals SDivision.cl (hr.mono (by decide)) (pv 0)) pa_nil)) (blkOk_by (N := ["division", "pairs", "state", "total"]) (sc := defScope st_by_totals) (by decide +kernel)) (fun _ _ _ _ _ => (pg_tup rfl (pgs_cons (pg_name (i := 2) sc_by_totals.nd rfl (.inl rfl)) (pgs_cons (pg_name (i := 3) sc_by_totals.nd rfl (.inl rfl)) pgs_nil)))) (fun _ _ _ _ _ => pts_nil) (fun _ _ _ _ _ => (pe_tup (pa_cons (pv 3) (pa_cons (pv 2) pa_nil))))) pa_nil)))
   (pss_one (ps_ret (pe_callTy call_tuple_of (by rfl) B.n_tuple (by decide +kernel) (pa_cons (pe_lc (own := [("total", 3), ("state", 2)]) (g := gTup K 2 (gCons (gName 3) (gCons (gName 2) gNil))) rfl sc_by_totals.nd (pi_list (pv 1)) (blkOk_by (N := ["division", "pairs", "state", "total"]) (sc := defScope st_by_totals) (by decide +kernel)) (fun _ _ _ _ _ => (pg_tup rfl (pgs_cons (pg_name (i := 3) sc_by_totals.nd rfl (.inl rfl)) (pgs_cons (pg_name (i := 2) sc_by_totals.nd rfl (.inl rfl)) pgs_nil)))) (fun _ _ _ _ _ => pts_nil) (fun _ _ _ _ _ => (pv 2))) pa_nil))))), ?_⟩
  obtain ⟨⟨dx, hd⟩, ht, al, rw_⟩ := id dv
  obtain ⟨w2, w6⟩ := rw_.w26
  refine ⟨_, rfl, d, dx, _, rfl, hd, d, t, ss, rows, rfl, dv, fun T H1 k1 hT => ?_⟩
  have lt : ((tots rows).map V.int).length = wdt rows := by rw [List.length_map, tots_len, nst_wdt]
  refine ⟨T, _, rfl, SqT.of hT, fun D hD => lc_it (walk_enumT (K := K) (a := T) (xs := (tots rows).map V.int)) (fun i H' => Same H1 H' ∧ ∃ vs : List V, H' D = some (.lst vs) ∧ PrL H' vs ((List.range i).map (tpair rows))) ⟨same_new (Same.refl _) hD, [], upd_same, .nil⟩ (fun i H' _ q => SqT.of (q.1 _ _ hT)) ?_ (fun H2 q2 => ?_)⟩
  · rintro i x H2 H3 hi ⟨k2, vs, h2, pr⟩ ⟨U, x', y', rfl, nU, rfl, ex, ey⟩
    rw [lt] at hi
    have e1 : x' = .int (i : Nat) := (Option.some.inj ex).symm
    have e2 : y' = .int (col rows i).sum := by
      have ey : ((tots rows).map V.int)[i]? = some y' := ey
      rw [List.getElem?_map, tots_at (by rw [nst_wdt]; exact hi)] at ey
      exact (Option.some.inj ey).symm
    subst e1 e2
    generalize hH3 : upd H2 U _ = H3
    have k3 : Same H2 H3 := by rw [← hH3]; exact same_new (Same.refl _) nU
    have hU : H3 U = some (.tup [.int (i : Nat), .int (col rows i).sum]) := by rw [← hH3, upd_same]
    clear hH3
    refine ⟨U, _, rfl, SqT.of hU, rfl, _, _, rfl, _, _, rfl, rfl, rfl, tyes ?_⟩
    refine ⟨_, rfl, _, rfl, (by show 2 ≤ sizeLine; decide), fun q hq => ?_⟩
    generalize hH4 : upd H3 q _ = H4
    have k4 : Same H3 H4 := by rw [← hH4]; exact same_new (Same.refl _) hq
    have e4 : H4 q = some (.tup [.int (col rows i).sum, .int (i : Nat)]) := by rw [← hH4, upd_same]
    clear hH4
    have k24 := k3.trans k4
    have h4 := k24 _ _ h2
    have lv := pr.len
    rw [List.length_map, List.length_range] at lv
    refine ⟨vs, h4, size_lt' (by omega), same_put (k2.trans k24) hD, vs ++ [.ref q], upd_same, ?_⟩
    rw [List.range_succ, List.map_append]
    exact PrL.snoc (by rw [upd_ne (ne_of e4 h4 (by intro z; cases z))]; exact e4) ((pr.same k24).put h4)
  obtain ⟨k2, vs, h2, pr⟩ := q2
  rw [lt] at pr
  refine ⟨D, vs, kP H2, rfl, SqL.of h2, fun x hx => pr.mem x hx, fun ys q sd sb hq => ?_⟩
  obtain ⟨pr2, pm, pw⟩ := sortP pr sd sb
  generalize hH3 : upd H2 q _ = H3
  have k3 : Same H2 H3 := by rw [← hH3]; exact same_new (Same.refl _) hq
  have e3 : H3 q = some (.lst ys) := by rw [← hH3, upd_same]
  clear hH3
  have pr3 := pr2.same k3
  generalize ys.map (kP H2) = ps at pr2 pm pw pr3
  have ly := pr3.len
  have lp : ps.length = wdt rows := by rw [pm.length_eq]; simp
  refine ⟨_, rfl, q, rfl, ⟨_, SqL.of e3⟩, fun D2 hD2 => lc_list (K := K) (a := q) (xs := ys) (fun i H' => Same H3 H' ∧ H' D2 = some (.lst (((ps.take i).map Prod.snd).map V.int))) ⟨same_new (Same.refl _) hD2, upd_same⟩ (fun i H' _ r => SqL.of (r.1 _ _ e3)) (fun i x H4 hx ⟨k4, h4⟩ => ?_) (fun H4 ⟨k4, h4⟩ => ?_)⟩
  · obtain ⟨u, a, b, rfl, hu, en⟩ := pr3.at hx
    refine ⟨u, _, rfl, SqT.of (k4 _ _ hu), rfl, _, _, rfl, _, _, rfl, rfl, rfl, tyes ?_⟩
    refine ⟨_, rfl, _, h4, size_lt' (by rw [List.length_map, List.length_map, List.length_take]; omega), same_put k4 hD2, ?_⟩
    rw [upd_same, List.take_add_one, en, List.map_append, List.map_append]
    rfl
  · rw [ly, List.take_length] at h4
    refine ⟨D2, _, rfl, .inl ⟨SqL.of h4, fun p hp => ?_⟩⟩
    exact k p ps _ (same_new ((k1.trans k2).trans (k3.trans k4)) hp) upd_same ⟨pm, pw⟩
end
end Pl
namespace Pl
open PySem PySem.Spec PyProof.Rows L2
section
variable {P : Program} {w : World} {K : PySem.W.Frag} {mg : Str → Option Value} {base : Heap} {CShare CDivision CNoPerson : Addr}
abbrev st_order : Stmt := top 55
theorem sc_order : FnScope ["division", "found"] ["division"] (defScope st_order) := ⟨rfl, rfl, rfl, by decide +kernel, rfl, by decide +kernel, by decide +kernel⟩
theorem ok_order (B : Bn mg) (c_check_division : Cal P w K mg base 1 "check_division" ["thing"] (spCheckD CDivision CShare)) (c_opposites : Cal P w K mg base 6 "opposites" ["division"] (spOpp CDivision CShare)) (c_by_totals : Cal P w K mg base 6 "by_totals" ["division"] (spByT CDivision CShare)) (D : Df K mg "order" st_order ["division"]) : Cal P w K mg base 7 "order" ["division"] (spOrder CDivision CShare) := by
  refine D.cal sc_order (fun vs H Q E h => ?_) (fun f cdv A out s H vs Q E hr h => ?_)
  · obtain ⟨d, t, ss, rows, rfl, _⟩ := h
    rfl
  obtain ⟨d, t, ss, rows, rfl, dv, kO, kX⟩ := h
  refine ⟨_, (pss_cons (ps_expr (pe_fn c_check_division (hr.mono (by decide)) (pa_cons (pv 0) pa_nil)))
   (pss_cons (ps_set (i := 1) sc_order.nd rfl (.inl rfl) (pe_fn c_opposites (hr.mono (by decide)) (pa_cons (pv 0) pa_nil)))
   (pss_cons (ps_if (pt_truth (pv 1) (fun _ => rfl)) (pss_one (ps_ret (pe_tup (pa_cons pe_str (pa_cons (pe_ix ix_list (pv 1) pe_int (fun _ _ => rfl)) pa_nil))))) pss_nil)
   (pss_one (ps_ret (pe_tup (pa_cons pe_str (pa_cons (pe_fn c_by_totals (hr.mono (by decide)) (pa_cons (pv 0) pa_nil)) pa_nil)))))))), ?_⟩
  refine ⟨_, rfl, d, t, ss, rows, rfl, dv, ?_⟩
  refine ⟨_, rfl, d, t, ss, rows, rfl, dv, fun l ws H1 k1 hl c => ?_⟩
  refine ⟨_, rfl, _, .inl ⟨ws, SqL.of hl, rfl⟩, ?_⟩
  rcases c with ⟨rfl, no⟩ | ⟨u, r, a, b, c, e, rfl, hu, fo⟩
  · refine iteF ?_
    refine ⟨_, rfl, d, t, ss, rows, rfl, dv.same k1, fun p ps H2 k2 hp io => ?_⟩
    refine ⟨(by show 2 ≤ sizeLine; decide), fun q hq => ?_⟩
    exact kO q p ps _ (same_new (k1.trans k2) hq) upd_same (same_new (Same.refl _) hq _ _ hp) io no
  · refine iteT ?_
    refine ⟨_, rfl, l, _, _, _, rfl, rfl, SqL.of hl, atI_nat (j := 0) rfl, ?_⟩
    refine ⟨(by show 2 ≤ sizeLine; decide), fun q hq => ?_⟩
    exact kX q u a b c e _ (same_new k1 hq) upd_same (same_new (Same.refl _) hq _ _ hu) fo
end
end Pl
namespace Pl
open PySem PySem.Spec PyProof.Rows L2
def spOrderly (CD C : Addr) : Sp := fun vs H Q _ => ∃ (d t : Addr) (ss : List Addr) (rows : List (List Int)), vs = [.ref d] ∧ DvAt CD C H d t ss rows ∧ ∀ (b : Bool) (H' : Hp), Same H H' → (b = true ↔ ∀ p o s t, ¬ Opp rows p o s t) → Q (.bl b) H'
section
variable {P : Program} {w : World} {K : PySem.W.Frag} {mg : Str → Option Value} {base : Heap} {CShare CDivision CNoPerson : Addr}
abbrev st_is_orderly : Stmt := top 56
theorem sc_is_orderly : FnScope ["division"] ["division"] (defScope st_is_orderly) := ⟨rfl, rfl, rfl, by decide +kernel, rfl, by decide +kernel, by decide +kernel⟩
theorem ok_orderlyP (c_order : Cal P w K mg base 7 "order" ["division"] (spOrder CDivision CShare)) (D : Df K mg "is_orderly" st_is_orderly ["division"]) : Cal P w K mg base 8 "is_orderly" ["division"] (spOrderly CDivision CShare) := by
  refine D.cal sc_is_orderly (fun vs H Q E h => ?_) (fun f cdv A out s H vs Q E hr h => ?_)
  · obtain ⟨d, t, ss, rows, rfl, _⟩ := h
    rfl
  obtain ⟨d, t, ss, rows, rfl, dv, k⟩ := h
  refine ⟨_, (pss_one (ps_ret (pe_cmpR op_eq (pe_ix ix_tup (pe_fn c_order (hr.mono (by decide)) (pa_cons (pv 0) pa_nil)) pe_int (fun _ _ => rfl)) pe_str (nomark _)))), ?_⟩
  refine ⟨_, rfl, d, t, ss, rows, rfl, dv, fun r p ps H1 k1 hr1 hp io no => ?_, fun r u a b c e H1 k1 hr1 hu fo => ?_⟩
  · refine ⟨r, _, _, _, rfl, rfl, SqT.of hr1, atI_nat (j := 0) rfl, rfl, ?_⟩
    exact k true H1 k1 ⟨fun _ => no, fun _ => rfl⟩
  · refine ⟨r, _, _, _, rfl, rfl, SqT.of hr1, atI_nat (j := 0) rfl, rfl, ?_⟩
    exact k false H1 k1 ⟨fun z => (nomatch z), fun z => absurd fo.1 (z _ _ _ _)⟩
end
end Pl
namespace Pl
open PySem PySem.Spec PyProof.Rows L2
theorem un1 {k : Nat} {A : Around} (hr : Room k A) : A.units + 1 < cLine := Nat.lt_of_le_of_lt (Nat.add_le_add_left (show 1 ≤ 64 by decide) _) hr.units
def nI (l : List Nat) : List Int := l.map (fun x : Nat => ((x : Nat) : Int))
def iV (l : List Nat) : List V := l.map (fun x : Nat => V.int ((x : Nat) : Int))
theorem iV_eq (l : List Nat) : iV l = (nI l).map V.int := by
  unfold iV nI
  rw [List.map_map]
  rfl
theorem nI_inj {a b : List Nat} (h : nI a = nI b) : a = b := (List.map_inj_right (f := fun x : Nat => ((x : Nat) : Int)) (fun _ _ e => Int.ofNat.inj e)).mp h
theorem iV_len (l : List Nat) : (iV l).length = l.length := List.length_map _
theorem iV_at {l : List Nat} {i : Nat} {x : V} (h : (iV l)[i]? = some x) : ∃ s, x = .int (s : Nat) ∧ l[i]? = some s := by
  unfold iV at h
  rw [List.getElem?_map] at h
  cases e : l[i]? with
  | none => rw [e] at h; cases h
  | some y => rw [e] at h; cases h; exact ⟨y, rfl, rfl⟩
/-- the steps of a chain, the last to the first -/
def stp (ss : List Nat) : List (Nat × Nat) := ss.zip (ss.drop 1 ++ ss.take 1)
theorem stp_len {ss : List Nat} (h : 1 ≤ ss.length) : (stp ss).length = ss.length := by
  unfold stp
  rw [List.length_zip, List.length_append, List.length_drop, List.length_take]
  omega
theorem stp_mem {ss : List Nat} {i s t : Nat} (h : (stp ss)[i]? = some (s, t)) : s ∈ ss ∧ t ∈ ss := by
  have m := List.mem_of_getElem? h
  unfold stp at m
  have z := List.of_mem_zip m
  refine ⟨z.1, ?_⟩
  rcases List.mem_append.mp z.2 with q | q
  · exact List.mem_of_mem_drop q
  · exact List.mem_of_mem_take q
/-- the first of the people who rises by so much -/
def fr (rows : List (List Int)) (ps : List Nat) (l : Int) (s t : Nat) : Option Nat := ps.find? fun p => decide (l ≤ rs rows p s t)
def ov : Option Nat → V
  | none => .non
  | some p => .int (p : Nat)
theorem fr_some {rows : List (List Int)} {ps : List Nat} {l : Int} {s t p : Nat} (h : fr rows ps l s t = some p) : p ∈ ps ∧ l ≤ rs rows p s t :=
  ⟨List.mem_of_find?_eq_some h, by simpa using List.find?_some h⟩
theorem fr_none {rows : List (List Int)} {ps : List Nat} {l : Int} {s t : Nat} (h : fr rows ps l s t = none) : ∀ q ∈ ps, ¬ l ≤ rs rows q s t := fun q hq => by
  have := List.find?_eq_none.mp h q hq
  simpa using this
theorem fr_least {rows : List (List Int)} {l : Int} {s t p : Nat} : ∀ {ps : List Nat}, ps.Pairwise (· < ·) → fr rows ps l s t = some p → ∀ q ∈ ps, l ≤ rs rows q s t → p ≤ q
  | [], _, h, _, _, _ => nomatch h
  | x :: ps, pw, h, q, hq, hl => by
    unfold fr at h
    rw [List.find?_cons] at h
    rw [List.pairwise_cons] at pw
    cases c : decide (l ≤ rs rows x s t) with
    | true =>
      rw [c] at h
      have e : x = p := by simpa using h
      subst e
      rcases List.mem_cons.mp hq with rfl | hq
      · exact Nat.le_refl _
      · exact Nat.le_of_lt (pw.1 q hq)
    | false =>
      rw [c] at h
      rcases List.mem_cons.mp hq with rfl | hq
      · exact absurd hl (of_decide_eq_false c)
      · exact fr_least pw.2 (by unfold fr; simpa using h) q hq hl
/-- people who make a ring of the states -/
def Fits (rows : List (List Int)) (ps ss g : List Nat) : Prop := g.length = ss.length ∧ (∀ (i p s t : Nat), g[i]? = some p → (stp ss)[i]? = some (s, t) → p ∈ ps ∧ 1 ≤ rs rows p s t) ∧ ∃ (i p s t : Nat), g[i]? = some p ∧ (stp ss)[i]? = some (s, t) ∧ 2 ≤ rs rows p s t
theorem lx_of_le : ∀ {a b : List Nat}, a.length = b.length → (∀ (i x y : Nat), a[i]? = some x → b[i]? = some y → x ≤ y) → lx (nI b) (nI a) = false
  | [], [], _, _ => rfl
  | [], _ :: _, h, _ => nomatch h
  | _ :: _, [], h, _ => nomatch h
  | a :: as, b :: bs, h, le => by
    have l0 := le 0 a b rfl rfl
    have ih : lx (nI bs) (nI as) = false := lx_of_le (by simpa using h) fun i x y e1 e2 => le (i + 1) x y (by simpa using e1) (by simpa using e2)
    show (decide ((b : Int) < a) || (decide ((b : Int) = a) && lx (nI bs) (nI as))) = false
    rw [ih, Bool.and_false, Bool.or_false]
    exact decide_eq_false (by omega)
/-- the candidates: one steep, all others the first who rise -/
def Cnd (rows : List (List Int)) (ps ss bs : List Nat) (k : Nat) (g : List Nat) : Prop := ∃ (i w s t : Nat), i < k ∧ (stp ss)[i]? = some (s, t) ∧ fr rows ps 2 s t = some w ∧ g = bs.take i ++ [w] ++ bs.drop (i + 1)
def Bas (rows : List (List Int)) (ps ss bs : List Nat) : Prop := bs.length = (stp ss).length ∧ ∀ (i s t : Nat), (stp ss)[i]? = some (s, t) → ∃ b, bs[i]? = some b ∧ fr rows ps 1 s t = some b
theorem set_at {bs : List Nat} {i w j : Nat} (hi : i < bs.length) : (bs.take i ++ [w] ++ bs.drop (i + 1))[j]? = if j = i then some w else bs[j]? := by
  have lt : (bs.take i).length = i := by rw [List.length_take]; omega
  by_cases c : j < i
  · rw [List.append_assoc, List.getElem?_append_left (by omega), List.getElem?_take, if_pos c, if_neg (by omega)]
  · by_cases c2 : j = i
    · subst c2
      rw [if_pos rfl, List.append_assoc, List.getElem?_append_right (by omega), lt, Nat.sub_self]
      rfl
    · rw [if_neg c2, List.getElem?_append_right (by simp; omega), List.getElem?_drop]
      congr 1
      rw [List.length_append, lt]
      show i + 1 + (j - (i + 1)) = j
      omega
theorem set_len {bs : List Nat} {i w : Nat} (hi : i < bs.length) : (bs.take i ++ [w] ++ bs.drop (i + 1)).length = bs.length := by
  rw [List.length_append, List.length_append, List.length_take, List.length_drop]
  show _ + 1 + _ = _
  omega
theorem Cnd.fits {rows : List (List Int)} {ps ss bs g : List Nat} (l1 : 1 ≤ ss.length) (b : Bas rows ps ss bs) (c : Cnd rows ps ss bs (stp ss).length g) : Fits rows ps ss g := by
  obtain ⟨i, w, s, t, li, es, ew, rfl⟩ := c
  have lb : i < bs.length := by rw [b.1]; exact li
  obtain ⟨wm, wr⟩ := fr_some ew
  refine ⟨by rw [set_len lb, b.1, stp_len l1], fun j p s' t' ep et => ?_, i, w, s, t, by rw [set_at lb, if_pos rfl], es, wr⟩
  rw [set_at lb] at ep
  by_cases z : j = i
  · subst z
    rw [if_pos rfl] at ep
    rw [es] at et
    cases ep
    cases et
    exact ⟨wm, by omega⟩
  · rw [if_neg z] at ep
    obtain ⟨b', e1, e2⟩ := b.2 j s' t' et
    rw [e1] at ep
    cases ep
    exact fr_some e2
theorem Fits.cnd {rows : List (List Int)} {ps ss bs g : List Nat} (pw : ps.Pairwise (· < ·)) (l1 : 1 ≤ ss.length) (b : Bas rows ps ss bs) (f : Fits rows ps ss g) : ∃ c, Cnd rows ps ss bs (stp ss).length c ∧ lx (nI g) (nI c) = false := by
  obtain ⟨lg, all, i, p, s, t, ep, es, r2⟩ := f
  have li : i < (stp ss).length := (List.getElem?_eq_some_iff.mp es).1
  have lb : i < bs.length := by rw [b.1]; exact li
  cases e : fr rows ps 2 s t with
  | none => exact absurd r2 (fr_none e p (all i p s t ep es).1)
  | some w =>
    refine ⟨_, ⟨i, w, s, t, li, es, e, rfl⟩, lx_of_le (by rw [set_len lb, b.1, stp_len l1, lg]) fun j x y ex ey => ?_⟩
    rw [set_at lb] at ex
    have lj : j < (stp ss).length := by
      have := (List.getElem?_eq_some_iff.mp ey).1
      rw [stp_len l1]
      omega
    have ej : (stp ss)[j]? = some (stp ss)[j] := List.getElem?_eq_getElem lj
    generalize (stp ss)[j] = st at ej
    obtain ⟨s', t'⟩ := st
    obtain ⟨ym, yr⟩ := all j y s' t' ey ej
    by_cases z : j = i
    · subst z
      rw [if_pos rfl] at ex
      cases ex
      rw [ey] at ep
      cases ep
      exact fr_least pw e _ ym r2
    · rw [if_neg z] at ex
      obtain ⟨b', e1, e2⟩ := b.2 j s' t' ej
      rw [e1] at ex
      cases ex
      exact fr_least pw e2 _ ym yr
/-- the least of the candidates is the least of all -/
theorem cnd_least {rows : List (List Int)} {ps ss bs g : List Nat} (pw : ps.Pairwise (· < ·)) (l1 : 1 ≤ ss.length) (b : Bas rows ps ss bs) (mn : ∀ c, Cnd rows ps ss bs (stp ss).length c → lx (nI c) (nI g) = false) : ∀ g', Fits rows ps ss g' → lx (nI g') (nI g) = false := fun g' f => by
  obtain ⟨c, hc, le⟩ := f.cnd pw l1 b
  cases d : lx (nI g') (nI g) with
  | false => rfl
  | true =>
    have n := mn c hc
    cases f2 : lx (nI c) (nI g') with
    | false =>
      have e := lx_tri f2 le
      rw [e, d] at n
      cases n
    | true =>
      rw [lx_trans f2 d] at n
      cases n
theorem no_base {rows : List (List Int)} {ps ss : List Nat} {i s t : Nat} (l1 : 1 ≤ ss.length) (es : (stp ss)[i]? = some (s, t)) (e : fr rows ps 1 s t = none) : ∀ g, ¬ Fits rows ps ss g := fun g ⟨lg, all, _⟩ => by
  have li : i < (stp ss).length := (List.getElem?_eq_some_iff.mp es).1
  rw [stp_len l1, ← lg] at li
  obtain ⟨a, r⟩ := all i g[i] s t (List.getElem?_eq_getElem li) es
  exact fr_none e _ a r
/-- a ring of these people -/
def IsRing (rows : List (List Int)) (ps ss g : List Nat) : Prop := ss.Nodup ∧ (∀ s ∈ ss, s < wdt rows) ∧ 1 ≤ ss.length ∧ Fits rows ps ss g
/-- the first of the shortest -/
def FstR (rows : List (List Int)) (ps ss g : List Nat) : Prop := IsRing rows ps ss g ∧ ∀ ss' g', IsRing rows ps ss' g' → ss.length ≤ ss'.length ∧ (ss'.length = ss.length → lx (nI ss') (nI ss) = false ∧ (ss' = ss → lx (nI g') (nI g) = false))
theorem FstR.uniq {rows : List (List Int)} {ps ss g ss' g' : List Nat} (a : FstR rows ps ss g) (b : FstR rows ps ss' g') : ss = ss' ∧ g = g' := by
  obtain ⟨a1, a2⟩ := a
  obtain ⟨b1, b2⟩ := b
  have l1 := (a2 _ _ b1).1
  have l2 := (b2 _ _ a1).1
  obtain ⟨x1, x2⟩ := (a2 _ _ b1).2 (by omega)
  obtain ⟨y1, y2⟩ := (b2 _ _ a1).2 (by omega)
  have e := nI_inj (lx_tri y1 x1)
  subst e
  exact ⟨rfl, nI_inj (lx_tri (y2 rfl) (x2 rfl))⟩
/-- a chain of states to which somebody rises -/
def Chn (rows : List (List Int)) (ps ss : List Nat) : Prop := ss.Nodup ∧ (∀ s ∈ ss, s < wdt rows) ∧ ∀ (i s t : Nat), ss[i]? = some s → ss[i + 1]? = some t → fr rows ps 1 s t ≠ none
theorem stp_in {ss : List Nat} {i s t : Nat} (hs : ss[i]? = some s) (ht : ss[i + 1]? = some t) : (stp ss)[i]? = some (s, t) := by
  unfold stp
  have l := (List.getElem?_eq_some_iff.mp ht).1
  rw [List.getElem?_zip_eq_some]
  refine ⟨hs, ?_⟩
  rw [List.getElem?_append_left (by rw [List.length_drop]; omega), List.getElem?_drop, Nat.add_comm]
  exact ht
theorem IsRing.chn {rows : List (List Int)} {ps ss g : List Nat} (h : IsRing rows ps ss g) : Chn rows ps ss := by
  obtain ⟨nd, lt, l1, lg, all, _⟩ := h
  refine ⟨nd, lt, fun i s t hs ht e => ?_⟩
  have li : i < g.length := by rw [lg]; exact (List.getElem?_eq_some_iff.mp hs).1
  obtain ⟨a, r⟩ := all i g[i] s t (List.getElem?_eq_getElem li) (stp_in hs ht)
  exact fr_none e _ a r
theorem nodup_le : ∀ {n : Nat} {ss : List Nat}, ss.Nodup → (∀ s ∈ ss, s < n) → ss.length ≤ n
  | 0, [], _, _ => Nat.le_refl _
  | 0, s :: _, _, lt => absurd (lt s List.mem_cons_self) (Nat.not_lt_zero s)
  | n + 1, ss, nd, lt => by
    have ih := nodup_le (n := n) (ss := ss.erase n) (nd.erase n) fun s hs => by
      obtain ⟨a, b⟩ := nd.mem_erase_iff.mp hs
      have := lt s b
      omega
    have le : ss.length ≤ (ss.erase n).length + 1 := by
      rw [List.length_erase]
      split <;> omega
    omega
end Pl
namespace Pl
open PySem PySem.Spec PyProof.Rows L2
theorem alloc {H H' : Hp} {p : Addr} {o : HO} (e : L2.upd H p o = H') (n : H p = none) : Same H H' ∧ H' p = some o := by
  subst e
  exact ⟨same_new (Same.refl H) n, upd_same⟩
theorem fr_at {rows : List (List Int)} {l : Int} {s t : Nat} : ∀ {ps : List Nat} {i p : Nat}, ps[i]? = some p → l ≤ rs rows p s t → (∀ (j q : Nat), j < i → ps[j]? = some q → ¬ l ≤ rs rows q s t) → fr rows ps l s t = some p
  | [], _, _, h, _, _ => by cases h
  | x :: ps, 0, p, h, c, _ => by
    cases h
    unfold fr
    rw [List.find?_cons, decide_eq_true c]
  | x :: ps, i + 1, p, h, c, no => by
    have n0 := no 0 x (Nat.zero_lt_succ _) rfl
    have ih : fr rows ps l s t = some p := fr_at (i := i) (by simpa using h) c fun j q hj e => no (j + 1) q (by omega) (by simpa using e)
    unfold fr at ih ⊢
    rw [List.find?_cons, decide_eq_false n0]
    exact ih
theorem fr_no {rows : List (List Int)} {l : Int} {s t : Nat} {ps : List Nat} (no : ∀ (j q : Nat), ps[j]? = some q → ¬ l ≤ rs rows q s t) : fr rows ps l s t = none := by
  unfold fr
  rw [List.find?_eq_none]
  intro q hq
  obtain ⟨j, hj⟩ := List.mem_iff_getElem?.mp hq
  have := no j q hj
  simpa using this
def spRiser (CD C : Addr) : Sp := fun vs H Q _ => ∃ (d t : Addr) (ss : List Addr) (rows : List (List Int)) (pl : Addr) (ps : List Nat) (l : Int) (s u : Nat), vs = [.ref d, .ref pl, .int l, .int s, .int u] ∧ DvAt CD C H d t ss rows ∧ H pl = some (.lst (iV ps)) ∧ (∀ p ∈ ps, p < rows.length) ∧ s < wdt rows ∧ u < wdt rows ∧ ∀ H', Same H H' → Q (ov (fr rows ps l s u)) H'
/-- the dict of the first risers -/
def IsR (H : Hp) (D : Addr) (rows : List (List Int)) (ps : List Nat) (l : Int) : Prop := ∃ kvs : List (List Key × V), H D = some (.dT kvs) ∧ ∀ s t : Nat, s < wdt rows → t < wdt rows → valV kvs [.inl (s : Int), .inl (t : Int)] = some (ov (fr rows ps l s t))
theorem IsR.same {H H' : Hp} {D : Addr} {rows : List (List Int)} {ps : List Nat} {l : Int} (h : IsR H D rows ps l) (k : Same H H') : IsR H' D rows ps l := by
  obtain ⟨kvs, e, a⟩ := h
  exact ⟨kvs, k _ _ e, a⟩
theorem IsR.get {H : Hp} {D b : Addr} {rows : List (List Int)} {ps : List Nat} {l : Int} (h : IsR H D rows ps l) {s t : Nat} (ls : s < wdt rows) (lt : t < wdt rows) (eb : H b = some (.tup [.int (s : Nat), .int (t : Nat)])) : DGet H D (.ref b) (some (ov (fr rows ps l s t))) := by
  obtain ⟨kvs, e, a⟩ := h
  rw [← a s t ls lt]
  exact DGet.t (k := [.inl (s : Int), .inl (t : Int)]) e eb
def spRisers (CD C : Addr) : Sp := fun vs H Q _ => ∃ (d t : Addr) (ss : List Addr) (rows : List (List Int)) (pl : Addr) (ps : List Nat) (l : Int), vs = [.ref d, .ref pl, .int l] ∧ DvAt CD C H d t ss rows ∧ H pl = some (.lst (iV ps)) ∧ (∀ p ∈ ps, p < rows.length) ∧ ∀ (D : Addr) (H' : Hp), Same H H' → IsR H' D rows ps l → Q (.ref D) H'
def RsD (rows : List (List Int)) (ps : List Nat) (l : Int) (D : Addr) (H0 : Hp) (i j : Nat) (H : Hp) : Prop := Same H0 H ∧ ∃ kvs : List (List Key × V), H D = some (.dT kvs) ∧ kvs.length ≤ 6 * i + j ∧ ∀ s t : Nat, s < wdt rows → t < wdt rows → (s < i ∨ (s = i ∧ t < j)) → valV kvs [.inl (s : Int), .inl (t : Int)] = some (ov (fr rows ps l s t))
section
variable {P : Program} {w : World} {K : PySem.W.Frag} {mg : Str → Option Value} {base : Heap} {CShare CDivision CNoPerson : Addr}
abbrev st_first_riser : Stmt := top 48
theorem sc_first_riser : FnScope ["division", "people", "least", "state", "second", "person"] ["division", "people", "least", "state", "second"] (defScope st_first_riser) := ⟨rfl, rfl, rfl, by decide +kernel, rfl, by decide +kernel, by decide +kernel⟩
theorem ok_riser (c_rise : Cal P w K mg base 5 "rise" ["division", "person", "state", "second"] (spRise CDivision CShare)) (D : Df K mg "first_riser" st_first_riser ["division", "people", "least", "state", "second"]) : Cal P w K mg base 6 "first_riser" ["division", "people", "least", "state", "second"] (spRiser CDivision CShare) := by
  refine D.cal sc_first_riser (fun vs H Q E h => ?_) (fun f cdv A out s H vs Q E hr h => ?_)
  · obtain ⟨d, t, ss, rows, pl, ps, l, s, u, rfl, _⟩ := h
    rfl
  obtain ⟨d, t, ss, rows, pl, ps, l, s, u, rfl, dv, hp, lp, ls, lu, k⟩ := h
  refine ⟨_, (pss_cons (ps_for PassesOwn.never rfl (pi_list (pv 1)) (pg_name (i := 5) sc_first_riser.nd rfl (.inl rfl))
   (pss_one (ps_if (pt_cmpR op_ge (pe_fn c_rise (hr.mono (by decide)) (pa_cons (pv 0) (pa_cons (pv 5) (pa_cons (pv 3) (pa_cons (pv 4) pa_nil))))) (pv 2) (nomark _)) (pss_one (ps_ret (pv 5))) pss_nil)))
   (pss_one (ps_ret pe_non))), ?_⟩
  have rw_ := dv.2.2.2
  refine ⟨_, rfl, pl, rfl, ⟨_, SqL.of hp⟩, for_list (K := K) (a := pl) (xs := iV ps) (fun i σ H' => ∃ v5 : Option V, σ = [some (.ref d), some (.ref pl), some (.int l), some (.int (s : Nat)), some (.int (u : Nat)), v5] ∧ H' = H ∧ ∀ (j q : Nat), j < i → ps[j]? = some q → ¬ l ≤ rs rows q s u) ⟨none, rfl, rfl, fun j q hj => absurd hj (Nat.not_lt_zero j)⟩ (fun i σ H' _ ⟨_, _, e, _⟩ => by rw [e]; exact SqL.of hp) ?_ ?_⟩
  · rintro i x σ H1 hx ⟨v5, rfl, rfl, no⟩
    obtain ⟨p, rfl, ep⟩ := iV_at hx
    refine ⟨_, rfl, _, rfl, _, rfl, _, rfl, d, t, ss, rows, p, s, u, rfl, dv, lp p (List.mem_of_getElem? ep), fun ns hn => by rw [rw_.wdt hn]; exact ⟨ls, lu⟩, ?_⟩
    refine ⟨_, rfl, _, _, rfl, rfl, _, rfl, ?_⟩
    refine ite2 (fun c => ?_) (fun c => ?_)
    · have c1 : l ≤ rs rows p s u := of_decide_eq_true c
      have e := fr_at ep c1 no
      rw [e] at k
      exact ⟨_, rfl, k _ (Same.refl _)⟩
    · have c1 : ¬ l ≤ rs rows p s u := fun z => c (decide_eq_true z)
      refine ⟨_, rfl, rfl, fun j q hj e => ?_⟩
      by_cases z : j < i
      · exact no j q z e
      · have : j = i := by omega
        subst this
        rw [ep] at e
        cases e
        exact c1
  · rintro σ H1 ⟨v5, rfl, rfl, no⟩
    have e : fr rows ps l s u = none := fr_no fun j q e => no j q (by rw [iV_len]; exact (List.getElem?_eq_some_iff.mp e).1) e
    rw [e] at k
    exact k _ (Same.refl _)
abbrev st_first_risers : Stmt := top 47
theorem sc_first_risers : FnScope ["division", "people", "least", "states", "state", "second"] ["division", "people", "least"] (defScope st_first_risers) := ⟨rfl, rfl, rfl, by decide +kernel, rfl, by decide +kernel, by decide +kernel⟩
theorem ok_risers (B : Bn mg) (SDivision : DvK K mg CDivision) (p_states : PCal P w K mg base 4 CDivision "states" ["self"] (spStates CDivision CShare)) (c_first_riser : Cal P w K mg base 6 "first_riser" ["division", "people", "least", "state", "second"] (spRiser CDivision CShare)) (D : Df K mg "first_risers" st_first_risers ["division", "people", "least"]) : Cal P w K mg base 7 "first_risers" ["division", "people", "least"] (spRisers CDivision CShare) := by
  refine D.cal sc_first_risers (fun vs H Q E h => ?_) (fun f cdv A out s H vs Q E hr h => ?_)
  · obtain ⟨d, t, ss, rows, pl, ps, l, rfl, _⟩ := h
    rfl
  obtain ⟨d, t, ss, rows, pl, ps, l, rfl, dv, hp, lp, k⟩ := h
  refine ⟨_, (pss_cons (ps_set (i := 3) sc_first_risers.nd rfl (.inr rfl) (pe_listRg rfl (by rfl) B.n_list (prg_1 (by rfl) B.n_range (pe_pr p_states SDivision.cl (hr.mono (by decide)) (pv 0)))))
   (pss_one (ps_ret (pe_dcN (own := [("state", 4), ("second", 5)]) (g := gName 4) rfl (un1 hr) sc_first_risers.nd (pi_list (pv 3)) (blkOk_by (N := ["division", "people", "least", "states", "state", "second"]) (sc := defScope st_first_risers) (by decide +kernel)) (by decide) (fun _ _ _ _ _ => ⟨(pg_name (i := 4) sc_first_risers.nd rfl (.inl rfl)), pts_nil, (PInsD.cons (us := [5]) (pi_listK (K := K) (pv 3)) (pg_name (i := 5) sc_first_risers.nd rfl (.inl rfl)) pts_nil (by decide) (by intro _ _; rfl) (.nil (pe_tup (pa_cons (pv 4) (pa_cons (pv 5) pa_nil))) (pe_fn c_first_riser (hr.mono (by decide)) (pa_cons (pv 0) (pa_cons (pv 1) (pa_cons (pv 2) (pa_cons (pv 4) (pa_cons (pv 5) pa_nil))))))))⟩))))), ?_⟩
  obtain ⟨⟨dx, hd⟩, ht, al, rw_⟩ := id dv
  obtain ⟨w2, w6⟩ := rw_.w26
  refine ⟨_, rfl, d, dx, _, rfl, hd, d, t, ss, rows, rfl, dv, fun ns0 hn0 => ?_⟩
  rw [rw_.wdt hn0]
  refine ⟨_, rfl, RgOk.of_le (by omega) (by omega) (by omega) (by omega), fun S hS => ?_⟩
  generalize hH1 : upd H S _ = H1
  have k1 : Same H H1 := by rw [← hH1]; exact same_new (Same.refl H) hS
  have e1 : H1 S = some (.lst (rgV 0 (wdt rows : Int))) := by rw [← hH1, upd_same]
  clear hH1
  have dv1 := dv.same k1
  have hp1 := k1 _ _ hp
  have rl : (rgV 0 (wdt rows : Int)).length = wdt rows := by rw [rgV_length]; omega
  have rg : ∀ {i : Nat} {x : V}, (rgV 0 (wdt rows : Int))[i]? = some x → i < wdt rows ∧ x = .int (i : Nat) := fun {i x} e => by
    have lt : i < wdt rows := by rw [← rl]; exact (List.getElem?_eq_some_iff.mp e).1
    refine ⟨lt, ?_⟩
    unfold rgV at e
    rw [List.getElem?_map, List.getElem?_range (by omega)] at e
    have z := Option.some.inj e
    rw [← z]
    simp
  refine ⟨_, rfl, S, rfl, ⟨_, SqL.of e1⟩, fun D hD => ?_⟩
  refine lcW (fun i H' => RsD rows ps l D H1 i 0 H') ⟨same_new (Same.refl _) hD, [], upd_same, Nat.le_refl _, fun s t _ _ z => by omega⟩ (fun i H' _ r => SqL.of (r.1 _ _ e1)) (fun i x H3 hx r3 => ?_) (fun H3 r3 => ?_)
  · obtain ⟨li, rfl⟩ := rg hx
    refine ⟨rfl, tyes (tcl (σ' := [some (.ref d), some (.ref pl), some (.int l), some (.ref S), some (.int (i : Nat)), none]) rfl ?_)⟩
    refine ⟨_, rfl, S, rfl, ⟨_, SqL.of (r3.1 _ _ e1)⟩, ?_⟩
    refine lcW (fun j H' => RsD rows ps l D H1 i j H') r3 (fun j H' _ r => SqL.of (r.1 _ _ e1)) (fun j x H4 hx r4 => ?_) (fun H4 r4 => ?_)
    · obtain ⟨lj, rfl⟩ := rg hx
      obtain ⟨k4, kvs, hk, lk, ok⟩ := r4
      refine ⟨rfl, tyes ?_⟩
      refine ⟨_, rfl, _, rfl, (by show 2 ≤ sizeLine; decide), fun q hq => ?_⟩
      generalize hH5 : upd H4 q _ = H5
      obtain ⟨k5, e5⟩ := alloc hH5 hq
      clear hH5
      have kk := k4.trans k5
      refine ⟨_, rfl, _, rfl, _, rfl, _, rfl, _, rfl, d, t, ss, rows, pl, ps, l, i, j, rfl, dv1.same kk, kk _ _ hp1, lp, li, lj, fun H6 k6 => ?_⟩
      have k46 := k5.trans k6
      refine ⟨kvs, [.inl (i : Int), .inl (j : Int)], q, rfl, k6 _ _ e5, k46 _ _ hk, size_lt' (by omega), same_put (k4.trans k46) hD, _, upd_same, ?_, fun s u hs hu z => ?_⟩
      · have := length_putK kvs [.inl (i : Int), .inl (j : Int)] (ov (fr rows ps l i j))
        omega
      · rw [valV_put]
        by_cases c : s = i ∧ u = j
        · obtain ⟨rfl, rfl⟩ := c
          rw [if_pos rfl]
        · rw [if_neg (fun e => c (by
            have z : (s : Int) = i ∧ (u : Int) = j := by simpa using e
            omega))]
          exact ok s u hs hu (by omega)
    · rw [rl] at r4
      obtain ⟨k4, kvs, hk, lk, ok⟩ := r4
      exact ⟨k4, kvs, hk, by omega, fun s u hs hu z => ok s u hs hu (by omega)⟩
  · rw [rl] at r3
    obtain ⟨k3, kvs, hk, lk, ok⟩ := r3
    exact k D H3 (k1.trans k3) ⟨kvs, hk, fun s u hs hu => ok s u hs hu (.inl hs)⟩
end
end Pl
namespace Pl
open PySem PySem.Spec PyProof.Rows L2
theorem cut_drop {xs : List V} {n : Nat} (h : n ≤ xs.length) : cutV xs (some (n : Int)) none = xs.drop n := by
  unfold cutV
  rw [HT.sIx_none, HT.sIx_nat, Nat.min_eq_left h, List.take_of_length_le (by rw [List.length_drop]; exact Nat.le_refl _)]
theorem slT {K : PySem.W.Frag} {a : Addr} {xs : List V} {lo hi : Option Int} {H : Hp} {Q : VK} (h : H a = some (.tup xs)) (k : ∀ p H', Same H H' → H' p = some (.tup (cutV xs lo hi)) → Q (.ref p) H') : rSlA K (.ref a) lo hi H Q := by
  refine ⟨a, xs, rfl, SqT.of h, fun w => k a H (Same.refl H) ?_, fun _ p np => k p _ (same_new (Same.refl H) np) upd_same⟩
  rw [h]
  unfold cutV
  rw [w.1, w.2, List.drop_zero, Nat.sub_zero, List.take_length]
theorem caT {K : PySem.W.Frag} {a b : Addr} {xs ys : List V} {H : Hp} {Q : VK} (h1 : H a = some (.tup xs)) (h2 : H b = some (.tup ys)) (l : xs.length + ys.length ≤ 1000) (k : ∀ p H', Same H H' → H' p = some (.tup (xs ++ ys)) → Q (.ref p) H') : rCatA K (.ref a) (.ref b) H Q := by
  refine ⟨a, b, xs, ys, rfl, rfl, SqT.of h1, SqT.of h2, Nat.le_of_lt (size_lt' (by omega)), fun z => k b H (Same.refl H) (by rw [z]; exact h2), fun _ z => k a H (Same.refl H) (by rw [z, List.append_nil]; exact h1), fun _ _ p np => k p _ (same_new (Same.refl H) np) upd_same⟩
/-- steps in the heap -/
inductive StL (H : Hp) : List V → List (Nat × Nat) → Prop
  | nil : StL H [] []
  | cons {q : Addr} {s t : Nat} {ws : List V} {st : List (Nat × Nat)} : H q = some (.tup [.int (s : Nat), .int (t : Nat)]) → StL H ws st → StL H (.ref q :: ws) ((s, t) :: st)
theorem StL.of {H : Hp} : ∀ {a b : List Nat} {ws : List V}, PrA H ws (iV a) (iV b) → StL H ws (a.zip b)
  | [], [], _, h => by
    cases h
    exact .nil
  | [], _ :: _, _, h => by cases h
  | _ :: _, [], _, h => by cases h
  | x :: a, y :: b, _, h => by
    cases h with
    | cons e r => exact .cons e (StL.of (a := a) (b := b) r)
theorem StL.same {H H' : Hp} (k : Same H H') : ∀ {ws : List V} {st : List (Nat × Nat)}, StL H ws st → StL H' ws st
  | _, _, .nil => .nil
  | _, _, .cons e r => .cons (k _ _ e) (r.same k)
theorem StL.len {H : Hp} : ∀ {ws : List V} {st : List (Nat × Nat)}, StL H ws st → ws.length = st.length
  | _, _, .nil => rfl
  | _, _, .cons e r => by rw [List.length_cons, List.length_cons, r.len]
theorem StL.at {H : Hp} : ∀ {ws : List V} {st : List (Nat × Nat)} {i : Nat} {x : V}, StL H ws st → ws[i]? = some x → ∃ (q : Addr) (s t : Nat), x = .ref q ∧ H q = some (.tup [.int (s : Nat), .int (t : Nat)]) ∧ st[i]? = some (s, t)
  | _, _, _, _, .nil, e => by cases e
  | _, _, 0, _, .cons h r, e => by
    cases e
    exact ⟨_, _, _, rfl, h, rfl⟩
  | _, _, i + 1, _, .cons h r, e => r.at (i := i) (by simpa using e)
def spSteps : Sp := fun vs H Q _ => ∃ (q : Addr) (ss : List Nat), vs = [.ref q] ∧ H q = some (.tup (iV ss)) ∧ 1 ≤ ss.length ∧ ss.length ≤ 100 ∧ ∀ (L : Addr) (ws : List V) (H' : Hp), Same H H' → H' L = some (.lst ws) → StL H' ws (stp ss) → Q (.ref L) H'
def spPeopleF : Sp := fun vs H Q _ => ∃ (q R S : Addr) (rows : List (List Int)) (ps ss : List Nat), vs = [.ref q, .ref R, .ref S] ∧ H q = some (.tup (iV ss)) ∧ 1 ≤ ss.length ∧ ss.length ≤ 100 ∧ (∀ s ∈ ss, s < wdt rows) ∧ ps.Pairwise (· < ·) ∧ IsR H R rows ps 1 ∧ IsR H S rows ps 2 ∧
  (∀ H', Same H H' → (∀ g, ¬ Fits rows ps ss g) → Q .non H') ∧ (∀ (r : Addr) (g : List Nat) (H' : Hp), Same H H' → H' r = some (.tup (iV g)) → Fits rows ps ss g → (∀ g', Fits rows ps ss g' → lx (nI g') (nI g) = false) → Q (.ref r) H')
theorem inNon : ∀ {os : List (Option Nat)}, inV .non (os.map ov) = true ↔ none ∈ os
  | [] => by simp [inV]
  | none :: os => by simp [inV, ov, eqV]
  | some p :: os => by
    have ih := inNon (os := os)
    unfold inV at ih ⊢
    rw [List.map_cons, List.any_cons]
    show (eqV (V.int p) .non || _) = true ↔ _
    rw [show eqV (V.int p) .non = false from rfl, Bool.false_or, ih]
    simp
theorem flatOv : ∀ os : List (Option Nat), (os.map ov).all flatV = true
  | [] => rfl
  | none :: os => by
    rw [List.map_cons, List.all_cons, flatOv os]
    rfl
  | some p :: os => by
    rw [List.map_cons, List.all_cons, flatOv os]
    rfl
theorem somes : ∀ {os : List (Option Nat)}, none ∉ os → ∃ bs : List Nat, os = bs.map some
  | [], _ => ⟨[], rfl⟩
  | none :: os, h => absurd List.mem_cons_self h
  | some p :: os, h => by
    obtain ⟨bs, e⟩ := somes (os := os) fun z => h (List.mem_cons_of_mem _ z)
    exact ⟨p :: bs, by rw [e]; rfl⟩
/-- tuples of numbers in the heap -/
inductive RwN (H : Hp) : List V → List (List Nat) → Prop
  | nil : RwN H [] []
  | cons {q : Addr} {g : List Nat} {vs : List V} {gs : List (List Nat)} : H q = some (.tup (iV g)) → RwN H vs gs → RwN H (.ref q :: vs) (g :: gs)
theorem RwN.same {H H' : Hp} (k : Same H H') : ∀ {vs : List V} {gs : List (List Nat)}, RwN H vs gs → RwN H' vs gs
  | _, _, .nil => .nil
  | _, _, .cons h r => .cons (k _ _ h) (r.same k)
theorem RwN.put {H : Hp} {l : Addr} {ys : List V} {o : HO} (hl : H l = some (.lst ys)) : ∀ {vs : List V} {gs : List (List Nat)}, RwN H vs gs → RwN (L2.upd H l o) vs gs
  | _, _, .nil => .nil
  | _, _, .cons h r => .cons (by rw [upd_ne (ne_of h hl (by intro z; cases z))]; exact h) (r.put hl)
theorem RwN.len {H : Hp} : ∀ {vs : List V} {gs : List (List Nat)}, RwN H vs gs → vs.length = gs.length
  | _, _, .nil => rfl
  | _, _, .cons _ r => by rw [List.length_cons, List.length_cons, r.len]
theorem RwN.app {H : Hp} {ws : List V} {hs : List (List Nat)} (h2 : RwN H ws hs) : ∀ {vs : List V} {gs : List (List Nat)}, RwN H vs gs → RwN H (vs ++ ws) (gs ++ hs)
  | _, _, .nil => h2
  | _, _, .cons h r => .cons h (RwN.app h2 r)
theorem RwN.snoc {H : Hp} {q : Addr} {g : List Nat} {vs : List V} {gs : List (List Nat)} (r : RwN H vs gs) (h : H q = some (.tup (iV g))) : RwN H (vs ++ [.ref q]) (gs ++ [g]) := RwN.app (.cons h .nil) r
theorem RwN.at {H : Hp} : ∀ {vs : List V} {gs : List (List Nat)} {i : Nat} {x : V}, RwN H vs gs → vs[i]? = some x → ∃ (q : Addr) (g : List Nat), x = .ref q ∧ H q = some (.tup (iV g)) ∧ gs[i]? = some g
  | _, _, _, _, .nil, e => by cases e
  | _, _, 0, _, .cons h r, e => by
    cases e
    exact ⟨_, _, rfl, h, rfl⟩
  | _, _, i + 1, _, .cons h r, e => r.at (i := i) (by simpa using e)
theorem RwN.dp {K : PySem.W.Frag} {H : Hp} : ∀ {vs : List V} {gs : List (List Nat)}, RwN H vs gs → DpAll K H vs ((gs.map nI).map tpD)
  | _, _, .nil => .nil
  | _, _, .cons (g := g) h r => by
    rw [iV_eq] at h
    exact .cons (.tup (SqT.of h) (dpInts _ _ _)) r.dp
section
variable {P : Program} {w : World} {K : PySem.W.Frag} {mg : Str → Option Value} {base : Heap} {CShare CDivision CNoPerson : Addr}
abbrev st_steps_around : Stmt := top 45
theorem sc_steps_around : FnScope ["states"] ["states"] (defScope st_steps_around) := ⟨rfl, rfl, rfl, by decide +kernel, rfl, by decide +kernel, by decide +kernel⟩
theorem ok_steps (B : Bn mg) (D : Df K mg "steps_around" st_steps_around ["states"]) : Cal P w K mg base 1 "steps_around" ["states"] spSteps := by
  refine D.cal sc_steps_around (fun vs H Q E h => ?_) (fun f cdv A out s H vs Q E hr h => ?_)
  · obtain ⟨q, ss, rfl, _⟩ := h
    rfl
  obtain ⟨q, ss, rfl, hq, l1, l100, k⟩ := h
  refine ⟨_, (pss_one (ps_ret (pe_listZip rfl (by rfl) B.n_list (by rfl) B.n_zip (pa_cons (pv 0) (pa_cons (pe_op op_catA (pe_slice sl_tupA (pv 0) (po_some pe_int) po_none) (pe_slice sl_tupA (pv 0) po_none (po_some pe_int))) pa_nil))))), ?_⟩
  have li := iV_len ss
  have c1t : cutV (iV ss) none (some (1 : Int)) = iV (ss.take 1) := by
    rw [show cutV (iV ss) none (some (1 : Int)) = (iV ss).take 1 from cut_take (n := 1) (by omega)]
    unfold iV
    rw [List.map_take]
  have c1d : cutV (iV ss) (some (1 : Int)) none = iV (ss.drop 1) := by
    rw [show cutV (iV ss) (some (1 : Int)) none = (iV ss).drop 1 from cut_drop (n := 1) (by omega)]
    unfold iV
    rw [List.map_drop]
  refine ⟨_, rfl, _, rfl, _, rfl, ?_⟩
  try unfold tNoPart
  refine slT (K := K) (lo := some (1 : Int)) (hi := none) hq fun p1 H1 k1 e1 => ?_
  rw [c1d] at e1
  refine ⟨_, rfl, _, rfl, slT (K := K) (lo := none) (hi := some (1 : Int)) (k1 _ _ hq) fun p2 H2 k2 e2 => ?_⟩
  rw [c1t] at e2
  refine caT (k2 _ _ e1) e2 (by rw [iV_len, iV_len, List.length_drop, List.length_take]; omega) fun p3 H3 k3 e3 => ?_
  have e3 : H3 p3 = some (.tup (iV (ss.drop 1 ++ ss.take 1))) := by
    rw [e3]
    unfold iV
    rw [List.map_append]
  have kk := k1.trans (k2.trans k3)
  refine ⟨q, p3, _, _, rfl, SqT.of (kk _ _ hq), SqT.of e3, by rw [iV_len, iV_len, List.length_append, List.length_drop, List.length_take]; omega, fun L ws H4 k4 _ hL pr => ?_⟩
  exact k L ws H4 (kk.trans k4) hL (StL.of pr)
abbrev st_first_people : Stmt := top 50
theorem sc_first_people : FnScope ["states", "risers", "steep", "steps", "people", "found", "step", "at"] ["states", "risers", "steep"] (defScope st_first_people) := ⟨rfl, rfl, rfl, by decide +kernel, rfl, by decide +kernel, by decide +kernel⟩
theorem ok_people1 (B : Bn mg) (n_enumerate : mg "enumerate" = none) (c_steps_around : Cal P w K mg base 1 "steps_around" ["states"] spSteps) (D : Df K mg "first_people" st_first_people ["states", "risers", "steep"]) : Cal P w K mg base 2 "first_people" ["states", "risers", "steep"] spPeopleF := by
  refine D.cal sc_first_people (fun vs H Q E h => ?_) (fun f cdv A out s H vs Q E hr h => ?_)
  · obtain ⟨q, R, S, rows, ps, ss, rfl, _⟩ := h
    rfl
  obtain ⟨q, R, S, rows, ps, ss, rfl, hq, l1, l100, lt, pw, hR, hS, kN, kY⟩ := h
  refine ⟨_, (pss_cons (ps_set (i := 3) sc_first_people.nd rfl (.inl rfl) (pe_fn c_steps_around (hr.mono (by decide)) (pa_cons (pv 0) pa_nil)))
   (pss_cons (ps_set (i := 4) sc_first_people.nd rfl (.inr rfl) (pe_lc (own := [("step", 6)]) (g := gName 6) rfl sc_first_people.nd (pi_list (pv 3)) (blkOk_by (N := ["states", "risers", "steep", "steps", "people", "found", "step", "at"]) (sc := defScope st_first_people) (by decide +kernel)) (fun _ _ _ _ _ => (pg_name (i := 6) sc_first_people.nd rfl (.inl rfl))) (fun _ _ _ _ _ => pts_nil) (fun _ _ _ _ _ => (pe_dget (un1 hr) (pv 1) (pv 6) (fun _ _ => rfl)))))
   (pss_cons (ps_if (pt_cmpR op_in_seq pe_non (pv 4) (by rfl)) (pss_one (ps_ret pe_non)) pss_nil)
   (pss_cons (ps_setLc (i := 5) (own := [("at", 7), ("step", 6)]) (g := gTup K 2 (gCons (gName 7) (gCons (gName 6) gNil))) rfl sc_first_people.nd rfl rfl (sw_true rfl rfl rfl (by decide +kernel)) (pi_enum (by rfl) n_enumerate (pa_cons (pv 3) pa_nil)) (blkOk_by (N := ["states", "risers", "steep", "steps", "people", "found", "step", "at"]) (sc := defScope st_first_people) (by decide +kernel)) (fun _ _ _ _ _ => (pg_tup rfl (pgs_cons (pg_name (i := 7) sc_first_people.nd rfl (.inl rfl)) (pgs_cons (pg_name (i := 6) sc_first_people.nd rfl (.inl rfl)) pgs_nil)))) (fun _ _ _ _ _ => (pts_one (pt_cmpR op_notN (pe_dget (un1 hr) (pv 2) (pv 6) (fun _ _ => rfl)) pe_non (nomark _)))) (fun _ _ _ _ _ => (pe_callTy (show CallR _ (.type "tuple") (rTupleOf K) from call_tuple_of) (by rfl) B.n_tuple (by decide +kernel) (pa_cons (pe_op op_cat (pe_op op_cat (pe_slice (show SlR _ (rSlL K) from sl_list) (pv 4) po_none (po_some (pv 7))) (pe_lst (pa_cons (pe_dget (un1 hr) (pv 2) (pv 6) (fun _ _ => rfl)) pa_nil))) (pe_slice (show SlR _ (rSlL K) from sl_list) (pv 4) (po_some (pe_op op_add (pv 7) pe_int)) po_none)) pa_nil))))
   (pss_one (ps_ret (pe_callBK (cr_minDef rfl hr.units) (by rfl) B.n_min (by decide +kernel) (pa_cons (pv 5) pa_nil) (pk_cons pe_non pk_nil)))))))), ?_⟩
  have ls := stp_len l1
  refine ⟨_, rfl, q, ss, rfl, hq, l1, l100, fun L ws H1 k1 hL st => ?_⟩
  have lw := st.len
  have stl : ∀ {i s t : Nat}, (stp ss)[i]? = some (s, t) → s < wdt rows ∧ t < wdt rows := fun e => ⟨lt _ (stp_mem e).1, lt _ (stp_mem e).2⟩
  refine ⟨_, rfl, L, rfl, ⟨_, SqL.of hL⟩, fun D hD => lc_list (K := K) (a := L) (xs := ws) (fun i H' => Same H1 H' ∧ H' D = some (.lst ((((stp ss).take i).map fun e => fr rows ps 1 e.1 e.2).map ov))) ⟨same_new (Same.refl _) hD, upd_same⟩ (fun i H' _ r => SqL.of (r.1 _ _ hL)) (fun i x H2 hx ⟨k2, h2⟩ => ⟨rfl, tyes ?_⟩) (fun H2 q2 => ?_)⟩
  · obtain ⟨u, a, b, rfl, hu, en⟩ := st.at hx
    obtain ⟨la, lb⟩ := stl en
    have li : i < (stp ss).length := (List.getElem?_eq_some_iff.mp en).1
    refine ⟨_, rfl, _, rfl, R, _, rfl, (hR.same (k1.trans k2)).get la lb (k2 _ _ hu), _, h2, size_lt' (by rw [List.length_map, List.length_map, List.length_take]; omega), same_put k2 hD, ?_⟩
    rw [upd_same, List.take_add_one, en, List.map_append, List.map_append]
    rfl
  obtain ⟨k2, h2⟩ := q2
  rw [lw, List.take_length] at h2
  have k12 := k1.trans k2
  generalize hos : ((stp ss).map fun e => fr rows ps 1 e.1 e.2) = os at h2
  refine ⟨_, rfl, D, _, rfl, .inl (SqL.of h2), rfl, flatOv os, _, rfl, ?_⟩
  refine ite2 (fun c => ?_) (fun c => ?_)
  · have m := inNon.mp (by simpa using c)
    rw [← hos] at m
    obtain ⟨e, he, en⟩ := List.mem_map.mp m
    obtain ⟨j, hj⟩ := List.mem_iff_getElem?.mp he
    exact kN H2 k12 (no_base l1 (s := e.1) (t := e.2) hj en)
  have nn : none ∉ os := fun z => c (by simpa using inNon.mpr z)
  obtain ⟨bs, eb⟩ := somes nn
  have bas : Bas rows ps ss bs := by
    have lb : bs.length = (stp ss).length := by
      have := congrArg List.length (hos.trans eb)
      simpa using this.symm
    refine ⟨lb, fun i s t e => ?_⟩
    have li : i < bs.length := by rw [lb]; exact (List.getElem?_eq_some_iff.mp e).1
    refine ⟨bs[i], List.getElem?_eq_getElem li, ?_⟩
    have z := congrArg (fun l => l[i]?) (hos.trans eb)
    simp only [List.getElem?_map] at z
    rw [e, List.getElem?_eq_getElem li] at z
    exact Option.some.inj z
  have lb : bs.length = ss.length := by rw [bas.1, ls]
  have h2 : H2 D = some (.lst (iV bs)) := by
    rw [h2, eb, List.map_map]
    rfl
  have hL2 := k2 _ _ hL
  have st2 := st.same k2
  refine ⟨_, rfl, L, _, rfl, SqL.of hL2, fun D2 hD2 => lc_it (walk_enum (K := K) (a := L) (xs := ws)) (fun i H' => Same H2 H' ∧ ∃ (vs : List V) (gs : List (List Nat)), H' D2 = some (.lst vs) ∧ RwN H' vs gs ∧ gs.length ≤ i ∧ ∀ g, g ∈ gs ↔ Cnd rows ps ss bs i g) ⟨same_new (Same.refl _) hD2, [], [], upd_same, .nil, Nat.le_refl _, fun g => ⟨fun z => (nomatch z), fun ⟨i, w, s, t, z, _⟩ => absurd z (Nat.not_lt_zero i)⟩⟩ (fun i H' _ r => SqL.of (r.1 _ _ hL2)) ?_ (fun H3 q3 => ?_)⟩
  · rintro i x H3 H4 hi ⟨k3, vs, gs, h3, rn, lg, mem⟩ ⟨T, x', y', rfl, nT, rfl, ex, ey⟩
    have e1 : x' = .int (i : Nat) := (Option.some.inj ex).symm
    subst e1
    have ey : ws[i]? = some y' := ey
    obtain ⟨u, a, b, rfl, hu, en⟩ := st2.at ey
    obtain ⟨la, lb'⟩ := stl en
    generalize hH4 : upd H3 T _ = H4
    obtain ⟨k4, hT⟩ := alloc hH4 nT
    clear hH4
    have k34 := k3.trans k4
    have hS4 := (hS.same k12).same k34
    have hu4 := k34 _ _ hu
    refine ⟨T, _, rfl, SqT.of hT, rfl, _, _, rfl, _, _, rfl, rfl, rfl, ?_⟩
    refine ⟨_, rfl, _, rfl, S, _, rfl, hS4.get la lb' hu4, rfl, _, rfl, ?_⟩
    cases e2 : fr rows ps 2 a b with
    | none =>
      refine iteF ⟨k34, vs, gs, k4 _ _ h3, rn.same k4, by omega, fun g => (mem g).trans ⟨fun ⟨j, w, s, t, lj, z⟩ => ⟨j, w, s, t, by omega, z⟩, fun ⟨j, w, s, t, lj, es, ew, z⟩ => ⟨j, w, s, t, ?_, es, ew, z⟩⟩⟩
      by_cases c : j = i
      · subst c
        rw [en] at es
        cases es
        rw [e2] at ew
        cases ew
      · omega
    | some w =>
      refine iteT ?_
      have h4D := k34 _ _ h2
      have ib : i < bs.length := by rw [bas.1]; exact (List.getElem?_eq_some_iff.mp en).1
      refine ⟨_, rfl, _, rfl, _, rfl, D, _, rfl, SqL.of h4D, fun p1 hp1 => ?_⟩
      generalize hH5 : upd H4 p1 _ = H5
      obtain ⟨k5, e5⟩ := alloc hH5 hp1
      clear hH5
      refine ⟨_, rfl, _, rfl, S, _, rfl, (hS4.same k5).get la lb' (k5 _ _ hu4), ?_⟩
      rw [e2]
      refine ⟨(by show 1 ≤ sizeLine; decide), fun p2 hp2 => ?_⟩
      generalize hH6 : upd H5 p2 _ = H6
      obtain ⟨k6, e6⟩ := alloc hH6 hp2
      clear hH6
      have c1 : cutV (iV bs) none (some (i : Int)) = iV (bs.take i) := by
        rw [show cutV (iV bs) none (some (i : Int)) = (iV bs).take i from cut_take (by rw [iV_len]; omega)]
        unfold iV
        rw [List.map_take]
      have c2 : cutV (iV bs) (some ((i : Int) + 1)) none = iV (bs.drop (i + 1)) := by
        rw [show ((i : Int) + 1) = ((i + 1 : Nat) : Int) by omega, cut_drop (by rw [iV_len]; omega)]
        unfold iV
        rw [List.map_drop]
      rw [c1] at e5
      refine ⟨p1, p2, _, _, rfl, rfl, k6 _ _ e5, e6, Nat.le_of_lt (size_lt' (by rw [iV_len, List.length_take]; show _ + 1 ≤ _; omega)), fun p3 hp3 => ?_⟩
      generalize hH7 : upd H6 p3 _ = H7
      obtain ⟨k7, e7⟩ := alloc hH7 hp3
      clear hH7
      have k57 := k5.trans (k6.trans k7)
      refine ⟨_, rfl, _, rfl, _, _, rfl, rfl, _, rfl, ?_⟩
      try unfold tNoPart
      refine ⟨D, _, rfl, SqL.of (k57 _ _ h4D), fun p4 hp4 => ?_⟩
      generalize hH8 : upd H7 p4 _ = H8
      obtain ⟨k8, e8⟩ := alloc hH8 hp4
      clear hH8
      rw [c2] at e8
      refine ⟨p3, p4, _, _, rfl, rfl, k8 _ _ e7, e8, Nat.le_of_lt (size_lt' (by rw [List.length_append, iV_len, iV_len, List.length_take, List.length_drop]; show _ + 1 + _ ≤ _; omega)), fun p5 hp5 => ?_⟩
      generalize hH9 : upd H8 p5 _ = H9
      obtain ⟨k9, e9⟩ := alloc hH9 hp5
      clear hH9
      refine ⟨p5, _, rfl, .inl ⟨SqL.of e9, fun p6 hp6 => ?_⟩⟩
      generalize hH10 : upd H9 p6 _ = H10
      obtain ⟨k10, e10⟩ := alloc hH10 hp6
      clear hH10
      have k410 := k57.trans (k8.trans (k9.trans k10))
      have k310 := k4.trans k410
      have h10 := k310 _ _ h3
      have e10 : H10 p6 = some (.tup (iV (bs.take i ++ [w] ++ bs.drop (i + 1)))) := by
        rw [e10]
        unfold iV
        rw [List.map_append, List.map_append]
        rfl
      have lv := rn.len
      have lwn : ws.length = ss.length := by rw [lw, ls]
      refine ⟨vs, h10, size_lt' (by omega), same_put (k3.trans k310) hD2, vs ++ [.ref p6], gs ++ [bs.take i ++ [w] ++ bs.drop (i + 1)], upd_same, ((rn.same k310).put h10).snoc (by rw [upd_ne (ne_of e10 h10 (by intro z; cases z))]; exact e10), by rw [List.length_append]; show _ + 1 ≤ _; omega, fun g => ?_⟩
      rw [List.mem_append, mem, List.mem_singleton]
      constructor
      · rintro (⟨j, w', s, t, lj, z⟩ | e)
        · exact ⟨j, w', s, t, by omega, z⟩
        · exact ⟨i, w, a, b, by omega, en, e2, e⟩
      · rintro ⟨j, w', s, t, lj, es, ew, z⟩
        by_cases c : j = i
        · subst c
          rw [en] at es
          cases es
          rw [e2] at ew
          cases ew
          exact .inr z
        · exact .inl ⟨j, w', s, t, by omega, es, ew, z⟩
  · obtain ⟨k3, vs, gs, h3, rn, lg, mem⟩ := q3
    rw [lw] at mem
    have k13 := k12.trans k3
    refine ⟨_, rfl, D2, vs, gs.map nI, rfl, rfl, SqL.of h3, rn.dp, fun e => ?_, fun i v g ev eg mn => ?_⟩
    · have e : gs = [] := List.map_eq_nil_iff.mp e
      refine kN H3 k13 fun g f => ?_
      obtain ⟨c, hc, _⟩ := f.cnd pw l1 bas
      have := (mem c).mpr hc
      rw [e] at this
      cases this
    · obtain ⟨u, g', rfl, hu, en⟩ := rn.at ev
      rw [List.getElem?_map, en] at eg
      have e4 : nI g' = g := Option.some.inj eg
      subst e4
      have cg := (mem g').mp (List.mem_of_getElem? en)
      exact kY u g' H3 k13 hu (cg.fits l1 bas) (cnd_least pw l1 bas fun c hc => mn (nI c) (List.mem_map.mpr ⟨c, (mem c).mpr hc, rfl⟩))
end
end Pl
namespace Pl
open PySem PySem.Spec PyProof.Rows L2
theorem lx_app : ∀ {a b : List Int} (x y : List Int), a.length = b.length → lx a b = true → lx (a ++ x) (b ++ y) = true
  | [], [], _, _, _, h => nomatch h
  | [], _ :: _, _, _, h, _ => nomatch h
  | _ :: _, [], _, _, h, _ => nomatch h
  | a :: as, b :: bs, x, y, hl, h => by
    simp only [List.cons_append, lx, Bool.or_eq_true, Bool.and_eq_true, decide_eq_true_eq] at h ⊢
    rcases h with h | ⟨h1, h2⟩
    · exact .inl h
    · exact .inr ⟨h1, lx_app x y (by simpa using hl) h2⟩
theorem lx_pre : ∀ (a : List Int) {x y : List Int}, lx (a ++ x) (a ++ y) = lx x y
  | [], _, _ => rfl
  | a :: as, x, y => by
    simp only [List.cons_append, lx, lx_pre as]
    simp
theorem lx_asym {a b : List Int} (h : lx a b = true) : lx b a = false := by
  cases c : lx b a with
  | false => rfl
  | true =>
    have := lx_trans h c
    rw [lx_irr] at this
    cases this
theorem nI_app (a b : List Nat) : nI (a ++ b) = nI a ++ nI b := by
  unfold nI
  rw [List.map_append]
theorem nI_len (a : List Nat) : (nI a).length = a.length := List.length_map _
/-- a state that makes the chain longer -/
def Ext (rows : List (List Int)) (ps c : List Nat) (s : Nat) : Prop := s ∉ c ∧ ∃ e, c[c.length - 1]? = some e ∧ fr rows ps 1 e s ≠ none
theorem Chn.take {rows : List (List Int)} {ps ss : List Nat} (h : Chn rows ps ss) (k : Nat) : Chn rows ps (ss.take k) := by
  obtain ⟨nd, lt, st⟩ := h
  refine ⟨nd.sublist (List.take_sublist k ss), fun s hs => lt s (List.mem_of_mem_take hs), fun i s t hs ht => ?_⟩
  rw [List.getElem?_take] at hs ht
  by_cases c : i < k
  · by_cases c2 : i + 1 < k
    · rw [if_pos c] at hs
      rw [if_pos c2] at ht
      exact st i s t hs ht
    · rw [if_neg c2] at ht; cases ht
  · rw [if_neg c] at hs; cases hs
theorem Chn.snoc {rows : List (List Int)} {ps c : List Nat} {s : Nat} (h : Chn rows ps c) (ls : s < wdt rows) (e : Ext rows ps c s) : Chn rows ps (c ++ [s]) := by
  obtain ⟨nd, lt, st⟩ := h
  obtain ⟨no, x, ex, rx⟩ := e
  refine ⟨List.nodup_append.mpr ⟨nd, by simp, fun a ha b hb => ?_⟩, fun a ha => ?_, fun i a b ha hb => ?_⟩
  · rw [List.mem_singleton.mp hb]
    intro z
    exact no (z ▸ ha)
  · rcases List.mem_append.mp ha with z | z
    · exact lt a z
    · rw [List.mem_singleton.mp z]; exact ls
  · have lx := (List.getElem?_eq_some_iff.mp hb).1
    rw [List.length_append] at lx
    have lx : i + 1 < c.length + 1 := lx
    rw [List.getElem?_append_left (by omega)] at ha
    by_cases z : i + 1 < c.length
    · rw [List.getElem?_append_left z] at hb
      exact st i a b ha hb
    · have z2 : i = c.length - 1 := by omega
      rw [List.getElem?_append_right (by omega), show i + 1 - c.length = 0 by omega] at hb
      have : s = b := by simpa using hb
      subst this
      rw [z2, ex] at ha
      cases ha
      exact rx
theorem Chn.split {rows : List (List Int)} {ps g : List Nat} {k : Nat} (h : Chn rows ps g) (l : g.length = k + 1) (k1 : 1 ≤ k) : ∃ c s, Chn rows ps c ∧ c.length = k ∧ s < wdt rows ∧ Ext rows ps c s ∧ g = c ++ [s] := by
  have lk : k < g.length := by omega
  have eg : g = g.take k ++ [g[k]] := by
    have z : g.take (k + 1) = g := List.take_of_length_le (by omega)
    refine z.symm.trans ?_
    rw [List.take_add_one, List.getElem?_eq_getElem lk]
    rfl
  have lc : (g.take k).length = k := by rw [List.length_take]; omega
  refine ⟨g.take k, g[k], h.take k, lc, h.2.1 _ (List.getElem_mem lk), ⟨fun z => ?_, g[k - 1], ?_, ?_⟩, eg⟩
  · have nd := h.1
    rw [eg, List.nodup_append] at nd
    exact nd.2.2 _ z _ (List.mem_singleton.mpr rfl) rfl
  · rw [lc, List.getElem?_take, if_pos (by omega)]
    exact List.getElem?_eq_getElem (by omega)
  · refine h.2.2 (k - 1) _ _ (List.getElem?_eq_getElem (by omega)) ?_
    rw [show k - 1 + 1 = k by omega]
    exact List.getElem?_eq_getElem lk
/-- all chains of one length, in order -/
def Chs (rows : List (List Int)) (ps : List Nat) (k : Nat) (cs : List (List Nat)) : Prop := (∀ c, c ∈ cs ↔ Chn rows ps c ∧ c.length = k) ∧ cs.Pairwise fun a b => lx (nI a) (nI b) = true
def spLonger (CD C : Addr) : Sp := fun vs H Q _ => ∃ (d t : Addr) (ss : List Addr) (rows : List (List Int)) (cl R : Addr) (ws : List V) (cs : List (List Nat)) (ps : List Nat) (k : Nat), vs = [.ref d, .ref cl, .ref R] ∧ DvAt CD C H d t ss rows ∧ H cl = some (.lst ws) ∧ RwN H ws cs ∧ IsR H R rows ps 1 ∧ Chs rows ps k cs ∧ 1 ≤ k ∧ k ≤ 6 ∧ cs.length ≤ 6 ^ k ∧
  ∀ (L : Addr) (us : List V) (gs : List (List Nat)) (H' : Hp), Same H H' → H' L = some (.lst us) → RwN H' us gs → Chs rows ps (k + 1) gs → gs.length ≤ 6 ^ (k + 1) → Q (.ref L) H'
/-- a chain of the row before, with a state that comes later, or an earlier one -/
def Old (rows : List (List Int)) (ps : List Nat) (cs : List (List Nat)) (i j : Nat) (g : List Nat) : Prop := ∃ (a s : Nat) (c : List Nat), cs[a]? = some c ∧ (a < i ∨ (a = i ∧ s < j)) ∧ s < wdt rows ∧ Ext rows ps c s ∧ g = c ++ [s]
def LcI (rows : List (List Int)) (ps : List Nat) (cs : List (List Nat)) (D : Addr) (H0 : Hp) (i j : Nat) (H : Hp) : Prop := Same H0 H ∧ ∃ (us : List V) (gs : List (List Nat)), H D = some (.lst us) ∧ RwN H us gs ∧ gs.length ≤ 6 * i + j ∧ (∀ g, g ∈ gs ↔ Old rows ps cs i j g) ∧ gs.Pairwise fun a b => lx (nI a) (nI b) = true
theorem LcI.skip {rows : List (List Int)} {ps : List Nat} {cs : List (List Nat)} {D : Addr} {H0 H H' : Hp} {i j : Nat} {c : List Nat} (h : LcI rows ps cs D H0 i j H) (k : Same H H') (ec : cs[i]? = some c) (no : ¬ Ext rows ps c j) : LcI rows ps cs D H0 i (j + 1) H' := by
  obtain ⟨s, us, gs, hd, rn, l, mem, pw⟩ := h
  refine ⟨s.trans k, us, gs, k _ _ hd, rn.same k, by omega, fun g => (mem g).trans ⟨fun ⟨a, s, c', e1, z, r⟩ => ⟨a, s, c', e1, by omega, r⟩, fun ⟨a, s, c', e1, z, ls, ex, e⟩ => ⟨a, s, c', e1, ?_, ls, ex, e⟩⟩, pw⟩
  by_cases y : a = i ∧ s = j
  · obtain ⟨rfl, rfl⟩ := y
    rw [ec] at e1
    cases e1
    exact absurd ex no
  · omega
theorem LcI.add {rows : List (List Int)} {ps : List Nat} {cs : List (List Nat)} {D q : Addr} {H0 H H' : Hp} {i j k0 : Nat} {c : List Nat} (h : LcI rows ps cs D H0 i j H) (nD : H0 D = none) (k : Same H H') (chs : Chs rows ps k0 cs) (ec : cs[i]? = some c) (lj : j < wdt rows) (ex : Ext rows ps c j) (hq : H' q = some (.tup (iV (c ++ [j])))) (sz : 6 * i + j ≤ 900000) :
    ∃ acc, H' D = some (.lst acc) ∧ acc.length < sizeLine ∧ LcI rows ps cs D H0 i (j + 1) (L2.upd H' D (.lst (acc ++ [.ref q]))) := by
  obtain ⟨s, us, gs, hd, rn, l, mem, pw⟩ := h
  have hd' := k _ _ hd
  have lu := rn.len
  refine ⟨us, hd', Nat.lt_of_le_of_lt (show us.length ≤ 1000000 by omega) (by decide), same_put (s.trans k) nD, us ++ [.ref q], gs ++ [c ++ [j]], upd_same, ((rn.same k).put hd').snoc (by rw [upd_ne (ne_of hq hd' (by intro z; cases z))]; exact hq), by rw [List.length_append]; show _ + 1 ≤ _; omega, fun g => ?_, ?_⟩
  · rw [List.mem_append, mem, List.mem_singleton]
    constructor
    · rintro (⟨a, s, c', e1, z, r⟩ | e)
      · exact ⟨a, s, c', e1, by omega, r⟩
      · exact ⟨i, j, c, ec, by omega, lj, ex, e⟩
    · rintro ⟨a, s, c', e1, z, ls, ex', e⟩
      by_cases y : a = i ∧ s = j
      · obtain ⟨rfl, rfl⟩ := y
        rw [ec] at e1
        cases e1
        exact .inr e
      · exact .inl ⟨a, s, c', e1, by omega, ls, ex', e⟩
  · refine List.pairwise_append.mpr ⟨pw, List.pairwise_singleton _ _, fun a ha b hb => ?_⟩
    rw [List.mem_singleton.mp hb]
    obtain ⟨x, s, c', e1, z, ls, ex', rfl⟩ := (mem a).mp ha
    rw [nI_app, nI_app]
    rcases z with z | ⟨rfl, z⟩
    · refine lx_app _ _ ?_ ?_
      · rw [nI_len, nI_len, ((chs.1 c').mp (List.mem_of_getElem? e1)).2, ((chs.1 c).mp (List.mem_of_getElem? ec)).2]
      · obtain ⟨l1, g1⟩ := List.getElem?_eq_some_iff.mp e1
        obtain ⟨l2, g2⟩ := List.getElem?_eq_some_iff.mp ec
        have z2 := List.pairwise_iff_getElem.mp chs.2 x i l1 l2 z
        rw [g1, g2] at z2
        exact z2
    · rw [ec] at e1
      cases e1
      rw [lx_pre]
      show (decide ((s : Int) < j) || _) = true
      rw [decide_eq_true (by omega), Bool.true_or]
theorem inNat : ∀ {c : List Nat} {s : Nat}, inV (.int (s : Nat)) (iV c) = true ↔ s ∈ c
  | [], s => by simp [inV, iV]
  | x :: c, s => by
    have ih := inNat (c := c) (s := s)
    unfold inV iV at ih ⊢
    rw [List.map_cons, List.any_cons]
    show (((x : Int) == (s : Int)) || _) = true ↔ _
    rw [Bool.or_eq_true, ih, List.mem_cons]
    simp
    constructor
    · rintro (z | z)
      · exact .inl (by omega)
      · exact .inr z
    · rintro (z | z)
      · exact .inl (by omega)
      · exact .inr z
theorem flatI : ∀ c : List Nat, (iV c).all flatV = true
  | [] => rfl
  | x :: c => by
    have ih := flatI c
    unfold iV at ih ⊢
    rw [List.map_cons, List.all_cons, ih]
    rfl
theorem atI_end {xs : List V} {x : V} (h : xs[xs.length - 1]? = some x) : atI xs (-1) = some x := by
  have : xs ≠ [] := fun e => by subst e; simp at h
  obtain ⟨ys, y, rfl⟩ : ∃ ys y, xs = ys ++ [y] := ⟨xs.dropLast, xs.getLast this, (List.dropLast_concat_getLast this).symm⟩
  rw [List.length_append, List.length_singleton, Nat.add_sub_cancel, List.getElem?_append_right (Nat.le_refl _), Nat.sub_self] at h
  cases h
  exact atI_last _ _
section
variable {P : Program} {w : World} {K : PySem.W.Frag} {mg : Str → Option Value} {base : Heap} {CShare CDivision CNoPerson : Addr}
abbrev st_longer_chains : Stmt := top 49
theorem sc_longer_chains : FnScope ["division", "chains", "risers", "states", "state"] ["division", "chains", "risers"] (defScope st_longer_chains) := ⟨rfl, rfl, rfl, by decide +kernel, rfl, by decide +kernel, by decide +kernel⟩
theorem ok_longer (B : Bn mg) (SDivision : DvK K mg CDivision) (p_states : PCal P w K mg base 4 CDivision "states" ["self"] (spStates CDivision CShare)) (D : Df K mg "longer_chains" st_longer_chains ["division", "chains", "risers"]) : Cal P w K mg base 6 "longer_chains" ["division", "chains", "risers"] (spLonger CDivision CShare) := by
  refine D.cal sc_longer_chains (fun vs H Q E h => ?_) (fun f cdv A out s H vs Q E hr h => ?_)
  · obtain ⟨d, t, ss, rows, cl, R, ws, cs, ps, k, rfl, _⟩ := h
    rfl
  obtain ⟨d, t, ss, rows, cl, R, ws, cs, ps, k0, rfl, dv, hcl, rn, hR, chs, k1, k6, lcs, k⟩ := h
  refine ⟨_, (pss_one (ps_ret (pe_lcN (own := [("states", 3), ("state", 4)]) (g := gName 3) rfl sc_longer_chains.nd (pi_list (pv 1)) (blkOk_by (N := ["division", "chains", "risers", "states", "state"]) (sc := defScope st_longer_chains) (by decide +kernel)) (by decide) (fun _ _ _ _ _ => ⟨(pg_name (i := 3) sc_longer_chains.nd rfl (.inl rfl)), pts_nil, (PIns.cons (us := [4]) (pi_range1 (by rfl) B.n_range (pa_cons (pe_pr p_states SDivision.cl (hr.mono (by decide)) (pv 0)) pa_nil)) (pg_name (i := 4) sc_longer_chains.nd rfl (.inl rfl)) (pts_one (PW.pt (pw_and (pt_cmpR (show OpR _ (compareOp .NotIn) (rIn K true) from op_notIn_seq) (pv 4) (pv 3) (by rfl)) (pw_and1 (pt_cmpR op_notN (pe_dget (un1 hr) (pv 2) (pe_tup (pa_cons (pe_ix (show IxR _ (rIxT K) from ix_tup) (pv 3) (pe_un un_neg pe_int) (fun _ _ => rfl)) (pa_cons (pv 4) pa_nil))) (fun _ _ => rfl)) pe_non (nomark _)))))) (by decide) (by intro _ _; rfl) (.nil (pe_tup (pa_starK (K := K) (pv 3) (pa_cons (pv 4) pa_nil)))))⟩)))), ?_⟩
  obtain ⟨⟨dx, hd⟩, ht, al, rw_⟩ := id dv
  obtain ⟨w2, w6⟩ := rw_.w26
  have lw := rn.len
  have p6 : 6 ^ k0 ≤ 46656 := Nat.le_trans (Nat.pow_le_pow_right (by decide) k6) (by decide)
  refine ⟨_, rfl, cl, rfl, ⟨_, SqL.of hcl⟩, fun D hD => ?_⟩
  refine lcW (fun i H' => LcI rows ps cs D H i 0 H') ⟨same_new (Same.refl _) hD, [], [], upd_same, .nil, Nat.le_refl _, fun g => ⟨fun z => (nomatch z), fun ⟨a, s, c, _, z, _⟩ => by omega⟩, .nil⟩ (fun i H' _ r => SqL.of (r.1 _ _ hcl)) (fun i x H3 hx r3 => ?_) (fun H3 r3 => ?_)
  · obtain ⟨q, c, rfl, hq, ec⟩ := rn.at hx
    have li : i < ws.length := (List.getElem?_eq_some_iff.mp hx).1
    obtain ⟨cc, lc⟩ := (chs.1 c).mp (List.mem_of_getElem? ec)
    refine ⟨rfl, tyes (tcl (σ' := [some (.ref d), some (.ref cl), some (.ref R), some (.ref q), none]) rfl ?_)⟩
    refine ⟨_, rfl, d, dx, _, rfl, r3.1 _ _ hd, d, t, ss, rows, rfl, dv.same r3.1, fun ns0 hn0 => ?_⟩
    rw [rw_.wdt hn0]
    refine ⟨_, rfl, by omega, by omega, ?_⟩
    have ew : ((wdt rows : Int)).toNat = wdt rows := by omega
    rw [ew]
    refine lrW (lo := 0) (n := wdt rows) (fun j H' => LcI rows ps cs D H i j H') r3 (fun j H4 lj r4 => ?_) (fun H4 r4 => ?_)
    · have e0 : ((0 : Int) + j) = ((j : Nat) : Int) := by omega
      rw [e0]
      have k4 := r4.1
      have hq4 := k4 _ _ hq
      refine ⟨rfl, ?_⟩
      refine ⟨_, rfl, _, rfl, q, _, rfl, .inr (SqT.of hq4), rfl, flatI c, _, rfl, ?_⟩
      cases ein : inV (.int (j : Nat)) (iV c) with
      | true => exact iteF (iteF (r4.skip (Same.refl _) ec fun z => z.1 (inNat.mp ein)))
      | false =>
        have no : j ∉ c := fun z => by
          rw [inNat.mpr z] at ein
          cases ein
        have lc0 : c.length - 1 < c.length := by omega
        have ce : c[c.length - 1]? = some c[c.length - 1] := List.getElem?_eq_getElem lc0
        generalize c[c.length - 1] = e at ce
        have le : e < wdt rows := cc.2.1 e (List.mem_of_getElem? ce)
        have ie : atI (iV c) (-1) = some (.int (e : Nat)) := atI_end (by rw [iV_len]; unfold iV; rw [List.getElem?_map, ce]; rfl)
        refine iteT ?_
        refine ⟨_, rfl, _, rfl, 1, rfl, q, _, _, _, rfl, rfl, SqT.of hq4, ie, _, rfl, (by show 2 ≤ sizeLine; decide), fun T hT => ?_⟩
        generalize hH5 : upd H4 T _ = H5
        obtain ⟨k5, eT⟩ := alloc hH5 hT
        clear hH5
        refine ⟨R, _, rfl, (hR.same (k4.trans k5)).get le lj eT, rfl, _, rfl, ?_⟩
        cases ef : fr rows ps 1 e j with
        | none =>
          refine iteF (r4.skip k5 ec fun z => ?_)
          obtain ⟨_, e', ce', ne⟩ := z
          rw [ce] at ce'
          cases ce'
          exact ne ef
        | some p =>
          refine iteT ?_
          refine ⟨_, rfl, q, _, rfl, .inl (SqT.of (k5 _ _ hq4)), _, rfl, ?_⟩
          have lci := iV_len c
          refine ⟨Nat.le_of_lt (size_lt' (by rw [List.length_append, iV_len]; show _ + 1 ≤ _; omega)), fun T2 hT2 => ?_⟩
          generalize hH6 : upd H5 T2 _ = H6
          obtain ⟨k6, eT2⟩ := alloc hH6 hT2
          clear hH6
          have eT2 : H6 T2 = some (.tup (iV (c ++ [j]))) := by
            rw [eT2]
            unfold iV
            rw [List.map_append]
            rfl
          exact r4.add hD (k5.trans k6) chs ec lj ⟨no, e, ce, by rw [ef]; exact fun z => nomatch z⟩ eT2 (by omega)
    · obtain ⟨k4, us, gs, hg, rg, lg, mem, pw⟩ := r4
      exact ⟨k4, us, gs, hg, rg, by omega, fun g => (mem g).trans ⟨fun ⟨a, s, c', e1, z, ls, r⟩ => ⟨a, s, c', e1, by omega, ls, r⟩, fun ⟨a, s, c', e1, z, ls, r⟩ => ⟨a, s, c', e1, by omega, ls, r⟩⟩, pw⟩
  · obtain ⟨k3, us, gs, hg, rg, lg, mem, pw⟩ := r3
    rw [lw] at lg mem
    refine k D us gs H3 k3 hg rg ⟨fun g => (mem g).trans ⟨fun ⟨a, s, c, e1, z, ls, ex, e⟩ => ?_, fun ⟨cg, lg⟩ => ?_⟩, pw⟩ (by rw [Nat.pow_succ]; omega)
    · obtain ⟨cc, lc⟩ := (chs.1 c).mp (List.mem_of_getElem? e1)
      rw [e]
      exact ⟨cc.snoc ls ex, by rw [List.length_append, lc]; rfl⟩
    · obtain ⟨c, s, cc, lc, ls, ex, e⟩ := cg.split lg k1
      obtain ⟨a, ea⟩ := List.mem_iff_getElem?.mp ((chs.1 c).mpr ⟨cc, lc⟩)
      exact ⟨a, s, c, ea, .inl (List.getElem?_eq_some_iff.mp ea).1, ls, ex, e⟩
end
end Pl
namespace Pl
open PySem PySem.Spec PyProof.Rows L2
def spFirst (CD C : Addr) : Sp := fun vs H Q _ => ∃ (d t : Addr) (ss : List Addr) (rows : List (List Int)) (pl : Addr) (ps : List Nat), vs = [.ref d, .ref pl] ∧ DvAt CD C H d t ss rows ∧ H pl = some (.lst (iV ps)) ∧ (∀ p ∈ ps, p < rows.length) ∧ ps.Pairwise (· < ·) ∧
  (∀ H', Same H H' → (∀ ss g, ¬ IsRing rows ps ss g) → Q .non H') ∧ (∀ (T q r : Addr) (ss g : List Nat) (H' : Hp), Same H H' → H' T = some (.tup [.ref q, .ref r]) → H' q = some (.tup (iV ss)) → H' r = some (.tup (iV g)) → FstR rows ps ss g → Q (.ref T) H')
def spRing (CD C : Addr) : Sp := fun vs H Q _ => ∃ (d t : Addr) (ss : List Addr) (rows : List (List Int)), vs = [.ref d] ∧ DvAt CD C H d t ss rows ∧
  (∀ H', Same H H' → (∀ ss g, ¬ IsRing rows (List.range rows.length) ss g) → Q .non H') ∧ (∀ (T q r : Addr) (ss g : List Nat) (H' : Hp), Same H H' → H' T = some (.tup [.ref q, .ref r]) → H' q = some (.tup (iV ss)) → H' r = some (.tup (iV g)) → FstR rows (List.range rows.length) ss g → Q (.ref T) H')
theorem range_lt (n : Nat) : (List.range n).Pairwise (· < ·) := List.pairwise_lt_range
theorem rgV_iV (n : Nat) : rgV 0 (n : Int) = iV (List.range n) := by
  unfold rgV iV
  rw [show ((n : Int) - 0).toNat = n by omega]
  refine List.map_congr_left fun x _ => ?_
  simp
theorem chs_one (rows : List (List Int)) (ps : List Nat) : Chs rows ps 1 ((List.range (wdt rows)).map fun s => [s]) := by
  refine ⟨fun c => ⟨fun h => ?_, fun ⟨cc, lc⟩ => ?_⟩, ?_⟩
  · obtain ⟨s, hs, rfl⟩ := List.mem_map.mp h
    refine ⟨⟨by simp, fun a ha => ?_, fun i a b ha hb => ?_⟩, rfl⟩
    · rw [List.mem_singleton.mp ha]
      exact List.mem_range.mp hs
    · have := (List.getElem?_eq_some_iff.mp hb).1
      simp at this
  · obtain ⟨s, rfl⟩ := List.length_eq_one_iff.mp lc
    exact List.mem_map.mpr ⟨s, List.mem_range.mpr (cc.2.1 s (List.mem_singleton.mpr rfl)), rfl⟩
  · rw [List.pairwise_map]
    refine (range_lt (wdt rows)).imp fun {a b} h => ?_
    show (decide ((a : Int) < b) || _) = true
    rw [decide_eq_true (by omega), Bool.true_or]
section
variable {P : Program} {w : World} {K : PySem.W.Frag} {mg : Str → Option Value} {base : Heap} {CShare CDivision CNoPerson : Addr}
abbrev st_first_ring : Stmt := top 46
theorem sc_first_ring : FnScope ["division", "people", "risers", "steep", "chains", "states", "found", "state"] ["division", "people"] (defScope st_first_ring) := ⟨rfl, rfl, rfl, by decide +kernel, rfl, by decide +kernel, by decide +kernel⟩
theorem ok_first (B : Bn mg) (SDivision : DvK K mg CDivision) (p_states : PCal P w K mg base 4 CDivision "states" ["self"] (spStates CDivision CShare)) (c_first_risers : Cal P w K mg base 7 "first_risers" ["division", "people", "least"] (spRisers CDivision CShare)) (c_first_people : Cal P w K mg base 2 "first_people" ["states", "risers", "steep"] spPeopleF) (c_longer_chains : Cal P w K mg base 6 "longer_chains" ["division", "chains", "risers"] (spLonger CDivision CShare)) (D : Df K mg "first_ring" st_first_ring ["division", "people"]) : Cal P w K mg base 8 "first_ring" ["division", "people"] (spFirst CDivision CShare) := by
  refine D.cal sc_first_ring (fun vs H Q E h => ?_) (fun f cdv A out s H vs Q E hr h => ?_)
  · obtain ⟨d, t, ss, rows, pl, ps, rfl, _⟩ := h
    rfl
  obtain ⟨d, t, ss, rows, pl, ps, rfl, dv, hp, lp, pw, kN, kY⟩ := h
  refine ⟨_, (pss_cons (ps_set (i := 2) sc_first_ring.nd rfl (.inl rfl) (pe_fn c_first_risers (hr.mono (by decide)) (pa_cons (pv 0) (pa_cons (pv 1) (pa_cons pe_int pa_nil)))))
   (pss_cons (ps_set (i := 3) sc_first_ring.nd rfl (.inl rfl) (pe_fn c_first_risers (hr.mono (by decide)) (pa_cons (pv 0) (pa_cons (pv 1) (pa_cons pe_int pa_nil)))))
   (pss_cons (ps_setLc (i := 4) (own := [("state", 7)]) (g := gName 7) rfl sc_first_ring.nd rfl rfl (sw_true rfl rfl rfl (by decide +kernel)) (pi_range1 (by rfl) B.n_range (pa_cons (pe_pr p_states SDivision.cl (hr.mono (by decide)) (pv 0)) pa_nil)) (blkOk_by (N := ["division", "people", "risers", "steep", "chains", "states", "found", "state"]) (sc := defScope st_first_ring) (by decide +kernel)) (fun _ _ _ _ _ => (pg_name (i := 7) sc_first_ring.nd rfl (.inl rfl))) (fun _ _ _ _ _ => pts_nil) (fun _ _ _ _ _ => (pe_tup (pa_cons (pv 7) pa_nil))))
   (pss_cons (ps_while PassesOwn.never (pt_truth (pv 4) (fun _ => rfl)) (pss_cons (ps_for PassesOwn.never rfl (pi_list (pv 4)) (pg_name (i := 5) sc_first_ring.nd rfl (.inl rfl))
   (pss_cons (ps_set (i := 6) sc_first_ring.nd rfl (.inl rfl) (pe_fn c_first_people (hr.mono (by decide)) (pa_cons (pv 5) (pa_cons (pv 2) (pa_cons (pv 3) pa_nil)))))
   (pss_one (ps_if (pt_cmpR op_notN (pv 6) pe_non (nomark _)) (pss_one (ps_ret (pe_tup (pa_cons (pv 5) (pa_cons (pv 6) pa_nil))))) pss_nil))))
   (pss_one (ps_set (i := 4) sc_first_ring.nd rfl (.inl rfl) (pe_fn c_longer_chains (hr.mono (by decide)) (pa_cons (pv 0) (pa_cons (pv 4) (pa_cons (pv 2) pa_nil))))))))
   (pss_one (ps_ret pe_non)))))), ?_⟩
  obtain ⟨⟨dx, hd⟩, ht, al, rw_⟩ := id dv
  obtain ⟨w2, w6⟩ := rw_.w26
  refine ⟨_, rfl, _, rfl, d, t, ss, rows, pl, ps, 1, rfl, dv, hp, lp, fun R H1 k1 hR => ?_⟩
  have dv1 := dv.same k1
  refine ⟨_, rfl, _, rfl, d, t, ss, rows, pl, ps, 2, rfl, dv1, k1 _ _ hp, lp, fun S H2 k2 hS => ?_⟩
  have dv2 := dv1.same k2
  have k02 := k1.trans k2
  have hR := hR.same k2
  refine ⟨_, rfl, d, dx, _, rfl, k02 _ _ hd, d, t, ss, rows, rfl, dv2, fun ns0 hn0 => ?_⟩
  rw [rw_.wdt hn0]
  refine ⟨_, rfl, by omega, by omega, fun D0 hD0 => lc_range (lo := 0) (n := wdt rows) (fun i H' => Same H2 H' ∧ ∃ vs : List V, H' D0 = some (.lst vs) ∧ RwN H' vs ((List.range i).map fun s => [s])) ⟨same_new (Same.refl _) hD0, [], upd_same, .nil⟩ (fun i H3 hi ⟨k3, vs, h3, rn⟩ => ⟨rfl, tyes ?_⟩) (fun H3 q3 => ?_)⟩
  · refine ⟨_, rfl, (by show 1 ≤ sizeLine; decide), fun z hz => ?_⟩
    generalize hH4 : upd H3 z _ = H4
    obtain ⟨k4, e4⟩ := alloc hH4 hz
    clear hH4
    have e4 : H4 z = some (.tup (iV [i])) := by
      rw [e4]
      show some (HO.tup [.int (0 + i)]) = some (.tup [.int (i : Nat)])
      rw [Int.zero_add]
    have h4 := k4 _ _ h3
    have lv := rn.len
    rw [List.length_map, List.length_range] at lv
    refine ⟨vs, h4, size_lt' (by omega), same_put (k3.trans k4) hD0, vs ++ [.ref z], upd_same, ?_⟩
    rw [List.range_succ, List.map_append]
    exact ((rn.same k4).put h4).snoc (by rw [upd_ne (ne_of e4 h4 (by intro z; cases z))]; exact e4)
  obtain ⟨k3, vs0, h3, rn3⟩ := q3
  refine ⟨fun m σ H' => ∃ (k : Nat) (C : Addr) (ws : List V) (cs : List (List Nat)) (v5 v6 : Option V), m = 8 - k ∧ 1 ≤ k ∧ k ≤ 7 ∧ σ = [some (.ref d), some (.ref pl), some (.ref R), some (.ref S), some (.ref C), v5, v6, none] ∧ Same H2 H' ∧ H' C = some (.lst ws) ∧ RwN H' ws cs ∧ Chs rows ps k cs ∧ cs.length ≤ 6 ^ k ∧ ∀ ss g, IsRing rows ps ss g → k ≤ ss.length,
    ⟨_, 1, D0, vs0, _, none, none, rfl, Nat.le_refl _, by decide, rfl, k3, h3, rn3, chs_one rows ps, by simp; omega, fun ss g h => h.2.2.1⟩, ?_⟩
  rintro m σ H4 ⟨k, C, ws, cs, v5, v6, rfl, k1', k7, rfl, k4, hC, rn, chs, lcs, sho⟩
  have lw := rn.len
  refine ⟨_, rfl, _, .inl ⟨ws, SqL.of hC, rfl⟩, ?_⟩
  cases ws with
  | nil =>
    have ecs : cs = [] := List.length_eq_zero_iff.mp lw.symm
    refine iteF ?_
    refine kN H4 (k02.trans k4) fun ss g h => ?_
    have lk := sho ss g h
    have := (chs.1 (ss.take k)).mpr ⟨h.chn.take k, by rw [List.length_take]; omega⟩
    rw [ecs] at this
    cases this
  | cons w0 ws0 =>
    generalize hws : w0 :: ws0 = ws at *
    have k6 : k ≤ 6 := by
      have l0 : 0 < cs.length := by rw [← lw, ← hws]; simp
      obtain ⟨cc, lc⟩ := (chs.1 cs[0]).mp (List.getElem_mem l0)
      have := nodup_le cc.1 cc.2.1
      omega
    have ne : (!ws.isEmpty) = true := by rw [← hws]; rfl
    rw [ne]
    refine iteT ⟨_, fun σ' H' h => h, ?_⟩
    refine ⟨_, rfl, C, rfl, ⟨_, SqL.of hC⟩, for_list (K := K) (a := C) (xs := ws) (fun i σ H' => ∃ v5 v6 : Option V, σ = [some (.ref d), some (.ref pl), some (.ref R), some (.ref S), some (.ref C), v5, v6, none] ∧ Same H4 H' ∧ ∀ (j : Nat) (c : List Nat), j < i → cs[j]? = some c → ∀ g, ¬ Fits rows ps c g) ⟨v5, v6, rfl, Same.refl _, fun j c hj => absurd hj (Nat.not_lt_zero j)⟩ (fun i σ H' _ ⟨_, _, _, z, _⟩ => SqL.of (z _ _ hC)) ?_ ?_⟩
    · rintro i x σ H5 hx ⟨v5, v6, rfl, k5, no⟩
      obtain ⟨q, c, rfl, hq, ec⟩ := rn.at hx
      obtain ⟨cc, lc⟩ := (chs.1 c).mp (List.mem_of_getElem? ec)
      have k25 := k4.trans k5
      refine ⟨_, rfl, _, rfl, _, rfl, q, R, S, rows, ps, c, rfl, k5 _ _ hq, by omega, by omega, cc.2.1, pw, hR.same k25, hS.same k25, fun H6 k6' nf => ?_, fun r g H6 k6' hr6 fits least => ?_⟩
      · refine ⟨_, rfl, rfl, _, rfl, iteF ⟨_, _, rfl, k5.trans k6', fun j c' hj ej => ?_⟩⟩
        by_cases z : j < i
        · exact no j c' z ej
        · have : j = i := by omega
          subst this
          rw [ec] at ej
          cases ej
          exact nf
      · refine ⟨_, rfl, rfl, _, rfl, iteT ?_⟩
        refine ⟨_, rfl, _, rfl, (by show 2 ≤ sizeLine; decide), fun T hT => ?_⟩
        generalize hH7 : upd H6 T _ = H7
        obtain ⟨k7', eT⟩ := alloc hH7 hT
        clear hH7
        have k67 := k6'.trans k7'
        refine kY T q r c g H7 (k02.trans (k25.trans k67)) eT ((k5.trans k67) _ _ hq) (k7' _ _ hr6) ⟨⟨cc.1, cc.2.1, by omega, fits⟩, fun ss' g' h' => ?_⟩
        refine ⟨by rw [lc]; exact sho ss' g' h', fun le => ?_⟩
        rw [lc] at le
        obtain ⟨j, ej⟩ := List.mem_iff_getElem?.mp ((chs.1 ss').mpr ⟨h'.chn, le⟩)
        refine ⟨?_, fun e => ?_⟩
        · by_cases z : j < i
          · exact absurd h'.2.2.2 (no j ss' z ej g')
          · by_cases z2 : j = i
            · subst z2
              rw [ec] at ej
              cases ej
              exact lx_irr _
            · obtain ⟨l1, g1⟩ := List.getElem?_eq_some_iff.mp ec
              obtain ⟨l2, g2⟩ := List.getElem?_eq_some_iff.mp ej
              have z3 := List.pairwise_iff_getElem.mp chs.2 i j l1 l2 (by omega)
              rw [g1, g2] at z3
              exact lx_asym z3
        · subst e
          exact least g' h'.2.2.2
    · rintro σ H5 ⟨v5, v6, rfl, k5, no⟩
      rw [lw] at no
      have k25 := k4.trans k5
      refine ⟨_, rfl, _, rfl, _, rfl, d, t, ss, rows, C, R, ws, cs, ps, k, rfl, dv2.same k25, k5 _ _ hC, rn.same k5, hR.same k25, chs, k1', k6, lcs, fun L us gs H6 k6' hL rn6 chs6 lg => ?_⟩
      refine ⟨8 - (k + 1), by omega, k + 1, L, us, gs, _, _, rfl, by omega, by omega, rfl, k25.trans k6', hL, rn6, chs6, lg, fun ss' g' h' => ?_⟩
      have lk := sho ss' g' h'
      by_cases z : ss'.length = k
      · obtain ⟨j, ej⟩ := List.mem_iff_getElem?.mp ((chs.1 ss').mpr ⟨h'.chn, z⟩)
        exact absurd h'.2.2.2 (no j ss' (List.getElem?_eq_some_iff.mp ej).1 ej g')
      · omega
abbrev st_ring : Stmt := top 36
theorem sc_ring : FnScope ["division"] ["division"] (defScope st_ring) := ⟨rfl, rfl, rfl, by decide +kernel, rfl, by decide +kernel, by decide +kernel⟩
theorem ok_ring (B : Bn mg) (SDivision : DvK K mg CDivision) (p_people : PCal P w K mg base 2 CDivision "people" ["self"] (spPeople CDivision CShare)) (c_check_division : Cal P w K mg base 1 "check_division" ["thing"] (spCheckD CDivision CShare)) (c_first_ring : Cal P w K mg base 8 "first_ring" ["division", "people"] (spFirst CDivision CShare)) (D : Df K mg "ring" st_ring ["division"]) : Cal P w K mg base 9 "ring" ["division"] (spRing CDivision CShare) := by
  refine D.cal sc_ring (fun vs H Q E h => ?_) (fun f cdv A out s H vs Q E hr h => ?_)
  · obtain ⟨d, t, ss, rows, rfl, _⟩ := h
    rfl
  obtain ⟨d, t, ss, rows, rfl, dv, kN, kY⟩ := h
  refine ⟨_, (pss_cons (ps_expr (pe_fn c_check_division (hr.mono (by decide)) (pa_cons (pv 0) pa_nil)))
   (pss_one (ps_ret (pe_fn c_first_ring (hr.mono (by decide)) (pa_cons (pv 0) (pa_cons (pe_listRg rfl (by rfl) B.n_list (prg_1 (by rfl) B.n_range (pe_pr p_people SDivision.cl (hr.mono (by decide)) (pv 0)))) pa_nil)))))), ?_⟩
  obtain ⟨⟨dx, hd⟩, ht, al, rw_⟩ := id dv
  have p2 := rw_.1
  have p4 := rw_.2.1
  refine ⟨_, rfl, d, t, ss, rows, rfl, dv, ?_⟩
  refine ⟨_, rfl, _, rfl, d, dx, _, rfl, hd, d, t, ss, rows, rfl, dv, _, rfl, RgOk.of_le (by omega) (by omega) (by omega) (by omega), fun S hS => ?_⟩
  generalize hH1 : upd H S _ = H1
  obtain ⟨k1, e1⟩ := alloc hH1 hS
  clear hH1
  rw [rgV_iV] at e1
  exact ⟨d, t, ss, rows, S, _, rfl, dv.same k1, e1, fun p hp => List.mem_range.mp hp, range_lt _, fun H' k' no => kN H' (k1.trans k') no, fun T q r ss g H' k' a b c f => kY T q r ss g H' (k1.trans k') a b c f⟩
end
end Pl
namespace Pl
open PySem PySem.Spec PyProof.Rows L2
def spVerdict (CD C : Addr) : Sp := fun vs H Q _ => ∃ (d t : Addr) (ss : List Addr) (rows : List (List Int)), vs = [.ref d] ∧ DvAt CD C H d t ss rows ∧
  (∀ (V0 : Addr) (x : V) (H' : Hp), Same H H' → H' V0 = some (.tup [.str "levels", x]) → (∀ ss g, ¬ IsRing rows (List.range rows.length) ss g) → ((∃ (q : Addr) (hs : List Int), x = .ref q ∧ H' q = some (.tup (hs.map V.int)) ∧ Least (NdC rows) (wdt rows) hs) ∨ (x = .non ∧ ∀ g, ¬ Sol (NdC rows) (wdt rows) g)) → Q (.ref V0) H') ∧
  (∀ (V0 T q r : Addr) (ss g : List Nat) (H' : Hp), Same H H' → H' V0 = some (.tup [.str "ring", .ref T]) → H' T = some (.tup [.ref q, .ref r]) → H' q = some (.tup (iV ss)) → H' r = some (.tup (iV g)) → FstR rows (List.range rows.length) ss g → Q (.ref V0) H')
section
variable {P : Program} {w : World} {K : PySem.W.Frag} {mg : Str → Option Value} {base : Heap} {CShare CDivision CNoPerson : Addr}
abbrev st_verdict : Stmt := top 41
theorem sc_verdict : FnScope ["division", "found"] ["division"] (defScope st_verdict) := ⟨rfl, rfl, rfl, by decide +kernel, rfl, by decide +kernel, by decide +kernel⟩
theorem ok_verdict (c_ring : Cal P w K mg base 9 "ring" ["division"] (spRing CDivision CShare)) (c_levels : Cal P w K mg base 7 "levels" ["division"] (spLevels CDivision CShare)) (D : Df K mg "verdict" st_verdict ["division"]) : Cal P w K mg base 10 "verdict" ["division"] (spVerdict CDivision CShare) := by
  refine D.cal sc_verdict (fun vs H Q E h => ?_) (fun f cdv A out s H vs Q E hr h => ?_)
  · obtain ⟨d, t, ss, rows, rfl, _⟩ := h
    rfl
  obtain ⟨d, t, ss, rows, rfl, dv, kL, kR⟩ := h
  refine ⟨_, (pss_cons (ps_set (i := 1) sc_verdict.nd rfl (.inl rfl) (pe_fn c_ring (hr.mono (by decide)) (pa_cons (pv 0) pa_nil)))
   (pss_cons (ps_if (pt_cmpR op_isN (pv 1) pe_non (nomark _)) (pss_one (ps_ret (pe_tup (pa_cons pe_str (pa_cons (pe_fn c_levels (hr.mono (by decide)) (pa_cons (pv 0) pa_nil)) pa_nil))))) pss_nil)
   (pss_one (ps_ret (pe_tup (pa_cons pe_str (pa_cons (pv 1) pa_nil))))))), ?_⟩
  refine ⟨_, rfl, d, t, ss, rows, rfl, dv, fun H1 k1 no => ?_, fun T q r ss' g H1 k1 hT hq hr' fs => ?_⟩
  · refine ⟨_, rfl, rfl, _, rfl, iteT ?_⟩
    refine ⟨_, rfl, d, t, ss, rows, rfl, dv.same k1, fun l hs H2 k2 hl ls => ?_, fun H2 k2 ns => ?_⟩
    · refine ⟨(by show 2 ≤ sizeLine; decide), fun V0 hV => ?_⟩
      generalize hH3 : upd H2 V0 _ = H3
      obtain ⟨k3, e3⟩ := alloc hH3 hV
      clear hH3
      exact kL V0 _ H3 (k1.trans (k2.trans k3)) e3 no (.inl ⟨l, hs, rfl, k3 _ _ hl, ls⟩)
    · refine ⟨(by show 2 ≤ sizeLine; decide), fun V0 hV => ?_⟩
      generalize hH3 : upd H2 V0 _ = H3
      obtain ⟨k3, e3⟩ := alloc hH3 hV
      clear hH3
      exact kL V0 _ H3 (k1.trans (k2.trans k3)) e3 no (.inr ⟨rfl, ns⟩)
  · refine ⟨_, rfl, rfl, _, rfl, iteF ?_⟩
    refine ⟨_, rfl, (by show 2 ≤ sizeLine; decide), fun V0 hV => ?_⟩
    generalize hH3 : upd H1 V0 _ = H3
    obtain ⟨k3, e3⟩ := alloc hH3 hV
    clear hH3
    exact kR V0 T q r ss' g H3 (k1.trans k3) e3 (k3 _ _ hT) (k3 _ _ hq) (k3 _ _ hr') fs
end
end Pl
namespace Pl
open PySem PySem.Spec PyProof.Rows L2
def spIsPair (K : PySem.W.Frag) : Sp := fun vs H Q _ => ∃ x : V, vs = [x] ∧ ((∃ ty, TyX K H x ty ∧ PySem.W.kitOne K ty (.type "tuple") = some false ∧ Q (.bl false) H) ∨ (∃ (p : Addr) (xs : List V), x = .ref p ∧ H p = some (.tup xs) ∧ Q (.bl (decide (xs.length = 2))) H))
def spNums (K : PySem.W.Frag) : Sp := fun vs H Q _ => ∃ (x : V) (m : Int), vs = [x, .int m] ∧ ((∃ ty, TyX K H x ty ∧ PySem.W.kitOne K ty (.type "tuple") = some false ∧ Q (.bl false) H) ∨ (∃ (p : Addr) (xs : List V), x = .ref p ∧ H p = some (.tup xs) ∧ xs.length ≤ 100 ∧ (∀ y ∈ xs, Kd K H y) ∧ ∀ H', Same H H' → Q (.bl (xs.all (isTo (m - 1)))) H'))
theorem nums_iV {n : Nat} : ∀ {xs : List V}, xs.all (isTo ((n : Int) - 1)) = true ↔ ∃ ss : List Nat, xs = iV ss ∧ ∀ s ∈ ss, s < n
  | [] => ⟨fun _ => ⟨[], rfl, fun _ h => (nomatch h)⟩, fun _ => rfl⟩
  | x :: xs => by
    rw [List.all_cons, Bool.and_eq_true, nums_iV]
    constructor
    · rintro ⟨hx, ss, rfl, lt⟩
      cases x <;> first | (simp [isTo] at hx; done) | skip
      rename_i i
      have hi : 0 ≤ i ∧ i ≤ (n : Int) - 1 := by simpa [isTo] using hx
      refine ⟨i.toNat :: ss, ?_, fun s hs => ?_⟩
      · show V.int i :: _ = V.int ((i.toNat : Nat) : Int) :: _
        rw [show ((i.toNat : Nat) : Int) = i by omega]
        rfl
      · rcases List.mem_cons.mp hs with rfl | hs
        · omega
        · exact lt s hs
    · rintro ⟨ss, e, lt⟩
      cases ss with
      | nil => cases e
      | cons s ss =>
        obtain ⟨e1, e2⟩ := List.cons.inj e
        subst e1
        have ls := lt s List.mem_cons_self
        refine ⟨?_, ss, e2, fun t ht => lt t (List.mem_cons_of_mem _ ht)⟩
        simp only [isTo, Bool.and_eq_true, decide_eq_true_eq]
        omega
theorem perm_of_sub : ∀ {ks ns : List Int}, ks.Nodup → (∀ k ∈ ks, k ∈ ns) → ks.length = ns.length → ks.Perm ns
  | [], ns, _, _, l => by
    rw [List.length_eq_zero_iff.mp l.symm]
  | k :: ks, ns, nd, sub, l => by
    rw [List.nodup_cons] at nd
    have hk := sub k List.mem_cons_self
    have ih := perm_of_sub (ks := ks) (ns := ns.erase k) nd.2 (fun x hx => (List.mem_erase_of_ne (fun z => nd.1 (by rw [← z]; exact hx))).mpr (sub x (List.mem_cons_of_mem _ hx))) (by
      rw [List.length_erase_of_mem hk]
      have : ks.length + 1 = ns.length := l
      omega)
    exact (ih.cons k).trans (List.perm_cons_erase hk).symm
theorem len_set {ks ns : List Int} (nd : ks.Nodup) (m : ∀ k, k ∈ ks ↔ k ∈ ns) : ks.length = ns.length ↔ ns.Nodup := by
  constructor
  · intro l
    exact (perm_of_sub nd (fun k hk => (m k).mp hk) l).nodup_iff.mp nd
  · intro h
    exact ((List.perm_ext_iff_of_nodup nd h).mpr m).length_eq
theorem nI_nodup {l : List Nat} : (nI l).Nodup ↔ l.Nodup := by
  unfold nI
  rw [List.nodup_iff_pairwise_ne, List.nodup_iff_pairwise_ne, List.pairwise_map]
  constructor
  · exact fun h => h.imp fun {a b} z e => z (by rw [e])
  · exact fun h => h.imp fun {a b} z e => z (by omega)
/-- the two tuples are a ring -/
def RgX (rows : List (List Int)) (xs zs : List V) : Prop := ∃ ss g : List Nat, xs = iV ss ∧ zs = iV g ∧ IsRing rows (List.range rows.length) ss g
def NoTu (K : PySem.W.Frag) (H : Hp) (x : V) : Prop := ∃ ty, TyX K H x ty ∧ PySem.W.kitOne K ty (.type "tuple") = some false
def spShowR (K : PySem.W.Frag) (CD C : Addr) : Sp := fun vs H Q _ => ∃ (d t : Addr) (ss : List Addr) (rows : List (List Int)) (x : V), vs = [.ref d, x] ∧ DvAt CD C H d t ss rows ∧
  ((NoTu K H x ∧ Q (.bl false) H) ∨ (∃ (p : Addr) (xs : List V), x = .ref p ∧ H p = some (.tup xs) ∧ xs.length ≠ 2 ∧ Q (.bl false) H) ∨
   (∃ (p : Addr) (y z : V), x = .ref p ∧ H p = some (.tup [y, z]) ∧
     ((NoTu K H y ∧ Q (.bl false) H) ∨
      (∃ (q : Addr) (xs : List V), y = .ref q ∧ H q = some (.tup xs) ∧ xs.length ≤ 100 ∧ (∀ v ∈ xs, Kd K H v) ∧
        ((NoTu K H z ∧ ∀ H', Same H H' → Q (.bl false) H') ∨
         (∃ (r : Addr) (zs : List V), z = .ref r ∧ H r = some (.tup zs) ∧ zs.length ≤ 100 ∧ (∀ v ∈ zs, Kd K H v) ∧ ∀ (b : Bool) (H' : Hp), Same H H' → (b = true ↔ RgX rows xs zs) → Q (.bl b) H'))))))
theorem iV_inj {a b : List Nat} (h : iV a = iV b) : a = b := by
  rw [iV_eq, iV_eq] at h
  exact nI_inj ((List.map_inj_right (f := V.int) (fun _ _ h => V.int.inj h)).mp h)
theorem RgX.at {rows : List (List Int)} {ss g : List Nat} : RgX rows (iV ss) (iV g) ↔ IsRing rows (List.range rows.length) ss g := by
  constructor
  · rintro ⟨ss', g', e1, e2, ir⟩
    rw [iV_inj e1, iV_inj e2]
    exact ir
  · exact fun ir => ⟨ss, g, rfl, rfl, ir⟩
theorem RgX.nums {rows : List (List Int)} {xs zs : List V} (h : RgX rows xs zs) : xs.all (isTo ((wdt rows : Int) - 1)) = true ∧ zs.all (isTo ((rows.length : Int) - 1)) = true := by
  obtain ⟨ss, g, rfl, rfl, nd, lt, l1, lg, all, _⟩ := h
  refine ⟨nums_iV.mpr ⟨ss, rfl, lt⟩, nums_iV.mpr ⟨g, rfl, fun p hp => ?_⟩⟩
  obtain ⟨j, hj⟩ := List.mem_iff_getElem?.mp hp
  have lj : j < (stp ss).length := by
    rw [stp_len l1, ← lg]
    exact (List.getElem?_eq_some_iff.mp hj).1
  exact List.mem_range.mp (all j p (stp ss)[j].1 (stp ss)[j].2 hj (List.getElem?_eq_getElem lj)).1
section
variable {P : Program} {w : World} {K : PySem.W.Frag} {mg : Str → Option Value} {base : Heap} {CShare CDivision CNoPerson : Addr}
abbrev st_is_pair : Stmt := top 4
theorem sc_is_pair : FnScope ["thing"] ["thing"] (defScope st_is_pair) := ⟨rfl, rfl, rfl, by decide +kernel, rfl, by decide +kernel, by decide +kernel⟩
theorem ok_isPair (B : Bn mg) (D : Df K mg "is_pair" st_is_pair ["thing"]) : Cal P w K mg base 1 "is_pair" ["thing"] (spIsPair K) := by
  refine D.cal sc_is_pair (fun vs H Q E h => ?_) (fun f cdv A out s H vs Q E hr h => ?_)
  · obtain ⟨x, rfl, _⟩ := h
    rfl
  obtain ⟨x, rfl, h⟩ := h
  refine ⟨_, (pss_one (ps_ret (pe_and (pe_callB call_isi (by rfl) B.n_isinstance (by decide +kernel) (pa_cons (pv 0) (pa_cons (pe_bltn (v := .ty "tuple") (by rfl) B.n_tuple (by decide +kernel) rfl) pa_nil))) (pe_one (pe_cmpR op_eq (pe_callB call_len_seq (by rfl) B.n_len (by decide +kernel) (pa_cons (pv 0) pa_nil)) pe_int (nomark _)))))), ?_⟩
  rcases h with ⟨ty, tx, kt, k⟩ | ⟨p, xs, rfl, hp, k⟩
  · exact ⟨_, rfl, _, _, _, _, false, rfl, .ty _, tx, kt, _, rfl, iteF k⟩
  · refine ⟨_, rfl, _, _, _, _, true, rfl, .ty _, .base (.tup hp), kit_ty (by decide +kernel), _, rfl, iteT ?_⟩
    refine ⟨_, rfl, p, _, rfl, .inr (SqT.of hp), rfl, ?_⟩
    have e : decide (V.int (xs.length : Int) = V.int 2) = decide (xs.length = 2) := by
      by_cases c : xs.length = 2
      · rw [decide_eq_true c, decide_eq_true (by rw [c]; rfl)]
      · rw [decide_eq_false c, decide_eq_false (fun z => c (by have := V.int.inj z; omega))]
    rw [e]
    exact k
abbrev st_is_numbers : Stmt := top 44
theorem sc_is_numbers : FnScope ["thing", "many", "number"] ["thing", "many"] (defScope st_is_numbers) := ⟨rfl, rfl, rfl, by decide +kernel, rfl, by decide +kernel, by decide +kernel⟩
theorem ok_nums (B : Bn mg) (c_is_integer_to : Cal P w K mg base 2 "is_integer_to" ["thing", "most"] (spIsInt K)) (D : Df K mg "is_numbers" st_is_numbers ["thing", "many"]) : Cal P w K mg base 3 "is_numbers" ["thing", "many"] (spNums K) := by
  refine D.cal sc_is_numbers (fun vs H Q E h => ?_) (fun f cdv A out s H vs Q E hr h => ?_)
  · obtain ⟨x, m, rfl, _⟩ := h
    rfl
  obtain ⟨x, m, rfl, h⟩ := h
  refine ⟨_, (pss_one (ps_ret (pe_and (pe_callB call_isi (by rfl) B.n_isinstance (by decide +kernel) (pa_cons (pv 0) (pa_cons (pe_bltn (v := .ty "tuple") (by rfl) B.n_tuple (by decide +kernel) rfl) pa_nil))) (pe_one (pe_callB (cr_all rfl) (by rfl) B.n_all (by decide +kernel) (pa_cons (pe_lc (own := [("number", 2)]) (g := gName 2) rfl sc_is_numbers.nd (pi_tup (pv 0)) (blkOk_by (N := ["thing", "many", "number"]) (sc := defScope st_is_numbers) (by decide +kernel)) (fun _ _ _ _ _ => (pg_name (i := 2) sc_is_numbers.nd rfl (.inl rfl))) (fun _ _ _ _ _ => pts_nil) (fun _ _ _ _ _ => (pe_fn c_is_integer_to (hr.mono (by decide)) (pa_cons (pv 2) (pa_cons (pe_op op_sub (pv 1) pe_int) pa_nil))))) pa_nil)))))), ?_⟩
  rcases h with ⟨ty, tx, kt, k⟩ | ⟨p, xs, rfl, hp, l100, kd, k⟩
  · exact ⟨_, rfl, _, _, _, _, false, rfl, .ty _, tx, kt, _, rfl, iteF k⟩
  · refine ⟨_, rfl, _, _, _, _, true, rfl, .ty _, .base (.tup hp), kit_ty (by decide +kernel), _, rfl, iteT ?_⟩
    refine ⟨_, rfl, p, rfl, ⟨_, SqT.of hp⟩, fun D hD => lc_tup (K := K) (a := p) (xs := xs) (fun i H' => Same H H' ∧ H' D = some (.lst (((xs.take i).map (isTo (m - 1))).map V.bl))) ⟨same_new (Same.refl _) hD, upd_same⟩ (fun i H' _ q => SqT.of (q.1 _ _ hp)) (fun i x H' hx ⟨k1, h1⟩ => ⟨rfl, tyes ?_⟩) (fun H' ⟨k1, h1⟩ => ?_)⟩
    · have il := (List.getElem?_eq_some_iff.mp hx).1
      refine ⟨_, rfl, _, rfl, _, _, rfl, rfl, _, _, rfl, (kd x (List.mem_of_getElem? hx)).same k1, _, h1, size_lt' (by rw [List.length_map, List.length_map, List.length_take]; omega), same_put k1 hD, ?_⟩
      rw [upd_same, List.take_add_one, hx, List.map_append, List.map_append]
      rfl
    · rw [List.take_length] at h1
      refine ⟨D, _, rfl, SqL.of h1, ?_⟩
      have e : (xs.map (isTo (m - 1))).all id = xs.all (isTo (m - 1)) := by
        rw [List.all_map]
        rfl
      rw [e]
      exact k H' k1
abbrev st_shows_ring : Stmt := top 37
theorem sc_shows_ring : FnScope ["division", "thing", "states", "people", "steps", "rises", "person", "state", "second"] ["division", "thing"] (defScope st_shows_ring) := ⟨rfl, rfl, rfl, by decide +kernel, rfl, by decide +kernel, by decide +kernel⟩
theorem ok_showR (B : Bn mg) (n_set : mg "set" = none) (cSR : ∃ t, mg "SHORTEST_RING" = some (.int 2 t)) (SDivision : DvK K mg CDivision) (p_people : PCal P w K mg base 2 CDivision "people" ["self"] (spPeople CDivision CShare)) (p_states : PCal P w K mg base 4 CDivision "states" ["self"] (spStates CDivision CShare)) (c_check_division : Cal P w K mg base 1 "check_division" ["thing"] (spCheckD CDivision CShare)) (c_is_pair : Cal P w K mg base 1 "is_pair" ["thing"] (spIsPair K)) (c_is_numbers : Cal P w K mg base 3 "is_numbers" ["thing", "many"] (spNums K)) (c_steps_around : Cal P w K mg base 1 "steps_around" ["states"] spSteps) (c_rise : Cal P w K mg base 5 "rise" ["division", "person", "state", "second"] (spRise CDivision CShare)) (D : Df K mg "shows_ring" st_shows_ring ["division", "thing"]) : Cal P w K mg base 7 "shows_ring" ["division", "thing"] (spShowR K CDivision CShare) := by
  refine D.cal sc_shows_ring (fun vs H Q E h => ?_) (fun f cdv A out s H vs Q E hr h => ?_)
  · obtain ⟨d, t, ss, rows, x, rfl, _⟩ := h
    rfl
  obtain ⟨d, t, ss, rows, x, rfl, dv, h⟩ := h
  refine ⟨_, (pss_cons (ps_expr (pe_fn c_check_division (hr.mono (by decide)) (pa_cons (pv 0) pa_nil)))
   (pss_cons (ps_if (pt_not (pt_val (pe_fn c_is_pair (hr.mono (by decide)) (pa_cons (pv 1) pa_nil)))) (pss_one (ps_ret pe_bl)) pss_nil)
   (pss_cons (ps_asg (pv 1) (pg_tup rfl (pgs_cons (pg_name (i := 2) sc_shows_ring.nd rfl (.inl rfl)) (pgs_cons (pg_name (i := 3) sc_shows_ring.nd rfl (.inl rfl)) pgs_nil))))
   (pss_cons (ps_if (PW.pt (pw_or (pt_not (pt_val (pe_fn c_is_numbers (hr.mono (by decide)) (pa_cons (pv 2) (pa_cons (pe_pr p_states SDivision.cl (hr.mono (by decide)) (pv 0)) pa_nil))))) (pw_or1 (pt_not (pt_val (pe_fn c_is_numbers (hr.mono (by decide)) (pa_cons (pv 3) (pa_cons (pe_pr p_people SDivision.cl (hr.mono (by decide)) (pv 0)) pa_nil)))))))) (pss_one (ps_ret pe_bl)) pss_nil)
   (pss_cons (ps_if (PW.pt (pw_or (pt_cmpR op_lt (pe_callB call_len_seq (by rfl) B.n_len (by decide +kernel) (pa_cons (pv 2) pa_nil)) (pe_glob (v := .int 2) rfl cSR.choose_spec ⟨_, rfl⟩) (nomark _)) (pw_or (pt_cmpR op_ne (pe_callB call_len_seq (by rfl) B.n_len (by decide +kernel) (pa_cons (pv 2) pa_nil)) (pe_callB call_len_seq (by rfl) B.n_len (by decide +kernel) (pa_cons (pv 3) pa_nil)) (nomark _)) (pw_or1 (pt_cmpR op_ne (pe_callB call_len_seq (by rfl) B.n_len (by decide +kernel) (pa_cons (pv 2) pa_nil)) (pe_lenSetT (by rfl) B.n_len (by rfl) n_set (pv 2)) (nomark _)))))) (pss_one (ps_ret pe_bl)) pss_nil)
   (pss_cons (ps_set (i := 4) sc_shows_ring.nd rfl (.inl rfl) (pe_fn c_steps_around (hr.mono (by decide)) (pa_cons (pv 2) pa_nil)))
   (pss_cons (ps_setLc (i := 5) (own := [("person", 6), ("state", 7), ("second", 8)]) (g := gTup K 2 (gCons (gName 6) (gCons (gTup K 2 (gCons (gName 7) (gCons (gName 8) gNil))) gNil))) rfl sc_shows_ring.nd rfl rfl (sw_true rfl rfl rfl (by decide +kernel)) (pi_zipM (by rfl) B.n_zip (pa_cons (pv 3) (pa_cons (pv 4) pa_nil))) (blkOk_by (N := ["division", "thing", "states", "people", "steps", "rises", "person", "state", "second"]) (sc := defScope st_shows_ring) (by decide +kernel)) (fun _ _ _ _ _ => (pg_tup rfl (pgs_cons (pg_name (i := 6) sc_shows_ring.nd rfl (.inl rfl)) (pgs_cons (pg_tup rfl (pgs_cons (pg_name (i := 7) sc_shows_ring.nd rfl (.inl rfl)) (pgs_cons (pg_name (i := 8) sc_shows_ring.nd rfl (.inl rfl)) pgs_nil))) pgs_nil)))) (fun _ _ _ _ _ => pts_nil) (fun _ _ _ _ _ => (pe_fn c_rise (hr.mono (by decide)) (pa_cons (pv 0) (pa_cons (pv 6) (pa_cons (pv 7) (pa_cons (pv 8) pa_nil)))))))
   (pss_one (ps_ret (pe_and (pe_cmpR op_ge (pe_callB (cr_min rfl) (by rfl) B.n_min (by decide +kernel) (pa_cons (pv 5) pa_nil)) pe_int (nomark _)) (pe_one (pe_cmpR op_ge (pe_callB (cr_max rfl) (by rfl) B.n_max (by decide +kernel) (pa_cons (pv 5) pa_nil)) pe_int (nomark _))))))))))))), ?_⟩
  obtain ⟨⟨dx, hd⟩, ht, al, rw_⟩ := id dv
  obtain ⟨w2, w6⟩ := rw_.w26
  have p2 := rw_.1
  have p4 := rw_.2.1
  refine ⟨_, rfl, d, t, ss, rows, rfl, dv, ?_⟩
  rcases h with ⟨⟨ty, tx, kt⟩, k⟩ | ⟨p, xs, rfl, hp, ne, k⟩ | ⟨p, y, z, rfl, hp, h⟩
  · exact ⟨_, rfl, x, rfl, .inl ⟨ty, tx, kt, _, rfl, iteT k⟩⟩
  · refine ⟨_, rfl, _, rfl, .inr ⟨p, xs, rfl, hp, _, rfl, ?_⟩⟩
    rw [decide_eq_false ne]
    exact iteT k
  refine ⟨_, rfl, _, rfl, .inr ⟨p, _, rfl, hp, _, rfl, ?_⟩⟩
  refine iteF ?_
  refine ⟨_, rfl, p, _, rfl, SqT.of hp, rfl, _, _, rfl, _, _, rfl, rfl, ?_⟩
  rcases h with ⟨⟨ty, tx, kt⟩, k⟩ | ⟨q, xs, rfl, hq, l100, kd, h⟩
  · refine ⟨_, rfl, _, rfl, d, dx, _, rfl, hd, d, t, ss, rows, rfl, dv, fun ns0 hn0 => ?_⟩
    exact ⟨_, _, rfl, .inl ⟨ty, tx, kt, _, rfl, iteT k⟩⟩
  refine ⟨_, rfl, _, rfl, d, dx, _, rfl, hd, d, t, ss, rows, rfl, dv, fun ns0 hn0 => ?_⟩
  rw [rw_.wdt hn0]
  refine ⟨_, _, rfl, .inr ⟨q, xs, rfl, hq, l100, kd, fun H1 k1 => ?_⟩⟩
  cases e1 : xs.all (isTo ((wdt rows : Int) - 1)) with
  | false =>
    refine ⟨_, rfl, iteT ?_⟩
    rcases h with ⟨_, k⟩ | ⟨r, zs, rfl, hr1, _, _, k⟩
    · exact k H1 k1
    · refine k false H1 k1 ⟨fun z => (nomatch z), fun z => ?_⟩
      rw [z.nums.1] at e1
      cases e1
  | true =>
    refine ⟨_, rfl, iteF ?_⟩
    rcases h with ⟨⟨ty, tx, kt⟩, k⟩ | ⟨r, zs, rfl, hr1, z100, kz, k⟩
    · refine ⟨_, rfl, _, rfl, d, dx, _, rfl, k1 _ _ hd, d, t, ss, rows, rfl, dv.same k1, ?_⟩
      exact ⟨_, _, rfl, .inl ⟨ty, TyX.same k1 tx, kt, _, rfl, iteT (k H1 k1)⟩⟩
    refine ⟨_, rfl, _, rfl, d, dx, _, rfl, k1 _ _ hd, d, t, ss, rows, rfl, dv.same k1, ?_⟩
    refine ⟨_, _, rfl, .inr ⟨r, zs, rfl, k1 _ _ hr1, z100, fun v hv => (kz v hv).same k1, fun H2 k2 => ?_⟩⟩
    have k02 := k1.trans k2
    cases e2 : zs.all (isTo ((rows.length : Int) - 1)) with
    | false =>
      refine ⟨_, rfl, iteT (k false H2 k02 ⟨fun z => (nomatch z), fun z => ?_⟩)⟩
      rw [z.nums.2] at e2
      cases e2
    | true =>
      refine ⟨_, rfl, iteF ?_⟩
      obtain ⟨s1, rfl, lts⟩ := nums_iV.mp e1
      obtain ⟨g1, rfl, ltg⟩ := nums_iV.mp e2
      have hq2 := k02 _ _ hq
      have hr2 := k02 _ _ hr1
      have il := iV_len s1
      have ig := iV_len g1
      refine ⟨_, rfl, q, _, rfl, .inr (SqT.of hq2), _, _, rfl, rfl, _, rfl, ?_⟩
      have bad : ∀ H', Same H H' → ¬ IsRing rows (List.range rows.length) s1 g1 → Q (.bl false) H' := fun H' k' n => k false H' k' ⟨fun z => (nomatch z), fun z => absurd (RgX.at.mp z) n⟩
      refine ite2 (fun c => ?_) (fun c => ?_)
      · have c1 : ((iV s1).length : Int) < 2 := of_decide_eq_true c
        refine bad H2 k02 fun ir => ?_
        obtain ⟨_, _, l1, lg, all, _⟩ := ir
        have l1' : s1.length = 1 := by omega
        obtain ⟨s, rfl⟩ := List.length_eq_one_iff.mp l1'
        have l0 : 0 < g1.length := by rw [lg]; show 0 < 1; decide
        have z := (all 0 g1[0] s s (List.getElem?_eq_getElem l0) rfl).2
        unfold rs at z
        omega
      have c1 : 2 ≤ s1.length := by
        have : ¬ ((iV s1).length : Int) < 2 := fun z => c (decide_eq_true z)
        omega
      refine ⟨_, rfl, q, _, rfl, .inr (SqT.of hq2), _, rfl, r, _, rfl, .inr (SqT.of hr2), rfl, _, rfl, ?_⟩
      refine ite2 (fun c => ?_) (fun c => ?_)
      · refine bad H2 k02 fun ir => ?_
        have lg := ir.2.2.2.1
        rw [il, ig, lg] at c
        simp at c
      have c2 : g1.length = s1.length := by
        have z : V.int ((iV s1).length : Int) = V.int ((iV g1).length : Int) := by simpa using c
        have := V.int.inj z
        omega
      refine ⟨_, rfl, q, _, rfl, .inr (SqT.of hq2), _, rfl, q, nI s1, rfl, SqT.of (by rw [hq2, iV_eq]), by rw [nI_len]; omega, fun ks nd m => ?_⟩
      have ls := len_set nd m
      rw [nI_len, nI_nodup] at ls
      refine ⟨rfl, _, rfl, ?_⟩
      refine ite2 (fun c => ?_) (fun c => ?_)
      · refine bad H2 k02 fun ir => ?_
        have z := ls.mpr ir.1
        rw [il, z] at c
        simp at c
      have nds : s1.Nodup := by
        refine ls.mp ?_
        have z : V.int ((iV s1).length : Int) = V.int (ks.length : Int) := by simpa using c
        have := V.int.inj z
        omega
      have l6 := nodup_le nds lts
      have lst := stp_len (ss := s1) (by omega)
      refine ⟨_, rfl, q, s1, rfl, hq2, by omega, by omega, fun L ws H3 k3 hL st => ?_⟩
      have lw := st.len
      have k03 := k02.trans k3
      have hr3 := k3 _ _ hr2
      refine ⟨_, rfl, _, rfl, r, L, _, _, rfl, SqT.of hr3, SqL.of hL, fun D hD => lc_it (walk_zipM (K := K) (a := r) (b := L) (xs := iV g1) (ys := ws) (by rw [ig, lw, lst, c2])) (fun i H' => Same H3 H' ∧ ∃ us : List Int, H' D = some (.lst (us.map V.int)) ∧ us.length = i ∧ ∀ (j p a b : Nat), j < i → g1[j]? = some p → (stp s1)[j]? = some (a, b) → us[j]? = some (rs rows p a b)) ⟨same_new (Same.refl _) hD, [], upd_same, rfl, fun j _ _ _ hj => absurd hj (Nat.not_lt_zero j)⟩ (fun i H' _ r' => ⟨SqT.of (r'.1 _ _ hr3), SqL.of (r'.1 _ _ hL)⟩) ?_ (fun H4 q4 => ?_)⟩
      · rintro i x H4 H5 hi ⟨k4, us, h4, lu, ok⟩ ⟨T, x', y', rfl, nT, rfl, ex, ey⟩
        obtain ⟨p1, rfl, ep⟩ := iV_at ex
        obtain ⟨u, a, b, rfl, hu, en⟩ := st.at ey
        have la := lts a (stp_mem en).1
        have lb := lts b (stp_mem en).2
        have lp := ltg p1 (List.mem_of_getElem? ep)
        generalize hH5 : upd H4 T _ = H5
        obtain ⟨k5, hT⟩ := alloc hH5 nT
        clear hH5
        have k45 := k4.trans k5
        refine ⟨T, _, rfl, SqT.of hT, rfl, _, _, rfl, _, _, rfl, ⟨u, _, rfl, SqT.of (k45 _ _ hu), rfl, _, _, rfl, _, _, rfl, rfl, rfl, rfl, tyes ?_⟩⟩
        have li : i < g1.length := (List.getElem?_eq_some_iff.mp ep).1
        refine ⟨_, rfl, _, rfl, _, rfl, _, rfl, d, t, ss, rows, p1, a, b, rfl, dv.same (k03.trans k45), lp, fun ns hn => by rw [rw_.wdt hn]; exact ⟨la, lb⟩, ?_⟩
        refine ⟨_, k5 _ _ h4, size_lt' (by rw [List.length_map]; omega), same_put k45 hD, us ++ [rs rows p1 a b], by rw [upd_same, List.map_append]; rfl, by rw [List.length_append, lu]; rfl, fun j p a' b' hj ep' en' => ?_⟩
        by_cases z : j < i
        · rw [List.getElem?_append_left (by omega)]
          exact ok j p a' b' z ep' en'
        · have z : j = i := by omega
          subst z
          rw [ep] at ep'
          rw [en] at en'
          cases ep'
          cases en'
          rw [List.getElem?_append_right (by omega), lu, Nat.sub_self]
          rfl
      · obtain ⟨k4, us, h4, lu, ok⟩ := q4
        rw [ig] at lu ok
        have k04 := k03.trans k4
        have uat : ∀ (j p a b : Nat), g1[j]? = some p → (stp s1)[j]? = some (a, b) → us[j]? = some (rs rows p a b) := fun j p a b ep en => ok j p a b (List.getElem?_eq_some_iff.mp ep).1 ep en
        have umem : ∀ x ∈ us, ∃ (j p a b : Nat), g1[j]? = some p ∧ (stp s1)[j]? = some (a, b) ∧ x = rs rows p a b := fun x hx => by
          obtain ⟨j, hj⟩ := List.mem_iff_getElem?.mp hx
          have lj : j < us.length := (List.getElem?_eq_some_iff.mp hj).1
          have e1 : g1[j]? = some g1[j] := List.getElem?_eq_getElem (by omega)
          have e2 : (stp s1)[j]? = some (stp s1)[j] := List.getElem?_eq_getElem (by omega)
          have e3 := uat j _ _ _ e1 e2
          rw [hj] at e3
          exact ⟨j, _, _, _, e1, e2, Option.some.inj e3⟩
        refine ⟨_, rfl, D, us, rfl, SqL.of h4, by omega, fun mn hmn mnle => ?_⟩
        refine ⟨_, _, rfl, rfl, ?_⟩
        have base : IsRing rows (List.range rows.length) s1 g1 ↔ 1 ≤ mn ∧ ∃ x ∈ us, 2 ≤ x := by
          constructor
          · rintro ⟨_, _, _, _, all, j, p, a, b, ep, en, r2⟩
            obtain ⟨j', p', a', b', ep', en', e⟩ := umem mn hmn
            exact ⟨by rw [e]; exact (all j' p' a' b' ep' en').2, _, List.mem_of_getElem? (uat j p a b ep en), r2⟩
          · rintro ⟨m1, x, hx, x2⟩
            obtain ⟨j, p, a, b, ep, en, rfl⟩ := umem x hx
            exact ⟨nds, lts, by omega, c2, fun j' p' a' b' ep' en' => ⟨List.mem_range.mpr (ltg p' (List.mem_of_getElem? ep')), Int.le_trans m1 (mnle _ (List.mem_of_getElem? (uat j' p' a' b' ep' en')))⟩, j, p, a, b, ep, en, x2⟩
        refine ⟨_, rfl, ?_⟩
        cases em : decide (1 ≤ mn) with
        | false => exact iteF (bad H4 k04 fun ir => absurd (base.mp ir).1 (of_decide_eq_false em))
        | true =>
          refine iteT ⟨_, rfl, D, us, rfl, SqL.of h4, by omega, fun mx hmx mxge => ⟨_, _, rfl, rfl, k _ H4 k04 ?_⟩⟩
          rw [RgX.at, base, decide_eq_true_eq]
          constructor
          · intro z
            exact ⟨of_decide_eq_true em, mx, hmx, z⟩
          · rintro ⟨_, x, hx, x2⟩
            have := mxge x hx
            omega
end
end Pl
namespace Pl
open PySem PySem.Spec PyProof.Rows L2
















def sA (ss : List Nat) (i : Nat) : Nat := (ss[i]?).getD 0
def sB (ss : List Nat) (i : Nat) : Nat := (ss[(i + 1) % ss.length]?).getD 0
theorem sA_at {ss : List Nat} {i : Nat} (h : i < ss.length) : ss[i]? = some (sA ss i) := by
  unfold sA
  rw [List.getElem?_eq_getElem h]
  rfl
theorem sB_at {ss : List Nat} {i : Nat} (h : i < ss.length) : ss[(i + 1) % ss.length]? = some (sB ss i) := by
  unfold sB
  rw [List.getElem?_eq_getElem (Nat.mod_lt _ (by omega))]
  rfl
theorem stp_at {ss : List Nat} {i : Nat} (h : i < ss.length) : (stp ss)[i]? = some (sA ss i, sB ss i) := by
  unfold stp
  rw [List.getElem?_zip_eq_some]
  refine ⟨sA_at h, ?_⟩
  rw [← sB_at h]
  by_cases c : i + 1 < ss.length
  · rw [List.getElem?_append_left (by rw [List.length_drop]; omega), List.getElem?_drop, Nat.mod_eq_of_lt c, Nat.add_comm]
  · have e : i + 1 = ss.length := by omega
    rw [List.getElem?_append_right (by rw [List.length_drop]; omega), List.length_drop, e, Nat.mod_self, show i - (ss.length - 1) = 0 by omega, List.getElem?_take, if_pos (by decide)]







end Pl
namespace Pl
open PySem PySem.Spec PyProof.Rows L2










end Pl
namespace Pl
open PySem PySem.Spec PyProof.Rows L2





theorem IsRing.ppl {rows : List (List Int)} {ss g : List Nat} (h : IsRing rows (List.range rows.length) ss g) : ∀ p ∈ g, p < rows.length := fun x hx => by
  obtain ⟨nd, lt, l1, lg, all, _⟩ := h
  obtain ⟨j, hj⟩ := List.mem_iff_getElem?.mp hx
  have lj : j < ss.length := by rw [← lg]; exact (List.getElem?_eq_some_iff.mp hj).1
  exact List.mem_range.mp (all j x _ _ hj (stp_at lj)).1



def RgV (H : Hp) (rows : List (List Int)) (x : V) : Prop := (∃ (T q r : Addr) (ss g : List Nat), x = .ref T ∧ H T = some (.tup [.ref q, .ref r]) ∧ H q = some (.tup (iV ss)) ∧ H r = some (.tup (iV g)) ∧ FstR rows (List.range rows.length) ss g) ∨ (x = .non ∧ ∀ ss g, ¬ IsRing rows (List.range rows.length) ss g)


theorem rgsV {CD C : Addr} {vs : List V} {H : Hp} {Q : VK} {E : XK} (h : ∃ (d t : Addr) (ss : List Addr) (rows : List (List Int)), vs = [.ref d] ∧ DvAt CD C H d t ss rows ∧ ∀ (x : V) (H' : Hp), Same H H' → RgV H' rows x → Q x H') : spRing CD C vs H Q E := by
  obtain ⟨d, t, ss, rows, e, dv, k⟩ := h
  exact ⟨d, t, ss, rows, e, dv, fun H' k' no => k _ _ k' (.inr ⟨rfl, no⟩), fun T q r ss g H' k' hT hq hr fs => k _ _ k' (.inl ⟨T, q, r, ss, g, rfl, hT, hq, hr, fs⟩)⟩



end Pl
namespace Pl
open PySem PySem.Spec PyProof.Rows L2
/-- an amount of a division -/
def gR (rows : List (List Int)) (p v : Nat) : Int := (((rows[p]?).getD [])[v]?).getD 0
def Shp (n : Nat) (rows : List (List Int)) : Prop := ∀ ns ∈ rows, ns.length = n
theorem gR_at {rows : List (List Int)} {p v : Nat} {ns : List Int} {x : Int} (h : rows[p]? = some ns) (hx : ns[v]? = some x) : gR rows p v = x := by simp [gR, h, hx]
theorem gR_rs (rows : List (List Int)) (p s t : Nat) : rs rows p s t = gR rows p t - gR rows p s := rfl
/-- one amount more or less -/
def bmp (rows : List (List Int)) (p v : Nat) (d : Int) : List (List Int) := rows.set p (((rows[p]?).getD []).set v (gR rows p v + d))
theorem bmp_len (rows : List (List Int)) (p v : Nat) (d : Int) : (bmp rows p v d).length = rows.length := List.length_set
theorem bmp_shp {n : Nat} {rows : List (List Int)} (h : Shp n rows) (p v : Nat) (d : Int) : Shp n (bmp rows p v d) := fun ns hn => by
  unfold bmp at hn
  by_cases c : p < rows.length
  · rcases List.mem_or_eq_of_mem_set hn with z | z
    · exact h ns z
    · rw [z, List.length_set, List.getElem?_eq_getElem c]
      exact h _ (List.getElem_mem c)
  · rw [List.set_eq_of_length_le (by omega)] at hn
    exact h ns hn
theorem gR_bmp {n : Nat} {rows : List (List Int)} (h : Shp n rows) {p v : Nat} (lp : p < rows.length) (lv : v < n) (d : Int) (q u : Nat) : gR (bmp rows p v d) q u = gR rows q u + if p = q ∧ v = u then d else 0 := by
  have ep : rows[p]? = some rows[p] := List.getElem?_eq_getElem lp
  have ln := h _ (List.getElem_mem lp)
  by_cases c : p = q
  · subst c
    by_cases c2 : v = u
    · subst c2
      rw [if_pos ⟨rfl, rfl⟩]
      unfold bmp
      have e1 : (rows.set p (((rows[p]?).getD []).set v (gR rows p v + d)))[p]? = some (((rows[p]?).getD []).set v (gR rows p v + d)) := List.getElem?_set_self lp
      refine gR_at e1 ?_
      rw [ep]
      exact List.getElem?_set_self (by show v < rows[p].length; omega)
    · rw [if_neg (fun z => c2 z.2), Int.add_zero]
      unfold bmp
      have e1 : (rows.set p (((rows[p]?).getD []).set v (gR rows p v + d)))[p]? = some (((rows[p]?).getD []).set v (gR rows p v + d)) := List.getElem?_set_self lp
      show ((((rows.set p (((rows[p]?).getD []).set v (gR rows p v + d)))[p]?).getD [])[u]?).getD 0 = _
      rw [e1]
      show (((((rows[p]?).getD []).set v (gR rows p v + d))[u]?)).getD 0 = _
      rw [List.getElem?_set_ne c2]
      rfl
  · rw [if_neg (fun z => c z.1), Int.add_zero]
    unfold bmp
    show ((((rows.set p (((rows[p]?).getD []).set v (gR rows p v + d)))[q]?).getD [])[u]?).getD 0 = _
    rw [List.getElem?_set_ne c]
    rfl
/-- one step of an exchange: who, what gets one more, what one less -/
def ex1 (rows : List (List Int)) (e : Nat × Nat × Nat) : List (List Int) := bmp (bmp rows e.1 e.2.1 1) e.1 e.2.2 (-1)
def exs (rows : List (List Int)) (l : List (Nat × Nat × Nat)) : List (List Int) := l.foldl ex1 rows
theorem exs_snoc (rows : List (List Int)) (l : List (Nat × Nat × Nat)) (e : Nat × Nat × Nat) : exs rows (l ++ [e]) = ex1 (exs rows l) e := by unfold exs; rw [List.foldl_append]; rfl
theorem ex1_len (rows : List (List Int)) (e : Nat × Nat × Nat) : (ex1 rows e).length = rows.length := by unfold ex1; rw [bmp_len, bmp_len]
theorem ex1_shp {n : Nat} {rows : List (List Int)} (h : Shp n rows) (e : Nat × Nat × Nat) : Shp n (ex1 rows e) := bmp_shp (bmp_shp h _ _ _) _ _ _
theorem exs_len : ∀ (l : List (Nat × Nat × Nat)) (rows : List (List Int)), (exs rows l).length = rows.length
  | [], rows => rfl
  | e :: l, rows => (exs_len l (ex1 rows e)).trans (ex1_len rows e)
theorem exs_shp {n : Nat} : ∀ (l : List (Nat × Nat × Nat)) {rows : List (List Int)}, Shp n rows → Shp n (exs rows l)
  | [], rows, h => h
  | e :: l, rows, h => exs_shp l (ex1_shp h e)
def up (l : List (Nat × Nat × Nat)) (p v : Nat) : Nat := l.countP fun e => decide (e.1 = p ∧ e.2.1 = v)
def dn (l : List (Nat × Nat × Nat)) (p v : Nat) : Nat := l.countP fun e => decide (e.1 = p ∧ e.2.2 = v)
def InB (n m : Nat) (l : List (Nat × Nat × Nat)) : Prop := ∀ e ∈ l, e.1 < m ∧ e.2.1 < n ∧ e.2.2 < n
theorem gR_ex1 {n : Nat} {rows : List (List Int)} (h : Shp n rows) {e : Nat × Nat × Nat} (lp : e.1 < rows.length) (ls : e.2.1 < n) (lt : e.2.2 < n) (p v : Nat) : gR (ex1 rows e) p v = gR rows p v + (if e.1 = p ∧ e.2.1 = v then 1 else 0) - (if e.1 = p ∧ e.2.2 = v then 1 else 0) := by
  unfold ex1
  rw [gR_bmp (bmp_shp h _ _ _) (by rw [bmp_len]; exact lp) lt, gR_bmp h lp ls]
  split <;> split <;> omega
theorem gR_exs {n : Nat} : ∀ (l : List (Nat × Nat × Nat)) {rows : List (List Int)}, Shp n rows → InB n rows.length l → ∀ p v, gR (exs rows l) p v = gR rows p v + (up l p v : Int) - (dn l p v : Int)
  | [], rows, h, _, p, v => by
    show gR rows p v = _ + ((0 : Nat) : Int) - ((0 : Nat) : Int)
    omega
  | e :: l, rows, h, b, p, v => by
    obtain ⟨b1, b2, b3⟩ := b e List.mem_cons_self
    have ih := gR_exs l (ex1_shp h e) (fun x hx => by rw [ex1_len]; exact b x (List.mem_cons_of_mem _ hx)) p v
    show gR (exs (ex1 rows e) l) p v = _
    rw [ih, gR_ex1 h b1 b2 b3]
    unfold up dn
    rw [List.countP_cons, List.countP_cons]
    simp only [decide_eq_true_eq]
    split <;> split <;> omega
theorem zip_fst {ss g : List Nat} (l1 : 1 ≤ ss.length) (lg : g.length = ss.length) : (g.zip (stp ss)).map (fun e => e.2.1) = ss := by
  have e : (g.zip (stp ss)).map (fun e => e.2.1) = ((g.zip (stp ss)).map Prod.snd).map Prod.fst := by rw [List.map_map]; rfl
  rw [e, List.map_snd_zip (by rw [stp_len l1]; omega)]
  unfold stp
  exact List.map_fst_zip (by rw [List.length_append, List.length_drop, List.length_take]; omega)
theorem zip_snd {ss g : List Nat} (l1 : 1 ≤ ss.length) (lg : g.length = ss.length) : (g.zip (stp ss)).map (fun e => e.2.2) = ss.drop 1 ++ ss.take 1 := by
  have e : (g.zip (stp ss)).map (fun e => e.2.2) = ((g.zip (stp ss)).map Prod.snd).map Prod.snd := by rw [List.map_map]; rfl
  rw [e, List.map_snd_zip (by rw [stp_len l1]; omega)]
  unfold stp
  exact List.map_snd_zip (by rw [List.length_append, List.length_drop, List.length_take]; omega)
theorem rot_perm (ss : List Nat) : (ss.drop 1 ++ ss.take 1).Perm ss := by
  have z : (ss.take 1 ++ ss.drop 1).Perm ss := by rw [List.take_append_drop]
  exact List.perm_append_comm.trans z
theorem up_le {ss g : List Nat} (l1 : 1 ≤ ss.length) (lg : g.length = ss.length) (p v : Nat) : up (g.zip (stp ss)) p v ≤ ss.count v := by
  have e : ss.count v = (g.zip (stp ss)).countP (fun e => decide (e.2.1 = v)) := by
    conv => lhs; rw [← zip_fst l1 lg]
    rw [List.count_eq_countP, List.countP_map]
    refine List.countP_congr fun x _ => ?_
    simp
  rw [e]
  exact List.countP_mono_left fun x _ z => by
    have := of_decide_eq_true z
    exact decide_eq_true this.2
theorem dn_le {ss g : List Nat} (l1 : 1 ≤ ss.length) (lg : g.length = ss.length) (p v : Nat) : dn (g.zip (stp ss)) p v ≤ ss.count v := by
  have e : ss.count v = (g.zip (stp ss)).countP (fun e => decide (e.2.2 = v)) := by
    rw [← (rot_perm ss).count_eq v, ← zip_snd l1 lg, List.count_eq_countP, List.countP_map]
    refine List.countP_congr fun x _ => ?_
    simp
  rw [e]
  exact List.countP_mono_left fun x _ z => by
    have := of_decide_eq_true z
    exact decide_eq_true this.2
theorem zip_mem {ss g : List Nat} {e : Nat × Nat × Nat} (h : e ∈ g.zip (stp ss)) : ∃ i : Nat, g[i]? = some e.1 ∧ (stp ss)[i]? = some (e.2.1, e.2.2) := by
  obtain ⟨i, hi⟩ := List.mem_iff_getElem?.mp h
  obtain ⟨h1, h2⟩ := List.getElem?_zip_eq_some.mp hi
  exact ⟨i, h1, h2⟩
theorem IsRing.inB {rows : List (List Int)} {ss g : List Nat} (h : IsRing rows (List.range rows.length) ss g) : InB (wdt rows) rows.length (g.zip (stp ss)) := fun e he => by
  obtain ⟨nd, lt, l1, lg, all, _⟩ := h
  obtain ⟨i, h1, h2⟩ := zip_mem he
  exact ⟨List.mem_range.mp (all i _ _ _ h1 h2).1, lt _ (stp_mem h2).1, lt _ (stp_mem h2).2⟩
theorem Rows.shp {rows : List (List Int)} (h : Rows rows) : Shp (Pl.wdt rows) rows := fun ns hn => h.wdt hn
theorem gR_am {rows : List (List Int)} (h : Rows rows) {p v : Nat} (lp : p < rows.length) (lv : v < wdt rows) : 0 ≤ gR rows p v ∧ gR rows p v ≤ 30 := by
  have e1 : rows[p]? = some rows[p] := List.getElem?_eq_getElem lp
  have m := List.getElem_mem lp
  have ln := h.wdt m
  have e2 : rows[p][v]? = some rows[p][v] := List.getElem?_eq_getElem (by omega)
  rw [gR_at e1 e2]
  exact h.am _ m _ (List.getElem_mem _)
theorem ex_rows {rows : List (List Int)} {ss g : List Nat} (rw_ : Rows rows) (h : IsRing rows (List.range rows.length) ss g) : Rows (exs rows (g.zip (stp ss))) := by
  have ib := h.inB
  have sh := rw_.shp
  have sh2 := exs_shp (g.zip (stp ss)) sh
  have le := exs_len (g.zip (stp ss)) rows
  have gr := gR_exs (g.zip (stp ss)) sh ib
  obtain ⟨w2, w6⟩ := rw_.w26
  have am := fun {p v : Nat} (lp : p < rows.length) (lv : v < wdt rows) => gR_am rw_ lp lv
  obtain ⟨nd, lt, l1, lg, all, _⟩ := h
  have ul := fun p v => Nat.le_trans (up_le (g := g) l1 lg p v) (List.nodup_iff_count.mp nd v)
  have dl := fun p v => Nat.le_trans (dn_le (g := g) l1 lg p v) (List.nodup_iff_count.mp nd v)
  have p2 := rw_.1
  have p4 := rw_.2.1
  refine ⟨by omega, by omega, wdt rows, w2, w6, fun ns hn => ⟨sh2 ns hn, fun x hx => ?_⟩⟩
  obtain ⟨p, hp⟩ := List.mem_iff_getElem?.mp hn
  obtain ⟨v, hv⟩ := List.mem_iff_getElem?.mp hx
  have lp : p < rows.length := by rw [← le]; exact (List.getElem?_eq_some_iff.mp hp).1
  have lv : v < wdt rows := by rw [← sh2 ns hn]; exact (List.getElem?_eq_some_iff.mp hv).1
  have ex := gr p v
  rw [gR_at hp hv] at ex
  have u1 := ul p v
  have d1 := dl p v
  have a := am lp lv
  have hu : 0 < up (g.zip (stp ss)) p v → gR rows p v ≤ 29 := fun z => by
    obtain ⟨e, he, c⟩ := List.countP_pos_iff.mp z
    have c := of_decide_eq_true c
    obtain ⟨i, h1, h2⟩ := zip_mem he
    have r := (all i _ _ _ h1 h2).2
    have ib' := ib e he
    have a2 := am ib'.1 ib'.2.2
    rw [gR_rs, c.2] at r
    rw [c.1] at r a2
    omega
  have hd : 0 < dn (g.zip (stp ss)) p v → 1 ≤ gR rows p v := fun z => by
    obtain ⟨e, he, c⟩ := List.countP_pos_iff.mp z
    have c := of_decide_eq_true c
    obtain ⟨i, h1, h2⟩ := zip_mem he
    have r := (all i _ _ _ h1 h2).2
    have ib' := ib e he
    have a2 := am ib'.1 ib'.2.1
    rw [gR_rs, c.2] at r
    rw [c.1] at r a2
    omega
  omega






end Pl
namespace Pl
open PySem PySem.Spec PyProof.Rows L2
/-! the squares of all amounts fall with each exchange -/
def sqr (ns : List Int) : Int := (ns.map fun x => x * x).sum
def sqs (rows : List (List Int)) : Int := (rows.map sqr).sum
theorem sum_setG {α : Type} {f : α → Int} : ∀ {l : List α} {p : Nat} (lp : p < l.length) (x : α), ((l.set p x).map f).sum = (l.map f).sum + f x - f l[p]
  | r :: l, 0, lp, x => by
    show f x + (l.map f).sum = f r + (l.map f).sum + f x - f r
    omega
  | r :: l, p + 1, lp, x => by
    have ih := sum_setG (f := f) (l := l) (p := p) (by simpa using lp) x
    show f r + ((l.set p x).map f).sum = f r + (l.map f).sum + f x - f (l[p]'(by simpa using lp))
    omega
theorem sqr_nn : ∀ ns : List Int, 0 ≤ sqr ns
  | [] => Int.le_refl _
  | x :: ns => by
    have := sqr_nn ns
    have e : sqr (x :: ns) = x * x + sqr ns := by unfold sqr; simp
    have q := Int.natAbs_mul_self (a := x)
    omega
theorem sqs_nn : ∀ rows : List (List Int), 0 ≤ sqs rows
  | [] => Int.le_refl _
  | r :: rows => by
    have := sqs_nn rows
    have e : sqs (r :: rows) = sqr r + sqs rows := by unfold sqs; simp
    have := sqr_nn r
    omega
theorem sqs_bmp {n : Nat} {rows : List (List Int)} (h : Shp n rows) {p v : Nat} (lp : p < rows.length) (lv : v < n) (d : Int) : sqs (bmp rows p v d) = sqs rows + 2 * d * gR rows p v + d * d := by
  have ep : rows[p]? = some rows[p] := List.getElem?_eq_getElem lp
  have ln := h _ (List.getElem_mem lp)
  have lv' : v < rows[p].length := by omega
  have e : gR rows p v = rows[p][v] := gR_at ep (List.getElem?_eq_getElem lv')
  unfold sqs bmp
  rw [sum_setG lp, ep]
  show _ + sqr (rows[p].set v (gR rows p v + d)) - _ = _
  have e2 : sqr (rows[p].set v (gR rows p v + d)) = sqr rows[p] + (gR rows p v + d) * (gR rows p v + d) - rows[p][v] * rows[p][v] := by
    unfold sqr
    rw [sum_setG lv']
  rw [e2, e]
  generalize rows[p][v] = a
  have q : (a + d) * (a + d) = a * a + 2 * d * a + d * d := by
    rw [Int.add_mul, Int.mul_add, Int.mul_add, Int.mul_comm d a, Int.mul_assoc 2 d a, Int.mul_comm d a]
    omega
  rw [q]
  omega
theorem sqs_ex1 {n : Nat} {rows : List (List Int)} (h : Shp n rows) {e : Nat × Nat × Nat} (lp : e.1 < rows.length) (ls : e.2.1 < n) (lt : e.2.2 < n) (ne : e.2.1 ≠ e.2.2) : sqs (ex1 rows e) = sqs rows + 2 * gR rows e.1 e.2.1 - 2 * gR rows e.1 e.2.2 + 2 := by
  unfold ex1
  rw [sqs_bmp (bmp_shp h _ _ _) (by rw [bmp_len]; exact lp) lt, sqs_bmp h lp ls, gR_bmp h lp ls, if_neg (fun z => ne z.2)]
  omega
theorem cnt0 {l : List (Nat × Nat × Nat)} {p v : Nat} (h : v ∉ l.map fun e => e.2.1) : up l p v = 0 := by
  unfold up
  rw [List.countP_eq_zero]
  intro e he z
  exact h (List.mem_map.mpr ⟨e, he, (of_decide_eq_true z).2⟩)
theorem cnt1 {l : List (Nat × Nat × Nat)} {p v : Nat} (h : v ∉ l.map fun e => e.2.2) : dn l p v = 0 := by
  unfold dn
  rw [List.countP_eq_zero]
  intro e he z
  exact h (List.mem_map.mpr ⟨e, he, (of_decide_eq_true z).2⟩)
def gain (rows : List (List Int)) (e : Nat × Nat × Nat) : Int := gR rows e.1 e.2.2 - gR rows e.1 e.2.1
theorem sqs_take {n : Nat} {rows : List (List Int)} (h : Shp n rows) {l : List (Nat × Nat × Nat)} (b : InB n rows.length l) (n1 : (l.map fun e => e.2.1).Nodup) (n2 : (l.map fun e => e.2.2).Nodup) (g1 : ∀ e ∈ l, 1 ≤ gain rows e) : ∀ i, i ≤ l.length → sqs (exs rows (l.take i)) ≤ sqs rows + ((l.take i).map fun e => 2 - 2 * gain rows e).sum
  | 0, _ => by simp [exs]
  | i + 1, hi => by
    have ih := sqs_take h b n1 n2 g1 i (by omega)
    have li : i < l.length := by omega
    have et : l.take (i + 1) = l.take i ++ [l[i]] := by rw [List.take_add_one, List.getElem?_eq_getElem li]; rfl
    have me : l[i] ∈ l := List.getElem_mem li
    obtain ⟨b1, b2, b3⟩ := b _ me
    have sh := exs_shp (l.take i) h
    have bt : InB n rows.length (l.take i) := fun e he => b e (List.mem_of_mem_take he)
    have gr := gR_exs (l.take i) h bt
    have u0 : up (l.take i) l[i].1 l[i].2.1 = 0 := cnt0 fun z => by
      rw [List.map_take] at z
      obtain ⟨j, hj, ej⟩ := List.getElem_of_mem z
      rw [List.length_take, List.length_map] at hj
      rw [List.getElem_take, List.getElem_map] at ej
      have q := List.pairwise_iff_getElem.mp n1 j i (by rw [List.length_map]; omega) (by rw [List.length_map]; omega) (by omega)
      rw [List.getElem_map, List.getElem_map] at q
      exact q ej
    have d0 : dn (l.take i) l[i].1 l[i].2.2 = 0 := cnt1 fun z => by
      rw [List.map_take] at z
      obtain ⟨j, hj, ej⟩ := List.getElem_of_mem z
      rw [List.length_take, List.length_map] at hj
      rw [List.getElem_take, List.getElem_map] at ej
      have q := List.pairwise_iff_getElem.mp n2 j i (by rw [List.length_map]; omega) (by rw [List.length_map]; omega) (by omega)
      rw [List.getElem_map, List.getElem_map] at q
      exact q ej
    have g := g1 _ me
    have ne : l[i].2.1 ≠ l[i].2.2 := fun z => by
      unfold gain at g
      rw [z] at g
      omega
    have e1 := gr l[i].1 l[i].2.1
    have e2 := gr l[i].1 l[i].2.2
    rw [u0] at e1
    rw [d0] at e2
    rw [et, exs_snoc, sqs_ex1 sh (by rw [exs_len]; exact b1) b2 b3 ne, List.map_append, List.sum_append]
    show _ ≤ _ + (_ + ((2 - 2 * gain rows l[i]) + 0))
    have gd : gain rows l[i] = gR rows l[i].1 l[i].2.2 - gR rows l[i].1 l[i].2.1 := rfl
    omega
theorem sum_neg {l : List (Nat × Nat × Nat)} {rows : List (List Int)} (g1 : ∀ e ∈ l, 1 ≤ gain rows e) : (l.map fun e => 2 - 2 * gain rows e).sum ≤ 0 ∧ ((∃ e ∈ l, 2 ≤ gain rows e) → (l.map fun e => 2 - 2 * gain rows e).sum < 0) := by
  induction l with
  | nil => exact ⟨Int.le_refl _, fun ⟨e, he, _⟩ => nomatch he⟩
  | cons x l ih =>
    have q := g1 x List.mem_cons_self
    obtain ⟨i1, i2⟩ := ih fun e he => g1 e (List.mem_cons_of_mem _ he)
    have es : ((x :: l).map fun e => 2 - 2 * gain rows e).sum = (2 - 2 * gain rows x) + (l.map fun e => 2 - 2 * gain rows e).sum := rfl
    rw [es]
    refine ⟨by omega, ?_⟩
    rintro ⟨e, he, g2⟩
    rcases List.mem_cons.mp he with z | z
    · rw [z] at g2; omega
    · have := i2 ⟨e, z, g2⟩; omega
theorem IsRing.gain {rows : List (List Int)} {ss g : List Nat} (h : IsRing rows (List.range rows.length) ss g) : (∀ e ∈ g.zip (stp ss), 1 ≤ gain rows e) ∧ ∃ e ∈ g.zip (stp ss), 2 ≤ gain rows e := by
  obtain ⟨nd, lt, l1, lg, all, i, p, s, t, ep, es, r2⟩ := h
  refine ⟨fun e he => ?_, (p, s, t), ?_, r2⟩
  · obtain ⟨j, h1, h2⟩ := zip_mem he
    exact (all j _ _ _ h1 h2).2
  · exact List.mem_of_getElem? (List.getElem?_zip_eq_some.mpr ⟨ep, es⟩)
theorem sqs_less {rows : List (List Int)} {ss g : List Nat} (rw_ : Rows rows) (h : IsRing rows (List.range rows.length) ss g) : sqs (exs rows (g.zip (stp ss))) < sqs rows := by
  have gg := h.gain
  have z := sqs_take rw_.shp h.inB (by rw [zip_fst h.2.2.1 h.2.2.2.1]; exact h.1) (by rw [zip_snd h.2.2.1 h.2.2.2.1]; exact (rot_perm ss).nodup_iff.mpr h.1) gg.1 (g.zip (stp ss)).length (Nat.le_refl _)
  rw [List.take_length] at z
  have := (sum_neg gg.1).2 gg.2
  omega
/-- the rings one after another, and what stands at the end -/
inductive Sts : List (List Int) → List (List Nat × List Nat) → List (List Int) → Prop
  | done {rows : List (List Int)} : (∀ ss g, ¬ FstR rows (List.range rows.length) ss g) → Sts rows [] rows
  | step {rows r' : List (List Int)} {ss g : List Nat} {L : List (List Nat × List Nat)} : FstR rows (List.range rows.length) ss g → Sts (exs rows (g.zip (stp ss))) L r' → Sts rows ((ss, g) :: L) r'
theorem sts_ex : ∀ (n : Nat) (rows : List (List Int)), sqs rows < (n : Int) → Rows rows → ∃ L r', Sts rows L r' ∧ (L.length : Int) ≤ sqs rows
  | 0, rows, l, _ => by have := sqs_nn rows; omega
  | n + 1, rows, l, rw_ => by
    by_cases c : ∃ ss g, FstR rows (List.range rows.length) ss g
    · obtain ⟨ss, g, f⟩ := c
      have z := sqs_less rw_ f.1
      obtain ⟨L, r', s, ll⟩ := sts_ex n _ (by omega) (ex_rows rw_ f.1)
      exact ⟨_, r', .step f s, by rw [List.length_cons]; omega⟩
    · exact ⟨[], rows, .done fun ss g f => c ⟨ss, g, f⟩, sqs_nn rows⟩
theorem Rows.sts {rows : List (List Int)} (rw_ : Rows rows) : ∃ L r', Sts rows L r' ∧ (L.length : Int) ≤ sqs rows := sts_ex ((sqs rows).toNat + 1) rows (by have := sqs_nn rows; omega) rw_


end Pl
namespace Pl
open PySem PySem.Spec PyProof.Rows L2
/-- the rows of a grid, as lists -/
def LsAll (H : Hp) (ts : List Addr) (rows : List (List Int)) : Prop := ts.length = rows.length ∧ ∀ (j : Nat) (t : Addr) (ns : List Int), ts[j]? = some t → rows[j]? = some ns → H t = some (.lst (ns.map V.int))
theorem LsAll.same {H H' : Hp} {ts : List Addr} {rows : List (List Int)} (h : LsAll H ts rows) (k : Same H H') : LsAll H' ts rows := ⟨h.1, fun j t ns a b => k _ _ (h.2 j t ns a b)⟩
end Pl
namespace Pl
open PySem PySem.Spec PyProof.Rows L2

theorem refAt {ts : List Addr} {i : Nat} {x : V} (h : (ts.map V.ref)[i]? = some x) : ∃ t, x = .ref t ∧ ts[i]? = some t := by
  rw [List.getElem?_map] at h
  cases e : ts[i]? with
  | none => rw [e] at h; cases h
  | some t => rw [e] at h; exact ⟨t, (Option.some.inj h).symm, rfl⟩

theorem refsAt {ts : List Addr} {i : Nat} {t : Addr} (h : ts[i]? = some t) : atI (ts.map V.ref) (i : Int) = some (.ref t) := atI_nat (j := i) (by rw [List.getElem?_map, h]; rfl)

end Pl
namespace Pl
open PySem PySem.Spec PyProof.Rows L2
theorem nodup_ix {ts : List Addr} {i j : Nat} (nd : ts.Nodup) (li : i < ts.length) (lj : j < ts.length) (e : ts[i] = ts[j]) : i = j := by
  have pw := List.pairwise_iff_getElem.mp nd
  by_cases a : i < j
  · exact absurd e (pw i j li lj a)
  · by_cases b : j < i
    · exact absurd e.symm (pw j i lj li b)
    · omega
theorem LsAll.set {H : Hp} {ts : List Addr} {rows : List (List Int)} {p : Nat} {t : Addr} {ms : List Int} (h : LsAll H ts rows) (nd : ts.Nodup) (et : ts[p]? = some t) : LsAll (L2.upd H t (.lst (ms.map V.int))) ts (rows.set p ms) := by
  refine ⟨by rw [List.length_set]; exact h.1, fun j u ns hu hn => ?_⟩
  by_cases c : p = j
  · subst c
    rw [et] at hu
    cases hu
    have lp : p < rows.length := by rw [← h.1]; exact (List.getElem?_eq_some_iff.mp et).1
    rw [List.getElem?_set_self lp] at hn
    cases hn
    exact upd_same
  · rw [List.getElem?_set_ne c] at hn
    have ne : u ≠ t := fun z => by
      obtain ⟨l1, g1⟩ := List.getElem?_eq_some_iff.mp et
      obtain ⟨l2, g2⟩ := List.getElem?_eq_some_iff.mp hu
      exact c (nodup_ix nd l1 l2 (by rw [g1, g2, z]))
    rw [upd_ne ne]
    exact h.2 j u ns hu hn
theorem LsAll.bmp {H : Hp} {ts : List Addr} {rows : List (List Int)} {p a : Nat} {t : Addr} {ns : List Int} {x d : Int} (h : LsAll H ts rows) (nd : ts.Nodup) (et : ts[p]? = some t) (en : rows[p]? = some ns) (ex : ns[a]? = some x) : LsAll (L2.upd H t (.lst ((ns.map V.int).set a (.int (x + d))))) ts (Pl.bmp rows p a d) := by
  have e : Pl.bmp rows p a d = rows.set p (ns.set a (x + d)) := by
    unfold Pl.bmp
    rw [gR_at en ex, en]
    rfl
  rw [e, ← List.map_set]
  exact h.set nd et
theorem LsAll.put {H : Hp} {ts : List Addr} {rows : List (List Int)} {l : Addr} {o : HO} (h : LsAll H ts rows) (n : ∀ u ∈ ts, u ≠ l) : LsAll (L2.upd H l o) ts rows := ⟨h.1, fun j u ns a b => by rw [upd_ne (n u (List.mem_of_getElem? a))]; exact h.2 j u ns a b⟩
theorem LsAll.snoc {H : Hp} {ts : List Addr} {rows : List (List Int)} {i : Nat} {t : Addr} {ns : List Int} (h : LsAll H ts (rows.take i)) (en : rows[i]? = some ns) (e : H t = some (.lst (ns.map V.int))) : LsAll H (ts ++ [t]) (rows.take (i + 1)) := by
  have l := h.1
  rw [List.take_add_one, en]
  refine ⟨by rw [List.length_append, List.length_append, l]; rfl, fun j u ms hu hm => ?_⟩
  by_cases c : j < ts.length
  · rw [List.getElem?_append_left c] at hu
    rw [List.getElem?_append_left (by omega)] at hm
    exact h.2 j u ms hu hm
  · have lj := (List.getElem?_eq_some_iff.mp hu).1
    rw [List.length_append] at lj
    have lj : j < ts.length + 1 := lj
    have ej : j = ts.length := by omega
    subst ej
    rw [List.getElem?_append_right (Nat.le_refl _), Nat.sub_self] at hu
    rw [List.getElem?_append_right (by omega), l, Nat.sub_self] at hm
    cases hu
    cases hm
    exact e
theorem StL.put {H : Hp} {l : Addr} {ys : List V} {o : HO} (hl : H l = some (.lst ys)) : ∀ {vs : List V} {gs : List (Nat × Nat)}, StL H vs gs → StL (L2.upd H l o) vs gs
  | _, _, .nil => .nil
  | _, _, .cons h r => .cons (by rw [upd_ne (ne_of h hl (by intro z; cases z))]; exact h) (r.put hl)
theorem ixN_nat {n j : Nat} (hj : j < n) : ixN n (j : Int) = some j := by
  unfold ixN
  rw [if_pos (by omega), if_pos (by omega)]
  simp
theorem kdIV {K : PySem.W.Frag} {H : Hp} {l : List Nat} : ∀ v ∈ iV l, Kd K H v := fun v hv => by
  unfold iV at hv
  obtain ⟨x, _, rfl⟩ := List.mem_map.mp hv
  exact Kd.int _
def spExch (CD C : Addr) : Sp := fun vs H Q _ => ∃ (d t : Addr) (sd : List Addr) (rows : List (List Int)) (T q r : Addr) (ss g : List Nat), vs = [.ref d, .ref T] ∧ DvAt CD C H d t sd rows ∧ H T = some (.tup [.ref q, .ref r]) ∧ H q = some (.tup (iV ss)) ∧ H r = some (.tup (iV g)) ∧ IsRing rows (List.range rows.length) ss g ∧
  ∀ (d' t' : Addr) (sd' : List Addr) (H' : Hp), Same H H' → DvAt CD C H' d' t' sd' (exs rows (g.zip (stp ss))) → Q (.ref d') H'
section
variable {P : Program} {w : World} {K : PySem.W.Frag} {mg : Str → Option Value} {base : Heap} {CShare CDivision CNoPerson : Addr}
abbrev st_exchanged : Stmt := top 38
theorem sc_exchanged : FnScope ["division", "ring", "states", "people", "rows", "person", "state", "second", "shares", "share", "row"] ["division", "ring"] (defScope st_exchanged) := ⟨rfl, rfl, rfl, by decide +kernel, rfl, by decide +kernel, by decide +kernel⟩
theorem ok_exch (B : Bn mg) (SShare : ShK K mg CShare) (SDivision : DvK K mg CDivision) (p_amounts : PCal P w K mg base 2 CShare "amounts" ["self"] (getSp CShare "by_state")) (p_shares : PCal P w K mg base 2 CDivision "shares" ["self"] (getSp CDivision "by_person")) (m_initShare : MCal P w K mg base 4 CShare "__init__" ["self", "amounts"] (spInit CShare)) (m_initDivision : MCalR P w K mg base CX0 5 CDivision "__init__" (spStar (spDvInit CDivision CShare))) (c_shows_ring : Cal P w K mg base 7 "shows_ring" ["division", "thing"] (spShowR K CDivision CShare)) (c_steps_around : Cal P w K mg base 1 "steps_around" ["states"] spSteps) (D : Df K mg "exchanged" st_exchanged ["division", "ring"]) : Cal P w K mg base 8 "exchanged" ["division", "ring"] (spExch CDivision CShare) := by
  refine D.cal sc_exchanged (fun vs H Q E h => ?_) (fun f cdv A out s H vs Q E hr h => ?_)
  · obtain ⟨d, t, sd, rows, T, q, r, ss, g, rfl, _⟩ := h
    rfl
  obtain ⟨d, t, sd, rows, T, q, r, ss, g, rfl, dv, hT, hq, hr', ir, k⟩ := h
  refine ⟨_, (pss_cons (ps_if (pt_not (pt_val (pe_fn c_shows_ring (hr.mono (by decide)) (pa_cons (pv 0) (pa_cons (pv 1) pa_nil))))) (pss_one ps_never) pss_nil)
   (pss_cons (ps_asg (pv 1) (pg_tup rfl (pgs_cons (pg_name (i := 2) sc_exchanged.nd rfl (.inl rfl)) (pgs_cons (pg_name (i := 3) sc_exchanged.nd rfl (.inl rfl)) pgs_nil))))
   (pss_cons (ps_setLc (i := 4) (own := [("share", 9)]) (g := gName 9) rfl sc_exchanged.nd rfl rfl (sw_true rfl rfl rfl (by decide +kernel)) (pi_tup (pe_pr p_shares SDivision.cl (hr.mono (by decide)) (pv 0))) (blkOk_by (N := ["division", "ring", "states", "people", "rows", "person", "state", "second", "shares", "share", "row"]) (sc := defScope st_exchanged) (by decide +kernel)) (fun _ _ _ _ _ => (pg_name (i := 9) sc_exchanged.nd rfl (.inl rfl))) (fun _ _ _ _ _ => pts_nil) (fun _ _ _ _ _ => (pe_callTy (show CallR _ (.type "list") (rListOf K) from call_list_of) (by rfl) B.n_list (by decide +kernel) (pa_cons (pe_pr p_amounts SShare.cl (hr.mono (by decide)) (pv 9)) pa_nil))))
   (pss_cons (ps_for PassesOwn.never rfl (pi_zipM (by rfl) B.n_zip (pa_cons (pv 3) (pa_cons (pe_fn c_steps_around (hr.mono (by decide)) (pa_cons (pv 2) pa_nil)) pa_nil))) (pg_tup rfl (pgs_cons (pg_name (i := 5) sc_exchanged.nd rfl (.inl rfl)) (pgs_cons (pg_tup rfl (pgs_cons (pg_name (i := 6) sc_exchanged.nd rfl (.inl rfl)) (pgs_cons (pg_name (i := 7) sc_exchanged.nd rfl (.inl rfl)) pgs_nil))) pgs_nil)))
   (pss_cons (ps_augS (pe_ix ix_list (pv 4) (pv 5) (fun _ _ => rfl)) (pv 6) get_list pe_int ip_add set_list)
   (pss_one (ps_augS (pe_ix ix_list (pv 4) (pv 5) (fun _ _ => rfl)) (pv 7) get_list pe_int ip_sub set_list))))
   (pss_cons (ps_setLc (i := 8) (own := [("row", 10)]) (g := gName 10) rfl sc_exchanged.nd rfl rfl (sw_true rfl rfl rfl (by decide +kernel)) (pi_list (pv 4)) (blkOk_by (N := ["division", "ring", "states", "people", "rows", "person", "state", "second", "shares", "share", "row"]) (sc := defScope st_exchanged) (by decide +kernel)) (fun _ _ _ _ _ => (pg_name (i := 10) sc_exchanged.nd rfl (.inl rfl))) (fun _ _ _ _ _ => pts_nil) (fun _ _ _ _ _ => (pe_mk m_initShare SShare.mks SShare.kc SShare.mgC (hr.mono (by decide)) (pa_cons (pe_callTy (show CallR _ (.type "tuple") (rTupleOf K) from call_tuple_of) (by rfl) B.n_tuple (by decide +kernel) (pa_cons (pv 10) pa_nil)) pa_nil))))
   (pss_one (ps_ret (pe_mkS m_initDivision pass0 SDivision.mks SDivision.kc SDivision.mgC (hr.mono (by decide)) (pv 8))))))))), ?_⟩
  obtain ⟨⟨dx, hd⟩, ht, al, rw_⟩ := id dv
  have lp := ir.ppl
  obtain ⟨nd, lt, l1, lg, all, _⟩ := id ir
  have l6 := nodup_le nd lt
  obtain ⟨w2, w6⟩ := rw_.w26
  have p4 := rw_.2.1
  refine ⟨_, rfl, _, rfl, d, t, sd, rows, _, rfl, dv, .inr (.inr ⟨T, _, _, rfl, hT, .inr ⟨q, _, rfl, hq, by rw [iV_len]; omega, kdIV, .inr ⟨r, _, rfl, hr', by rw [iV_len]; omega, kdIV, fun b H1 k1 hb => ?_⟩⟩⟩)⟩
  have eb : b = true := hb.mpr (RgX.at.mpr ir)
  subst eb
  refine ⟨true, rfl, iteF ?_⟩
  refine ⟨_, rfl, T, _, rfl, SqT.of (k1 _ _ hT), rfl, _, _, rfl, _, _, rfl, rfl, ?_⟩
  have dv1 := dv.same k1
  have ln := al.len
  obtain ⟨⟨dx1, hd1⟩, ht1, al1, _⟩ := id dv1
  refine ⟨_, rfl, d, dx1, _, rfl, hd1, d, dx1, _, _, rfl, hd1, dvF_get t, t, rfl, ⟨_, SqT.of ht1⟩, fun L hL => lc_tup (K := K) (a := t) (xs := sd.map V.ref) (fun i H' => Same H1 H' ∧ ∃ ts : List Addr, H' L = some (.lst (ts.map V.ref)) ∧ LsAll H' ts (rows.take i) ∧ ts.Nodup ∧ ∀ u ∈ ts, u ≠ L ∧ H1 u = none) ⟨same_new (Same.refl _) hL, [], upd_same, ⟨by simp, fun j u ns z => by simp at z⟩, List.nodup_nil, fun u hu => (nomatch hu)⟩ (fun i H' _ z => SqT.of (z.1 _ _ ht1)) (fun i x H' hx z => ⟨rfl, tyes ?_⟩) (fun H2 z => ?_)⟩
  · obtain ⟨k2, ts, h2, ls, nt, fr_⟩ := z
    obtain ⟨s1, rfl, es⟩ := refAt hx
    obtain ⟨t1, ns, en, sh⟩ := al1.get es
    obtain ⟨⟨d1, a1⟩, a2, _⟩ := id sh
    refine ⟨_, rfl, s1, d1, _, rfl, k2 _ _ a1, s1, d1, _, _, rfl, k2 _ _ a1, shF_get t1, t1, _, rfl, .inr (SqT.of (k2 _ _ a2)), fun l hl => ?_⟩
    have lL : l ≠ L := fun e => by rw [e, h2] at hl; cases hl
    have nl : l ∉ ts := fun m => by
      obtain ⟨j, hj⟩ := List.mem_iff_getElem?.mp m
      have lj : j < (rows.take i).length := by rw [← ls.1]; exact (List.getElem?_eq_some_iff.mp hj).1
      rw [ls.2 j l _ hj (List.getElem?_eq_getElem lj)] at hl
      cases hl
    have hl1 : H1 l = none := by
      cases e : H1 l with
      | none => rfl
      | some o => rw [k2 _ _ e] at hl; cases hl
    generalize hH3 : upd H' l _ = H3
    obtain ⟨k3, e3⟩ := alloc hH3 hl
    clear hH3
    have h3 := k3 _ _ h2
    have li := (List.getElem?_eq_some_iff.mp en).1
    have lt_ := ls.1
    rw [List.length_take] at lt_
    have ne : ∀ u ∈ ts ++ [l], u ≠ L ∧ H1 u = none := fun u hu => by
      rcases List.mem_append.mp hu with m | m
      · exact fr_ u m
      · rw [List.mem_singleton.mp m]; exact ⟨lL, hl1⟩
    refine ⟨_, h3, size_lt' (by rw [List.length_map]; omega), same_put (k2.trans k3) hL, ts ++ [l], by rw [upd_same, List.map_append]; rfl, ((ls.same k3).snoc en e3).put fun u hu => (ne u hu).1, ?_, ne⟩
    rw [List.nodup_append]
    refine ⟨nt, by simp, fun a ha b hb e => nl ?_⟩
    rw [← List.mem_singleton.mp hb, ← e]
    exact ha
  obtain ⟨k2, ts, h2, ls, nt, fr_⟩ := z
  rw [List.length_map, ln, List.take_length] at ls
  have k12 := k1.trans k2
  refine ⟨_, rfl, _, rfl, q, ss, rfl, k12 _ _ hq, l1, by omega, fun Ls ws H3 k3 hLs st => ?_⟩
  have lw := st.len
  have lst := stp_len l1
  have k13 := k2.trans k3
  have nLs : ∀ u ∈ ts, u ≠ Ls := fun u hu e => by
    obtain ⟨j, hj⟩ := List.mem_iff_getElem?.mp hu
    have lj : j < rows.length := by rw [← ls.1]; exact (List.getElem?_eq_some_iff.mp hj).1
    have z := k3 _ _ (ls.2 j u _ hj (List.getElem?_eq_getElem lj))
    rw [e, hLs] at z
    have z : ws = rows[j].map V.int := by injection z with z; injection z
    have l0 : 0 < ws.length := by omega
    obtain ⟨u', a, b, e1, _⟩ := st.at (List.getElem?_eq_getElem l0)
    have z2 : (rows[j].map V.int)[0]? = some (.ref u') := by rw [← z, List.getElem?_eq_getElem l0, e1]
    rw [List.getElem?_map] at z2
    cases e2 : rows[j][0]? with
    | none => rw [e2] at z2; cases z2
    | some y => rw [e2] at z2; cases z2
  have hrH : ∀ {H' : Hp}, Same H1 H' → H' r = some (.tup (iV g)) := fun kk => kk _ _ (k1 _ _ hr')
  refine ⟨r, Ls, _, _, rfl, SqT.of (hrH k13), SqL.of hLs, for_it (walk_zipM (K := K) (a := r) (b := Ls) (xs := iV g) (ys := ws) (by rw [iV_len, lw, lst, lg])) (fun i σ H' => ∃ v5 v6 v7 : Option V, σ = [some (.ref d), some (.ref T), some (.ref q), some (.ref r), some (.ref L), v5, v6, v7, none, none, none] ∧ Same H1 H' ∧ H' L = some (.lst (ts.map V.ref)) ∧ LsAll H' ts (exs rows ((g.zip (stp ss)).take i)) ∧ H' Ls = some (.lst ws) ∧ StL H' ws (stp ss)) ⟨none, none, none, rfl, k13, k3 _ _ h2, ls.same k3, hLs, st⟩ (fun i σ H' _ ⟨_, _, _, _, z, _, _, hw, _⟩ => ⟨SqT.of (hrH z), SqL.of hw⟩) ?_ ?_⟩
  · rintro i x σ H4 H5 hi ⟨v5, v6, v7, rfl, k4, h4, ls4, hw4, st4⟩ ⟨T', x', y', rfl, nT, rfl, ex, ey⟩
    obtain ⟨p1, rfl, ep⟩ := iV_at ex
    obtain ⟨u, a, b, rfl, hu, en⟩ := st4.at ey
    have la := lt a (stp_mem en).1
    have lb := lt b (stp_mem en).2
    have lp1 := lp p1 (List.mem_of_getElem? ep)
    generalize hH5 : upd H4 T' _ = H5
    obtain ⟨k5, hT'⟩ := alloc hH5 nT
    clear hH5
    have eR := exs_snoc rows ((g.zip (stp ss)).take i) (p1, a, b)
    have eT : (g.zip (stp ss)).take (i + 1) = (g.zip (stp ss)).take i ++ [(p1, a, b)] := by
      have e9 : (g.zip (stp ss))[i]? = some (p1, a, b) := List.getElem?_zip_eq_some.mpr ⟨ep, en⟩
      rw [List.take_add_one, e9]
      rfl
    rw [← eT] at eR
    have lR := exs_len ((g.zip (stp ss)).take i) rows
    have sR := exs_shp ((g.zip (stp ss)).take i) rw_.shp
    generalize hR : exs rows ((g.zip (stp ss)).take i) = R at *
    refine ⟨T', _, rfl, SqT.of hT', rfl, _, _, rfl, _, _, rfl, ⟨u, _, rfl, SqT.of (k5 _ _ hu), rfl, _, _, rfl, _, _, rfl, rfl, rfl, ?_⟩⟩
    have lp2 : p1 < ts.length := by rw [ls4.1, lR]; exact lp1
    have lp3 : p1 < R.length := by rw [lR]; exact lp1
    have et : ts[p1]? = some ts[p1] := List.getElem?_eq_getElem lp2
    have mt := List.mem_of_getElem? et
    generalize ts[p1] = t1 at et mt
    have e1 : R[p1]? = some R[p1] := List.getElem?_eq_getElem lp3
    have ln1 := sR _ (List.mem_of_getElem? e1)
    generalize R[p1] = ns at e1 ln1
    have ga : ns[a]? = some ns[a] := List.getElem?_eq_getElem (by omega)
    generalize ns[a] = x1 at ga
    have h5 := k5 _ _ h4
    have ht1 := k5 _ _ (ls4.2 p1 t1 ns et e1)
    have k45 := k4.trans k5
    have gaV : (ns.map V.int)[((a : Nat) : Int).toNat]? = some (.int x1) := by rw [List.getElem?_map, show ((a : Nat) : Int).toNat = a by omega, ga]; rfl
    refine ⟨_, rfl, _, rfl, L, _, _, _, rfl, rfl, SqL.of h5, refsAt et, _, rfl, t1, _, _, _, rfl, rfl, SqL.of ht1, by omega, gaV, _, _, rfl, rfl, t1, _, _, a, rfl, rfl, ht1, ixN_nat (by rw [List.length_map]; omega), ?_⟩
    have ls5 := (ls4.same k5).bmp (d := 1) nt et e1 ga
    have tL : L ≠ t1 := fun e => (fr_ t1 mt).1 e.symm
    have tW : Ls ≠ t1 := fun e => nLs t1 mt e.symm
    have k6 : Same H1 (upd H5 t1 (.lst ((ns.map V.int).set a (.int (x1 + 1))))) := same_put k45 (fr_ t1 mt).2
    have h6 : (upd H5 t1 (.lst ((ns.map V.int).set a (.int (x1 + 1))))) L = some (.lst (ts.map V.ref)) := by rw [upd_ne tL]; exact h5
    have hw6 : (upd H5 t1 (.lst ((ns.map V.int).set a (.int (x1 + 1))))) Ls = some (.lst ws) := by rw [upd_ne tW]; exact k5 _ _ hw4
    have st6 := (st4.same k5).put (o := .lst ((ns.map V.int).set a (.int (x1 + 1)))) ht1
    generalize upd H5 t1 (.lst ((ns.map V.int).set a (.int (x1 + 1)))) = H6 at *
    have lp4 : p1 < (bmp R p1 a 1).length := by rw [bmp_len]; exact lp3
    have e2 : (bmp R p1 a 1)[p1]? = some (bmp R p1 a 1)[p1] := List.getElem?_eq_getElem lp4
    have ln2 := bmp_shp sR p1 a 1 _ (List.mem_of_getElem? e2)
    generalize (bmp R p1 a 1)[p1] = ms at e2 ln2
    have gb : ms[b]? = some ms[b] := List.getElem?_eq_getElem (by omega)
    generalize ms[b] = x2 at gb
    have ht2 := ls5.2 p1 t1 ms et e2
    have gbV : (ms.map V.int)[((b : Nat) : Int).toNat]? = some (.int x2) := by rw [List.getElem?_map, show ((b : Nat) : Int).toNat = b by omega, gb]; rfl
    refine ⟨_, rfl, _, rfl, L, _, _, _, rfl, rfl, SqL.of h6, refsAt et, _, rfl, t1, _, _, _, rfl, rfl, SqL.of ht2, by omega, gbV, _, _, rfl, rfl, t1, _, _, b, rfl, rfl, ht2, ixN_nat (by rw [List.length_map]; omega), ?_⟩
    have ls6 := ls5.bmp (d := -1) nt et e2 gb
    refine ⟨_, _, _, rfl, same_put k6 (fr_ t1 mt).2, by rw [upd_ne tL]; exact h6, ?_, by rw [upd_ne tW]; exact hw6, st6.put ht2⟩
    rw [eR]
    exact ls6
  · rintro σ H4 ⟨v5, v6, v7, rfl, k4, h4, ls4, hw4, st4⟩
    have el : (g.zip (stp ss)).take (iV g).length = g.zip (stp ss) := by
      rw [List.take_of_length_le]
      rw [List.length_zip, iV_len]
      omega
    rw [el] at ls4
    have rR := ex_rows rw_ ir
    generalize hR : exs rows (g.zip (stp ss)) = R at *
    have lR : R.length = rows.length := by rw [← hR, exs_len]
    refine ⟨_, rfl, L, rfl, ⟨_, SqL.of h4⟩, fun D hD => lc_list (K := K) (a := L) (xs := ts.map V.ref) (RInv CShare D H4 R) (RInv.start hD) (fun i H' _ z => SqL.of (z.1 _ _ h4)) (fun i x H' hx z => ⟨rfl, tyes ?_⟩) (fun H5 z => ?_)⟩
    · obtain ⟨t1, rfl, et⟩ := refAt hx
      have li : i < R.length := by rw [← ls4.1]; exact (List.getElem?_eq_some_iff.mp et).1
      have en : R[i]? = some R[i] := List.getElem?_eq_getElem li
      have m := List.mem_of_getElem? en
      generalize R[i] = ns at en m
      have ht1 := z.1 _ _ (ls4.2 i t1 ns et en)
      refine ⟨_, rfl, t1, _, rfl, .inl ⟨SqL.of ht1, fun l hl x dx nx nd nex => ?_⟩⟩
      exact mk_at nx nd upd_same (rR.l2 m) (rR.l6 m) (rR.am ns m) fun H6 k6 sh => z.next hD (by omega) en ((same_new (Same.refl _) hl).trans k6) sh
    · obtain ⟨k5, sd2, hD2, al2⟩ := z
      rw [List.length_map, ls4.1, List.take_length] at al2
      have l2 := al2.len
      refine ⟨_, rfl, D, _, rfl, .inr (SqL.of hD2), fun x dx nx nd nex => ⟨_, _, rfl, ?_, fun q' hq' => ?_⟩⟩
      · exact size_of (by rw [List.length_map]; omega)
      have s2 : Same H5 (upd (upd (upd H5 dx (.own x)) x (.ins CDivision dx [])) q' (.tup (sd2.map V.ref))) := same_new (same_new (same_new (Same.refl _) nd) (by rw [upd_ne (Ne.symm nex)]; exact nx)) hq'
      have xq : x ≠ q' := fun z => by rw [← z, upd_same] at hq'; cases hq'
      refine ⟨x, q', dx, sd2, R, rfl, by rw [upd_ne xq, upd_same], upd_same, al2.same s2, rR, fun H6 kp dv6 => ⟨rfl, k x q' sd2 H6 ?_ dv6⟩⟩
      have k15 : Same H H5 := k1.trans (k4.trans k5)
      exact fun b o z => kp b o (ne_of_none (k15 b o z) nx) (s2 b o (k15 b o z))
end
end Pl
namespace Pl
open PySem PySem.Spec PyProof.Rows L2 GenZ
/-- a ring, as it stands -/
def RgA (H : Hp) (x : V) (ss g : List Nat) : Prop := ∃ T q r : Addr, x = .ref T ∧ H T = some (.tup [.ref q, .ref r]) ∧ H q = some (.tup (iV ss)) ∧ H r = some (.tup (iV g))
theorem RgA.same {H H' : Hp} {x : V} {ss g : List Nat} (h : RgA H x ss g) (k : Same H H') : RgA H' x ss g := by
  obtain ⟨T, q, r, e, h1, h2, h3⟩ := h
  exact ⟨T, q, r, e, k _ _ h1, k _ _ h2, k _ _ h3⟩
inductive RgAs (H : Hp) : List V → List (List Nat × List Nat) → Prop
  | nil : RgAs H [] []
  | cons {x : V} {xs : List V} {ss g : List Nat} {L : List (List Nat × List Nat)} : RgA H x ss g → RgAs H xs L → RgAs H (x :: xs) ((ss, g) :: L)
theorem RgAs.same {H H' : Hp} (k : Same H H') : ∀ {xs : List V} {L : List (List Nat × List Nat)}, RgAs H xs L → RgAs H' xs L
  | _, _, .nil => .nil
  | _, _, .cons h t => .cons (h.same k) (t.same k)
theorem RgAs.snoc {H : Hp} {x : V} {ss g : List Nat} (h : RgA H x ss g) : ∀ {xs : List V} {L : List (List Nat × List Nat)}, RgAs H xs L → RgAs H (xs ++ [x]) (L ++ [(ss, g)])
  | _, _, .nil => .cons h .nil
  | _, _, .cons a t => .cons a (RgAs.snoc h t)
theorem RgAs.len {H : Hp} : ∀ {xs : List V} {L : List (List Nat × List Nat)}, RgAs H xs L → xs.length = L.length
  | _, _, .nil => rfl
  | _, _, .cons _ t => by rw [List.length_cons, List.length_cons, t.len]
theorem sum_top {f : Int → Int} {b : Int} : ∀ {l : List Int}, (∀ x ∈ l, f x ≤ b) → (l.map f).sum ≤ b * (l.length : Int)
  | [], _ => by simp
  | x :: l, h => by
    have h1 := h x List.mem_cons_self
    have h2 := sum_top (f := f) (b := b) (l := l) fun y hy => h y (List.mem_cons_of_mem _ hy)
    have e : b * (((x :: l).length : Nat) : Int) = b * (l.length : Int) + b := by rw [List.length_cons, Int.natCast_add, Int.mul_add]; simp
    rw [e, List.map_cons, List.sum_cons]
    omega
theorem sqr_le {ns : List Int} (am : ∀ x ∈ ns, 0 ≤ x ∧ x ≤ 30) (l : ns.length ≤ 6) : sqr ns ≤ 5400 := by
  have z := sum_top (f := fun x => x * x) (b := 900) (l := ns) fun x hx => by
    obtain ⟨a, b⟩ := am x hx
    have : x * x ≤ 30 * 30 := Int.mul_le_mul b b a (by decide)
    omega
  unfold sqr
  omega
theorem sqs_le {rows : List (List Int)} (rw_ : Rows rows) : sqs rows ≤ 21600 := by
  have w6 := rw_.w26.2
  have p4 := rw_.2.1
  have key : ∀ l : List (List Int), (∀ ns ∈ l, sqr ns ≤ 5400) → sqs l ≤ 5400 * (l.length : Int) := fun l => by
    induction l with
    | nil => intro _; exact Int.le_refl _
    | cons x l ih =>
      intro h
      have h1 := h x List.mem_cons_self
      have h2 := ih fun y hy => h y (List.mem_cons_of_mem _ hy)
      have e : sqs (x :: l) = sqr x + sqs l := by unfold sqs; simp
      rw [e, List.length_cons]
      omega
  have z := key rows fun ns hn => sqr_le (fun x hx => rw_.am ns hn x hx) (by rw [rw_.wdt hn]; exact w6)
  omega
def YdR (L : List (List Nat × List Nat)) (j : Nat) (x : V) (H : Hp) : Prop := ∃ (L1 : List (List Nat × List Nat)) (ss g : List Nat) (M : List (List Nat × List Nat)), L = L1 ++ (ss, g) :: M ∧ M.length = j ∧ RgA H x ss g
def EnR (r' : List (List Int)) (_ : Hp) : Prop := ∀ ss g, ¬ IsRing r' (List.range r'.length) ss g
def spGen (CD C : Addr) : SpG2 := fun vs H m Yd En => ∃ (d t : Addr) (sd : List Addr) (rows r' : List (List Int)) (L : List (List Nat × List Nat)), vs = [.ref d] ∧ DvAt CD C H d t sd rows ∧ Sts rows L r' ∧ m = L.length ∧ Yd = YdR L ∧ En = EnR r'
def spGenL (CD C : Addr) : SpG := fun vs H cont _ => ∃ (d t : Addr) (sd : List Addr) (rows : List (List Int)), vs = [.ref d] ∧ DvAt CD C H d t sd rows ∧
  ∀ (L : List (List Nat × List Nat)) (r' : List (List Int)) (xs : List V) (H' : Hp), Same H H' → Sts rows L r' → RgAs H' xs L → L.length ≤ 21600 → EnR r' H' → cont xs H'
def spSettled (CD C : Addr) : Sp := fun vs H Q _ => ∃ (d t : Addr) (sd : List Addr) (rows : List (List Int)), vs = [.ref d] ∧ DvAt CD C H d t sd rows ∧
  ∀ (L : List (List Nat × List Nat)) (r' : List (List Int)) (d' t' : Addr) (sd' : List Addr) (H' : Hp), Same H H' → Sts rows L r' → EnR r' H' → DvAt CD C H' d' t' sd' r' → Q (.ref d') H'
theorem app_len {α : Type} {a b c d : List α} (h : a ++ b = c ++ d) (l : b.length = d.length) : b = d := (List.append_inj' h l).2
section
variable {P : Program} {w : World} {K : PySem.W.Frag} {mg : Str → Option Value} {base : Heap} {CShare CDivision CNoPerson : Addr}
abbrev st_settle : Stmt := top 78
theorem sc_settle : GScope ["division", "now", "found"] ["division"] (defScope st_settle) := ⟨rfl, rfl, rfl, by decide +kernel, rfl, by decide +kernel, by decide +kernel⟩
theorem ok_settle (c_ring : Cal P w K mg base 9 "ring" ["division"] (spRing CDivision CShare)) (c_exchanged : Cal P w K mg base 8 "exchanged" ["division", "ring"] (spExch CDivision CShare)) (D : Df K mg "settle" st_settle ["division"]) : GCal P w K mg base 10 "settle" ["division"] (spGen CDivision CShare) := by
  refine D.gcal sc_settle (fun n y => rfl) (fun vs H m Yd En h => ?_) (fun f cdv A out n0 pn vs H m Yd En go hr h => ?_)
  · obtain ⟨d, t, sd, rows, r', L, rfl, _⟩ := h
    rfl
  obtain ⟨d, t, sd, rows, r', L, rfl, dv, st, rfl, rfl, rfl⟩ := h
  refine ⟨_, (gss2_cons (gs2_ps fun _ _ => (ps_set (i := 1) sc_settle.nd rfl (.inl rfl) (pv 0)))
   (gss2_cons (gs2_ps fun _ _ => (ps_set (i := 2) sc_settle.nd rfl (.inl rfl) (pe_fn c_ring (hr.mono (by decide)) (pa_cons (pv 1) pa_nil))))
   (gss2_cons (gs2_while (fun _ _ => (pt_cmpR op_notN (pv 2) pe_non (nomark _))) (gss2_cons (gs2_yield go (fun _ _ => (pv 2)) rfl rfl)
   (gss2_cons (gs2_ps fun _ _ => (ps_set (i := 1) sc_settle.nd rfl (.inl rfl) (pe_fn c_exchanged (hr.mono (by decide)) (pa_cons (pv 1) (pa_cons (pv 2) pa_nil)))))
   (gss2_cons (gs2_ps fun _ _ => (ps_set (i := 2) sc_settle.nd rfl (.inl rfl) (pe_fn c_ring (hr.mono (by decide)) (pa_cons (pv 1) pa_nil))))
   gss2_nil))))
   gss2_nil))), fun H2 k2 => ?_⟩
  refine ⟨_, rfl, ?_⟩
  refine ⟨_, rfl, ?_⟩
  try dsimp only [tNil]
  refine rgsV ⟨d, t, sd, rows, rfl, dv.same k2, fun v H3 k3 rg => ?_⟩
  refine ⟨fun j m Hw σ H' => j = m ∧ ∃ (M : List (List Nat × List Nat)) (rws : List (List Int)) (d' t' : Addr) (sd' : List Addr) (v : V), σ = [some (.ref d), some (.ref d'), some v] ∧ Same Hw H' ∧ DvAt CDivision CShare H' d' t' sd' rws ∧ RgV H' rws v ∧ Sts rws M r' ∧ M.length = m ∧ ∃ L1, L = L1 ++ M, ⟨_, rfl, L, rows, d, t, sd, v, rfl, k3, (dv.same k2).same k3, rg, st, rfl, [], rfl⟩, ?_⟩
  rintro j m Hw σ H' ⟨rfl, M, rws, d', t', sd', v, rfl, k, dv', rg, st', ml, L1, eL⟩
  rcases rg with ⟨T, q, r, ss, g, rfl, hT, hq, hr', fs⟩ | ⟨rfl, no⟩
  · cases st' with
    | done n => exact absurd fs (n _ _)
    | @step _ _ ss2 g2 M' f2 s2 =>
      obtain ⟨e1, e2⟩ := fs.uniq f2
      subst e1
      subst e2
      rw [List.length_cons] at ml
      subst ml
      refine ⟨_, rfl, rfl, _, rfl, iteT ?_⟩
      refine ⟨fun m' Hw' σ' H'' => m' < M'.length + 1 ∧ ∃ (M : List (List Nat × List Nat)) (rws : List (List Int)) (d' t' : Addr) (sd' : List Addr) (v : V), σ' = [some (.ref d), some (.ref d'), some v] ∧ Same Hw' H'' ∧ DvAt CDivision CShare H'' d' t' sd' rws ∧ RgV H'' rws v ∧ Sts rws M r' ∧ M.length = m' ∧ ∃ L1, L = L1 ++ M, fun m' Hw' σ' H'' ⟨lt, z⟩ => ⟨m', lt, rfl, z⟩, ?_⟩
      refine ⟨_, rfl, k, M'.length, rfl, ⟨L1, ss, g, M', eL, rfl, T, q, r, rfl, hT, hq, hr'⟩, fun H4 k4 => ?_⟩
      refine ⟨_, rfl, _, rfl, d', t', sd', rws, T, q, r, ss, g, rfl, dv'.same k4, k4 _ _ hT, k4 _ _ hq, k4 _ _ hr', fs.1, fun d2 t2 sd2 H5 k5 dv5 => ?_⟩
      refine ⟨_, rfl, ?_⟩
      try dsimp only [tNil]
      refine rgsV ⟨d2, t2, sd2, _, rfl, dv5, fun v2 H6 k6 rg6 => ?_⟩
      exact ⟨Nat.lt_succ_self _, M', _, d2, t2, sd2, v2, rfl, k5.trans k6, dv5.same k6, rg6, s2, rfl, L1 ++ [(ss, g)], by rw [eL, List.append_assoc]; rfl⟩
  · cases st' with
    | done n =>
      refine ⟨_, rfl, rfl, _, rfl, iteF ?_⟩
      exact ⟨ml.symm, k, no⟩
    | step f2 s2 => exact absurd f2.1 (no _ _)
theorem ok_settleL (c_ring : Cal P w K mg base 9 "ring" ["division"] (spRing CDivision CShare)) (c_exchanged : Cal P w K mg base 8 "exchanged" ["division", "ring"] (spExch CDivision CShare)) (D : Df K mg "settle" st_settle ["division"]) : CalL P w K mg base 10 "settle" ["division"] (spGenL CDivision CShare) := by
  refine D.gcalL sc_settle (fun vs H Q E h => ?_) (fun f cdv A out s H vs Q E pn hr h => ?_)
  · obtain ⟨d, t, sd, rows, rfl, _⟩ := h
    rfl
  obtain ⟨d, t, sd, rows, rfl, dv, kk⟩ := h
  have rw_ := dv.2.2.2
  obtain ⟨L, r', st, lL⟩ := rw_.sts
  have ls := sqs_le rw_
  refine ⟨_, (gss_cons (gs_ps (ps_set (i := 1) sc_settle.nd rfl (.inl rfl) (pv 0)))
   (gss_cons (gs_ps (ps_set (i := 2) sc_settle.nd rfl (.inl rfl) (pe_fn c_ring (hr.mono (by decide)) (pa_cons (pv 1) pa_nil))))
   (gss_cons (gs_while owns_gcx (pt_cmpR op_notN (pv 2) pe_non (nomark _)) (gss_cons (gs_yield (pv 2))
   (gss_cons (gs_ps (ps_set (i := 1) sc_settle.nd rfl (.inl rfl) (pe_fn c_exchanged (hr.mono (by decide)) (pa_cons (pv 1) (pa_cons (pv 2) pa_nil)))))
   (gss_cons (gs_ps (ps_set (i := 2) sc_settle.nd rfl (.inl rfl) (pe_fn c_ring (hr.mono (by decide)) (pa_cons (pv 1) pa_nil))))
   gss_nil))))
   gss_nil))), ?_⟩
  refine ⟨_, rfl, ?_⟩
  refine ⟨_, rfl, ?_⟩
  try dsimp only [tNil]
  refine rgsV ⟨d, t, sd, rows, rfl, dv, fun v H3 k3 rg => ?_⟩
  refine ⟨fun m ys σ H' => ∃ (L1 M : List (List Nat × List Nat)) (rws : List (List Int)) (d' t' : Addr) (sd' : List Addr) (v : V), σ = [some (.ref d), some (.ref d'), some v] ∧ Same H H' ∧ DvAt CDivision CShare H' d' t' sd' rws ∧ RgV H' rws v ∧ Sts rws M r' ∧ M.length = m ∧ L = L1 ++ M ∧ RgAs H' ys L1, ⟨L.length, [], L, rows, d, t, sd, v, rfl, k3, dv.same k3, rg, st, rfl, rfl, .nil⟩, ?_⟩
  rintro m ys σ H' ⟨L1, M, rws, d', t', sd', v, rfl, k, dv', rg, st', ml, eL, ra⟩
  rcases rg with ⟨T, q, r, ss, g, rfl, hT, hq, hr', fs⟩ | ⟨rfl, no⟩
  · cases st' with
    | done n => exact absurd fs (n _ _)
    | @step _ _ ss2 g2 M' f2 s2 =>
      obtain ⟨e1, e2⟩ := fs.uniq f2
      subst e1
      subst e2
      rw [List.length_cons] at ml
      subst ml
      refine ⟨_, rfl, rfl, _, rfl, iteT ?_⟩
      refine ⟨fun ys σ H' => ∃ (L1 : List (List Nat × List Nat)) (rws : List (List Int)) (d' t' : Addr) (sd' : List Addr) (v : V), σ = [some (.ref d), some (.ref d'), some v] ∧ Same H H' ∧ DvAt CDivision CShare H' d' t' sd' rws ∧ RgV H' rws v ∧ Sts rws M' r' ∧ L = L1 ++ M' ∧ RgAs H' ys L1, fun ys σ H' ⟨L1, rws, d', t', sd', v, e, k, dv, rg, st, eL, ra⟩ => ⟨M'.length, Nat.lt_succ_self _, L1, M', rws, d', t', sd', v, e, k, dv, rg, st, rfl, eL, ra⟩, ?_⟩
      have ly := ra.len
      have lt : L1.length + (M'.length + 1) = L.length := by rw [eL, List.length_append, List.length_cons]
      refine ⟨Nat.lt_of_lt_of_le (show ys.length < 1000000 by omega) (by decide), _, rfl, ?_⟩
      refine ⟨_, rfl, _, rfl, d', t', sd', rws, T, q, r, ss, g, rfl, dv', hT, hq, hr', fs.1, fun d2 t2 sd2 H5 k5 dv5 => ?_⟩
      refine ⟨_, rfl, ?_⟩
      try dsimp only [tNil]
      refine rgsV ⟨d2, t2, sd2, _, rfl, dv5, fun v2 H6 k6 rg6 => ?_⟩
      exact ⟨L1 ++ [(ss, g)], _, d2, t2, sd2, v2, rfl, k.trans (k5.trans k6), dv5.same k6, rg6, s2, by rw [eL, List.append_assoc]; rfl, RgAs.snoc (RgA.same ⟨T, q, r, rfl, hT, hq, hr'⟩ (k5.trans k6)) (ra.same (k5.trans k6))⟩
  · cases st' with
    | done n =>
      refine ⟨_, rfl, rfl, _, rfl, iteF ?_⟩
      rw [List.append_nil] at eL
      subst eL
      exact kk L r' ys H' k st ra (by omega) no
    | step f2 s2 => exact absurd f2.1 (no _ _)
abbrev st_settled : Stmt := top 79
theorem sc_settled : FnScope ["division", "now", "found"] ["division"] (defScope st_settled) := ⟨rfl, rfl, rfl, by decide +kernel, rfl, by decide +kernel, by decide +kernel⟩
theorem ok_settled (c_settle : GCal P w K mg base 10 "settle" ["division"] (spGen CDivision CShare)) (c_exchanged : Cal P w K mg base 8 "exchanged" ["division", "ring"] (spExch CDivision CShare)) (D : Df K mg "settled" st_settled ["division"]) : Cal P w K mg base 12 "settled" ["division"] (spSettled CDivision CShare) := by
  refine D.cal sc_settled (fun vs H Q E h => ?_) (fun f cdv A out s H vs Q E hr h => ?_)
  · obtain ⟨d, t, sd, rows, rfl, _⟩ := h
    rfl
  obtain ⟨d, t, sd, rows, rfl, dv, kk⟩ := h
  obtain ⟨L, r', st, lL⟩ := dv.2.2.2.sts
  refine ⟨_, (pss_cons (ps_set (i := 1) sc_settled.nd rfl (.inl rfl) (pv 0))
   (pss_cons (ps_forG rfl c_settle (hr.mono (by decide)) (pa_cons (pv 0) pa_nil) (pg_name (i := 2) sc_settled.nd rfl (.inl rfl))
   (pss_one (ps_set (i := 1) sc_settled.nd rfl (.inl rfl) (pe_fn c_exchanged (hr.mono (by decide)) (pa_cons (pv 1) (pa_cons (pv 2) pa_nil))))))
   (pss_one (ps_ret (pv 1))))), ?_⟩
  refine ⟨_, rfl, ?_⟩
  refine ⟨_, rfl, L.length, YdR L, EnR r', ⟨d, t, sd, rows, r', L, rfl, dv, st, rfl, rfl, rfl⟩, fun j σ H' => ∃ (M : List (List Nat × List Nat)) (rws : List (List Int)) (d' t' : Addr) (sd' : List Addr) (v2 : Option V), σ = [some (.ref d), some (.ref d'), v2] ∧ Same H H' ∧ DvAt CDivision CShare H' d' t' sd' rws ∧ Sts rws M r' ∧ M.length = j ∧ ∃ L1, L = L1 ++ M, ⟨L, rows, d, t, sd, none, rfl, Same.refl _, dv, st, rfl, [], rfl⟩, ?_, ?_⟩
  · rintro j σ H2 x H3 ⟨M, rws, d', t', sd', v2, rfl, k, dv', st', ml, L1, eL⟩ k3 ⟨L2, ss, g, M', eL2, ml', T, q, r, rfl, hT, hq, hr'⟩
    have e : M = (ss, g) :: M' := app_len (eL.symm.trans eL2) (by rw [List.length_cons, ml, ml'])
    subst e
    cases st' with
    | step f2 s2 =>
      refine ⟨_, rfl, _, rfl, d', t', sd', rws, T, q, r, ss, g, rfl, dv'.same k3, hT, hq, hr', f2.1, fun d2 t2 sd2 H5 k5 dv5 => ?_⟩
      exact ⟨k5, M', _, d2, t2, sd2, _, rfl, k.trans (k3.trans k5), dv5, s2, ml', L1 ++ [(ss, g)], by rw [eL, List.append_assoc]; rfl⟩
  · rintro σ H2 H3 ⟨M, rws, d', t', sd', v2, rfl, k, dv', st', ml, L1, eL⟩ k3 en
    have e := List.length_eq_zero_iff.mp ml
    subst e
    cases st' with
    | done n => exact ⟨_, rfl, kk L r' d' t' sd' H3 (k.trans k3) st en (dv'.same k3)⟩
end
end Pl
namespace Pl
/-! the steps of a path: plain mathematics -/
theorem sum_map_nonneg {f : Int → Int} (h : ∀ x, 0 ≤ f x) : ∀ l : List Int, 0 ≤ (l.map f).sum
  | [] => by simp
  | x :: l => by
    have a := h x
    have b := sum_map_nonneg h l
    simp only [List.map_cons, List.sum_cons]; omega
theorem sum_take_le {f : Int → Int} (h : ∀ x, 0 ≤ f x) (l : List Int) (k : Nat) : ((l.take k).map f).sum ≤ (l.map f).sum := by
  have e : l.map f = (l.take k).map f ++ (l.drop k).map f := by rw [← List.map_append, List.take_append_drop]
  rw [e, List.sum_append]
  have := sum_map_nonneg h (l.drop k)
  omega
theorem perm_sum_map {f : Int → Int} {l m : List Int} (h : l.Perm m) : (l.map f).sum = (m.map f).sum := perm_sum (h.map f)
theorem sum_sub_const (c : Int) : ∀ l : List Int, (l.map fun x => c - x).sum = c * l.length - l.sum
  | [] => by simp
  | x :: l => by
    simp only [List.map_cons, List.sum_cons, List.length_cons, sum_sub_const c l]
    have : ((l.length + 1 : Nat) : Int) = (l.length : Int) + 1 := by omega
    rw [this, Int.mul_add, Int.mul_one]; omega
theorem sum_le_map {f g : Int → Int} : ∀ {l : List Int}, (∀ x ∈ l, f x ≤ g x) → (l.map f).sum ≤ (l.map g).sum
  | [], _ => by simp
  | x :: l, h => by
    have a := h x List.mem_cons_self
    have b := sum_le_map (l := l) fun y hy => h y (List.mem_cons_of_mem _ hy)
    simp only [List.map_cons, List.sum_cons]; omega
theorem sum_map_congr {f g : Int → Int} : ∀ {l : List Int}, (∀ x ∈ l, f x = g x) → (l.map f).sum = (l.map g).sum := fun h => by
  rw [List.map_congr_left h]
theorem sum_zero : ∀ l : List Int, (l.map fun _ => (0 : Int)).sum = 0
  | [] => rfl
  | x :: l => by
    simp only [List.map_cons, List.sum_cons, sum_zero l]; rfl
theorem pairwise_get {s : List Int} (sd : s.Pairwise (· ≤ ·)) {i j : Nat} {x y : Int} (hij : i ≤ j) (hi : s[i]? = some x) (hj : s[j]? = some y) : x ≤ y := by
  rcases Nat.lt_or_eq_of_le hij with h | rfl
  · obtain ⟨a, e1⟩ := List.getElem?_eq_some_iff.mp hi
    obtain ⟨b, e2⟩ := List.getElem?_eq_some_iff.mp hj
    rw [← e1, ← e2]
    exact List.pairwise_iff_getElem.mp sd i j a b h
  · rw [hi] at hj
    rw [Option.some.inj hj]; exact Int.le_refl _
/-- the sum of the k smallest is at most that of any k -/
theorem take_srt_le {v : List Int} {k : Nat} (hk : k ≤ v.length) : ((srt v).take k).sum ≤ (v.take k).sum := by
  cases k with
  | zero => simp
  | succ k =>
    have sl := srt_length v
    obtain ⟨c, ec⟩ : ∃ c, (srt v)[k]? = some c := ⟨(srt v)[k]'(by omega), List.getElem?_eq_getElem (by omega)⟩
    have f0 : ∀ x : Int, 0 ≤ max 0 (c - x) := fun x => by omega
    have h1 : ((v.take (k + 1)).map fun x => c - x).sum ≤ ((v.take (k + 1)).map fun x => max 0 (c - x)).sum := sum_le_map fun x _ => by omega
    have h2 := sum_take_le (f := fun x => max 0 (c - x)) f0 v (k + 1)
    have h3 : (v.map fun x => max 0 (c - x)).sum = ((srt v).map fun x => max 0 (c - x)).sum := (perm_sum_map (srt_perm v)).symm
    have h4 : ((srt v).map fun x => max 0 (c - x)).sum = (((srt v).take (k + 1)).map fun x => c - x).sum := by
      have e : (srt v).map (fun x => max 0 (c - x)) = ((srt v).take (k + 1)).map (fun x => max 0 (c - x)) ++ ((srt v).drop (k + 1)).map (fun x => max 0 (c - x)) := by rw [← List.map_append, List.take_append_drop]
      rw [e, List.sum_append]
      have z : (((srt v).drop (k + 1)).map fun x => max 0 (c - x)).sum = 0 := by
        have : (((srt v).drop (k + 1)).map fun x => max 0 (c - x)).sum = (((srt v).drop (k + 1)).map fun _ => (0 : Int)).sum := sum_map_congr fun x hx => by
          obtain ⟨j, hj, e⟩ := List.getElem_of_mem hx
          have e2 : (srt v)[k + 1 + j]? = some x := by
            rw [← e, List.getElem_drop]
            exact List.getElem?_eq_getElem (by rw [List.length_drop] at hj; omega)
          have := pairwise_get (srt_sorted v) (by omega) ec e2
          omega
        rw [this]
        exact sum_zero _
      have y : (((srt v).take (k + 1)).map fun x => max 0 (c - x)).sum = (((srt v).take (k + 1)).map fun x => c - x).sum := sum_map_congr fun x hx => by
        obtain ⟨j, hj, e⟩ := List.getElem_of_mem hx
        have jl : j < k + 1 := by rw [List.length_take] at hj; omega
        have e2 : (srt v)[j]? = some x := by
          rw [← e, List.getElem_take]
          exact List.getElem?_eq_getElem (by omega)
        have := pairwise_get (srt_sorted v) (show j ≤ k by omega) e2 ec
        omega
      rw [z, y]; omega
    rw [sum_sub_const] at h1
    rw [h3, h4, sum_sub_const] at h2
    have l1 : (v.take (k + 1)).length = k + 1 := by rw [List.length_take]; omega
    have l2 : ((srt v).take (k + 1)).length = k + 1 := by rw [List.length_take]; omega
    rw [l1] at h1
    rw [l2] at h2
    omega
theorem sum_setM {f : Int → Int} : ∀ {l : List Int} {i : Nat} {x y : Int}, l[i]? = some x → ((l.set i y).map f).sum = (l.map f).sum - f x + f y
  | [], i, x, y, h => by simp at h
  | z :: l, 0, x, y, h => by
    obtain rfl : z = x := by simpa using h
    simp only [List.set_cons_zero, List.map_cons, List.sum_cons]; omega
  | z :: l, i + 1, x, y, h => by
    have := sum_setM (f := f) (l := l) (i := i) (x := x) (y := y) (by simpa using h)
    simp only [List.set_cons_succ, List.map_cons, List.sum_cons, this]; omega
theorem sum_take_set {l : List Int} {i : Nat} {x y : Int} (h : l[i]? = some x) (k : Nat) : ((l.set i y).take k).sum = (l.take k).sum + (if i < k then y - x else 0) := by
  rw [List.take_set]
  by_cases c : i < k
  · have e : (l.take k)[i]? = some x := by rw [List.getElem?_take_of_lt c]; exact h
    have z := sum_setM (f := id) (y := y) e
    simp only [List.map_id, id] at z
    rw [z, if_pos c]; omega
  · rw [List.set_eq_of_length_le (by rw [List.length_take]; omega), if_neg c]; omega
/-- the sum of the squares -/
def sq (l : List Int) : Int := (l.map fun x => x * x).sum
/-- p is the first place of difference, q the first behind it with more -/
structure PQ (a b : List Int) (p q : Nat) (x y : Int) : Prop where
  hx : a[p]? = some x
  hy : a[q]? = some y
  lt : p < q
  pd : ∀ z, b[p]? = some z → x ≠ z
  pe : ∀ i, i < p → a[i]? = b[i]?
  qd : ∀ z, b[q]? = some z → z < y
  qe : ∀ i u z, p < i → i < q → a[i]? = some u → b[i]? = some z → u ≤ z
/-- a can become b by steps: ascending both, b at least as calm -/
structure Gd (a b : List Int) : Prop where
  sa : a.Pairwise (· ≤ ·)
  sb : b.Pairwise (· ≤ ·)
  ln : a.length = b.length
  pre : ∀ k, (a.take k).sum ≤ (b.take k).sum
  tot : a.sum = b.sum
  ama : Am a
  amb : Am b
/-- the amounts behind one step -/
def stpM (a : List Int) (p q : Nat) (x y : Int) : List Int := srt ((a.set p (x + 1)).set q (y - 1))
theorem PQ.less {a b : List Int} {p q : Nat} {x y : Int} (g : Gd a b) (h : PQ a b p q x y) : ∃ z, b[p]? = some z ∧ x < z := by
  have pl : p < a.length := (List.getElem?_eq_some_iff.mp h.hx).1
  obtain ⟨z, hz⟩ : ∃ z, b[p]? = some z := ⟨b[p]'(by have := g.ln; omega), List.getElem?_eq_getElem _⟩
  refine ⟨z, hz, ?_⟩
  have e : a.take p = b.take p := by
    apply List.ext_getElem?
    intro i
    by_cases c : i < p
    · rw [List.getElem?_take_of_lt c, List.getElem?_take_of_lt c]; exact h.pe i c
    · rw [List.getElem?_take_eq_none (by omega), List.getElem?_take_eq_none (by omega)]
  have q1 := g.pre (p + 1)
  rw [List.take_add_one, List.take_add_one, h.hx, hz, e, List.sum_append, List.sum_append] at q1
  simp at q1
  have := h.pd z hz
  omega
end Pl
namespace Pl
theorem least_nat {Pr : Nat → Prop} [DecidablePred Pr] : ∀ {n : Nat}, Pr n → ∃ m, Pr m ∧ ∀ i, i < m → ¬ Pr i := by
  intro n
  induction n using Nat.strongRecOn with
  | _ n ih =>
    intro h
    by_cases c : ∃ m, m < n ∧ Pr m
    · obtain ⟨m, lt, hm⟩ := c
      exact ih m lt hm
    · exact ⟨n, h, fun i hi hp => c ⟨i, hi, hp⟩⟩
theorem Gd.pq {a b : List Int} (g : Gd a b) (ne : a ≠ b) : ∃ p q x y, PQ a b p q x y := by
  have d : ∃ i, i < a.length ∧ a[i]? ≠ b[i]? := by
    refine Classical.byContradiction fun z => ne ?_
    apply List.ext_getElem?
    intro i
    by_cases c : i < a.length
    · exact Classical.byContradiction fun y => z ⟨i, c, y⟩
    · rw [List.getElem?_eq_none (by omega), List.getElem?_eq_none (by have := g.ln; omega)]
  obtain ⟨i0, hi0⟩ := d
  obtain ⟨p, ⟨pl, pd⟩, pmin⟩ := least_nat (Pr := fun i => i < a.length ∧ a[i]? ≠ b[i]?) hi0
  have ex : a[p]? = some a[p] := List.getElem?_eq_getElem pl
  have pl2 : p < b.length := by have := g.ln; omega
  have ez : b[p]? = some b[p] := List.getElem?_eq_getElem pl2
  have pe : ∀ i, i < p → a[i]? = b[i]? := fun i hi => Classical.byContradiction fun y => pmin i hi ⟨by omega, y⟩
  have e : a.take p = b.take p := by
    apply List.ext_getElem?
    intro i
    by_cases c : i < p
    · rw [List.getElem?_take_of_lt c, List.getElem?_take_of_lt c]; exact pe i c
    · rw [List.getElem?_take_eq_none (by omega), List.getElem?_take_eq_none (by omega)]
  have neq : a[p] ≠ b[p] := fun z => pd (by rw [ex, ez, z])
  have lt : a[p] < b[p] := by
    have q1 := g.pre (p + 1)
    rw [List.take_add_one, List.take_add_one, ex, ez, e, List.sum_append, List.sum_append] at q1
    simp at q1
    omega
  -- somewhere behind p there is more
  have m : ∃ i, p < i ∧ ∃ u z, a[i]? = some u ∧ b[i]? = some z ∧ z < u := by
    refine Classical.byContradiction fun no => ?_
    have le : ∀ k, p + 1 ≤ k → k ≤ a.length → (a.take k).sum + 1 ≤ (b.take k).sum := by
      intro k
      induction k with
      | zero => intro h; omega
      | succ k ih =>
        intro h1 h2
        rw [List.take_add_one, List.take_add_one, List.sum_append, List.sum_append]
        have e1 : a[k]? = some (a[k]'(by omega)) := List.getElem?_eq_getElem _
        have e2 : b[k]? = some (b[k]'(by have := g.ln; omega)) := List.getElem?_eq_getElem _
        rcases Nat.lt_or_eq_of_le h1 with h | h
        · have := ih (by omega) (by omega)
          have c : a[k]'(by omega) ≤ b[k]'(by have := g.ln; omega) := by
            refine Classical.byContradiction fun y => no ⟨k, by omega, _, _, e1, e2, by omega⟩
          rw [e1, e2]
          simp
          omega
        · obtain rfl : p = k := by omega
          rw [e, ex, ez]
          simp
          omega
    have z := le a.length (by omega) (Nat.le_refl _)
    rw [List.take_length, g.ln, List.take_length] at z
    have := g.tot
    omega
  obtain ⟨i1, hi1⟩ := m
  have dec : DecidablePred fun i => p < i ∧ ∃ u z, a[i]? = some u ∧ b[i]? = some z ∧ z < u := fun _ => Classical.propDecidable _
  obtain ⟨q, ⟨ql, u, z, eu, ezz, uz⟩, qmin⟩ := least_nat (Pr := fun i => p < i ∧ ∃ u z, a[i]? = some u ∧ b[i]? = some z ∧ z < u) hi1
  refine ⟨p, q, a[p], u, ex, eu, ql, fun z hz => ?_, pe, fun w hw => ?_, fun i s t h1 h2 h3 h4 => ?_⟩
  · rw [ez] at hz
    rw [← Option.some.inj hz]
    exact neq
  · rw [ezz] at hw
    rw [← Option.some.inj hw]
    exact uz
  · refine Classical.byContradiction fun c => qmin i h2 ⟨h1, s, t, h3, h4, by omega⟩
/-- one step: still on the way, the squares' sum falls -/
theorem PQ.step {a b : List Int} {p q : Nat} {x y : Int} (g : Gd a b) (h : PQ a b p q x y) : Gd (stpM a p q x y) b ∧ sq (stpM a p q x y) + 2 ≤ sq a ∧ x + 2 ≤ y := by
  obtain ⟨z, hz, xz⟩ := h.less g
  have ql : q < a.length := (List.getElem?_eq_some_iff.mp h.hy).1
  have pl : p < a.length := (List.getElem?_eq_some_iff.mp h.hx).1
  obtain ⟨t, ht⟩ : ∃ t, b[q]? = some t := ⟨b[q]'(by have := g.ln; omega), List.getElem?_eq_getElem _⟩
  have ty := h.qd t ht
  have zt : z ≤ t := pairwise_get g.sb (by have := h.lt; omega) hz ht
  have hy2 : (a.set p (x + 1))[q]? = some y := by rw [List.getElem?_set_ne (by have := h.lt; omega)]; exact h.hy
  have vl : ((a.set p (x + 1)).set q (y - 1)).length = a.length := by simp
  have takes : ∀ k, (((a.set p (x + 1)).set q (y - 1)).take k).sum = (a.take k).sum + (if p < k then 1 else 0) - (if q < k then 1 else 0) := by
    intro k
    rw [sum_take_set hy2, sum_take_set h.hx]
    split <;> split <;> omega
  have mid : ∀ k, p < k → k ≤ q → (a.take k).sum + 1 ≤ (b.take k).sum := by
    intro k
    induction k with
    | zero => intro h1; omega
    | succ k ih =>
      intro h1 h2
      rw [List.take_add_one, List.take_add_one, List.sum_append, List.sum_append]
      have e1 : a[k]? = some (a[k]'(by omega)) := List.getElem?_eq_getElem _
      have e2 : b[k]? = some (b[k]'(by have := g.ln; omega)) := List.getElem?_eq_getElem _
      rcases Nat.lt_or_ge p k with c | c
      · have i1 := ih c (by omega)
        have i2 := h.qe k _ _ c (by omega) e1 e2
        rw [e1, e2]
        simp
        omega
      · obtain rfl : p = k := by omega
        have e : a.take p = b.take p := by
          apply List.ext_getElem?
          intro i
          by_cases c : i < p
          · rw [List.getElem?_take_of_lt c, List.getElem?_take_of_lt c]; exact h.pe i c
          · rw [List.getElem?_take_eq_none (by omega), List.getElem?_take_eq_none (by omega)]
        rw [e, h.hx, hz]
        simp
        omega
  have pre : ∀ k, (((a.set p (x + 1)).set q (y - 1)).take k).sum ≤ (b.take k).sum := by
    intro k
    rw [takes k]
    have g1 := g.pre k
    have hpq := h.lt
    by_cases c1 : p < k
    · by_cases c2 : q < k
      · rw [if_pos c1, if_pos c2]; omega
      · have := mid k c1 (by omega)
        rw [if_pos c1, if_neg c2]; omega
    · rw [if_neg c1, if_neg (by omega)]; omega
  have ama := g.ama
  have amb := g.amb
  have bx := ama x (List.mem_of_getElem? h.hx)
  have by' := ama y (List.mem_of_getElem? h.hy)
  have bz := amb z (List.mem_of_getElem? hz)
  have bt := amb t (List.mem_of_getElem? ht)
  have amv : Am ((a.set p (x + 1)).set q (y - 1)) := am_set (am_set ama (by omega) (by omega)) (by omega) (by omega)
  refine ⟨⟨srt_sorted _, g.sb, by unfold stpM; rw [srt_length, vl]; exact g.ln, fun k => ?_, ?_, fun r hr => amv r ((srt_perm _).mem_iff.mp hr), amb⟩, ?_, by omega⟩
  · by_cases c : k ≤ a.length
    · exact Int.le_trans (take_srt_le (by rw [vl]; exact c)) (pre k)
    · have e1 : (stpM a p q x y).take k = (stpM a p q x y).take a.length := by
        rw [List.take_of_length_le (by unfold stpM; rw [srt_length, vl]; omega), List.take_of_length_le (by unfold stpM; rw [srt_length, vl]; omega)]
      have e2 : b.take k = b.take a.length := by rw [List.take_of_length_le (by have := g.ln; omega), List.take_of_length_le (by have := g.ln; omega)]
      rw [e1, e2]
      exact Int.le_trans (take_srt_le (by rw [vl]; exact Nat.le_refl _)) (pre _)
  · have e : (stpM a p q x y).sum = ((a.set p (x + 1)).set q (y - 1)).sum := perm_sum (srt_perm _)
    have z := takes a.length
    rw [List.take_of_length_le (by rw [vl]; exact Nat.le_refl _), List.take_length, if_pos pl, if_pos ql] at z
    rw [e, z, ← g.tot]; omega
  · have e : sq (stpM a p q x y) = sq ((a.set p (x + 1)).set q (y - 1)) := perm_sum_map (srt_perm _)
    have z1 := sum_setM (f := fun x => x * x) (y := y - 1) hy2
    have z2 := sum_setM (f := fun x => x * x) (y := x + 1) h.hx
    have z3 : sq ((a.set p (x + 1)).set q (y - 1)) = sq a - x * x + (x + 1) * (x + 1) - y * y + (y - 1) * (y - 1) := by
      unfold sq
      rw [z1, z2]
    have a1 : (x + 1) * (x + 1) = x * x + 2 * x + 1 := by rw [Int.add_mul, Int.mul_add]; omega
    have a2 : (y - 1) * (y - 1) = y * y - 2 * y + 1 := by rw [Int.sub_mul, Int.mul_sub]; omega
    rw [e, z3, a1, a2]
    omega
theorem PQ.uniq {a b : List Int} {p q p' q' : Nat} {x y x' y' : Int} (ln : a.length = b.length) (h : PQ a b p q x y) (h' : PQ a b p' q' x' y') : p = p' ∧ q = q' ∧ x = x' ∧ y = y' := by
  have pp : p = p' := by
    have g1 : ∀ {p q p' q' : Nat} {x y x' y' : Int}, PQ a b p q x y → PQ a b p' q' x' y' → ¬ p < p' := by
      intro p q p' q' x y x' y' k k' c
      have e := k'.pe p c
      rw [k.hx] at e
      exact k.pd x e.symm rfl
    have a1 := g1 h h'
    have a2 := g1 h' h
    omega
  subst pp
  have qq : q = q' := by
    have g1 : ∀ {q q' : Nat} {x y x' y' : Int}, PQ a b p q x y → PQ a b p q' x' y' → ¬ q < q' := by
      intro q q' x y x' y' k k' c
      have ql : q < a.length := (List.getElem?_eq_some_iff.mp k.hy).1
      have ht : b[q]? = some (b[q]'(by omega)) := List.getElem?_eq_getElem _
      have a1 := k.qd _ ht
      have a2 := k'.qe q _ _ k.lt c k.hy ht
      omega
    have a1 := g1 h h'
    have a2 := g1 h' h
    omega
  subst qq
  refine ⟨rfl, rfl, ?_, ?_⟩
  · have := h.hx.symm.trans h'.hx
    exact Option.some.inj this
  · have := h.hy.symm.trans h'.hy
    exact Option.some.inj this
end Pl
namespace Pl
open PySem PySem.Spec PyProof.Rows L2
noncomputable def nxt (a b : List Int) : List Int := Classical.epsilon fun c => ∃ p q x y, PQ a b p q x y ∧ c = stpM a p q x y
theorem nxt_eq {a b : List Int} {p q : Nat} {x y : Int} (ln : a.length = b.length) (h : PQ a b p q x y) : nxt a b = stpM a p q x y := by
  obtain ⟨p', q', x', y', h', e⟩ := Classical.epsilon_spec (p := fun c => ∃ p q x y, PQ a b p q x y ∧ c = stpM a p q x y) ⟨_, p, q, x, y, h, rfl⟩
  obtain ⟨rfl, rfl, rfl, rfl⟩ := h.uniq ln h'
  exact e
/-- the amounts behind k steps -/
noncomputable def it (a b : List Int) : Nat → List Int
  | 0 => a
  | k + 1 => nxt (it a b k) b
/-- b is reached with the k-th step, not earlier -/
def Fin (a b : List Int) (k : Nat) : Prop := it a b k = b ∧ ∀ j, j < k → it a b j ≠ b

theorem gd_it {a b : List Int} (g : Gd a b) : ∀ k, (∀ j, j < k → it a b j ≠ b) → Gd (it a b k) b ∧ sq (it a b k) + 2 * k ≤ sq a
  | 0, _ => ⟨g, by show sq a + 2 * 0 ≤ sq a; omega⟩
  | k + 1, h => by
    obtain ⟨g1, s1⟩ := gd_it g k fun j hj => h j (by omega)
    obtain ⟨p, q, x, y, pq⟩ := g1.pq (h k (by omega))
    obtain ⟨g2, s2, _⟩ := pq.step g1
    have e : it a b (k + 1) = stpM (it a b k) p q x y := nxt_eq g1.ln pq
    rw [e]
    refine ⟨g2, ?_⟩
    have : ((k + 1 : Nat) : Int) = (k : Int) + 1 := by omega
    rw [this]; omega
theorem sq_nonneg (l : List Int) : 0 ≤ sq l := sum_map_nonneg (fun x => by
  rcases Int.le_total 0 x with h | h
  · exact Int.mul_nonneg h h
  · have := Int.mul_nonneg (show 0 ≤ -x by omega) (show 0 ≤ -x by omega)
    rwa [Int.neg_mul_neg] at this) l
theorem sq_le {l : List Int} (am : Am l) : sq l ≤ 900 * l.length := by
  have gen : ∀ l : List Int, (∀ x ∈ l, 0 ≤ x ∧ x ≤ 30) → sq l ≤ 900 * l.length := by
    intro l
    induction l with
    | nil => intro _; simp [sq]
    | cons x l ih =>
      intro h
      have a := h x List.mem_cons_self
      have b := ih fun y hy => h y (List.mem_cons_of_mem _ hy)
      have c : x * x ≤ 900 := by
        have := Int.mul_le_mul a.2 a.2 a.1 (by decide)
        simpa using this
      simp only [sq, List.map_cons, List.sum_cons, List.length_cons] at b ⊢
      have : ((l.length + 1 : Nat) : Int) = (l.length : Int) + 1 := by omega
      rw [this]; omega
  exact gen l am
theorem it_few {a b : List Int} (g : Gd a b) (l6 : a.length ≤ 6) {k : Nat} (h : ∀ j, j < k → it a b j ≠ b) : k ≤ 2700 := by
  have s1 := (gd_it g k h).2
  have s2 := sq_nonneg (it a b k)
  have s3 := sq_le g.ama
  omega
/-- the steps as data -/
noncomputable def dStep (a b : List Int) (j : Nat) : PyData := .tuple ((it a b j).map PyData.int)
noncomputable def dSteps (a b : List Int) (k : Nat) : List PyData := (List.range (k + 1)).map (dStep a b)
theorem dSteps_succ (a b : List Int) (k : Nat) : dSteps a b (k + 1) = dSteps a b k ++ [dStep a b (k + 1)] := by
  unfold dSteps
  rw [List.range_succ, List.map_append]
  rfl
theorem dpAll_snoc {K : PySem.W.Frag} {H : Hp} {v : V} {d : PyData} : ∀ {vs : List V} {ds : List PyData}, DpAll K H vs ds → Dp K H v d → DpAll K H (vs ++ [v]) (ds ++ [d])
  | _, _, .nil, h => .cons h .nil
  | _, _, .cons a b, h => .cons a (dpAll_snoc b h)
/-- the first n of the values are tuples that stand in the heap -/
def TupI (H : Hp) (vs : List V) (f : Nat → List Int) (n : Nat) : Prop := ∀ i, i < n → ∃ t, vs[i]? = some (.ref t) ∧ H t = some (.tup ((f i).map V.int))
theorem TupI.same {H H' : Hp} {vs : List V} {f : Nat → List Int} {n : Nat} (h : TupI H vs f n) (k : Same H H') : TupI H' vs f n := fun i hi => by
  obtain ⟨t, e, ht⟩ := h i hi
  exact ⟨t, e, k _ _ ht⟩
theorem TupI.put {H : Hp} {l : Addr} {ys : List V} {o : HO} {vs : List V} {f : Nat → List Int} {n : Nat} (h : TupI H vs f n) (hl : H l = some (.lst ys)) : TupI (L2.upd H l o) vs f n := fun i hi => by
  obtain ⟨t, e, ht⟩ := h i hi
  exact ⟨t, e, by rw [upd_ne (ne_of ht hl (by intro z; cases z))]; exact ht⟩
theorem TupI.snoc {H : Hp} {u : Addr} {vs : List V} {f : Nat → List Int} {n : Nat} (h : TupI H vs f n) (hn : vs.length = n) (hu : H u = some (.tup ((f n).map V.int))) : TupI H (vs ++ [.ref u]) f (n + 1) := fun i hi => by
  rcases Nat.lt_or_eq_of_le (Nat.le_of_lt_succ hi) with z | z
  · obtain ⟨t, e, ht⟩ := h i z
    exact ⟨t, by rw [List.getElem?_append_left (by omega)]; exact e, ht⟩
  · subst z
    exact ⟨u, by rw [List.getElem?_append_right (by omega), hn]; simp, hu⟩
/-- the steps so far stand in the list at l -/
def SInv (K : PySem.W.Frag) (l : Addr) (a b : List Int) (H0 : Hp) (k : Nat) (H : Hp) : Prop :=
  Same H0 H ∧ (∀ j, j < k → it a b j ≠ b) ∧ ∃ (pre : List V) (r : Addr), pre.length = k ∧ H l = some (.lst (pre ++ [.ref r])) ∧ H r = some (.tup ((it a b k).map V.int)) ∧ DpAll K H (pre ++ [.ref r]) (dSteps a b k) ∧ TupI H (pre ++ [.ref r]) (it a b) (k + 1)
def spAsc (C : Addr) : Sp := fun vs H Q _ => ∃ (s t : Addr) (ns : List Int), vs = [.ref s] ∧ ShAt C H s t ns ∧ ∀ (p : Addr) (H' : Hp), Same H H' → H' p = some (.tup ((srt ns).map V.int)) → Q (.ref p) H'
def spMoved : Sp := fun vs H Q _ => ∃ (t : Addr) (a : List Int) (p q : Nat) (x y : Int), vs = [.ref t, .int p, .int q] ∧ H t = some (.tup (a.map V.int)) ∧ a.length ≤ 6 ∧ a[p]? = some x ∧ a[q]? = some y ∧ p ≠ q ∧
  ∀ (u : Addr) (H' : Hp), Same H H' → H' u = some (.tup ((stpM a p q x y).map V.int)) → Q (.ref u) H'
def spToward : Sp := fun vs H Q _ => ∃ (t1 t2 : Addr) (a b : List Int), vs = [.ref t1, .ref t2] ∧ H t1 = some (.tup (a.map V.int)) ∧ H t2 = some (.tup (b.map V.int)) ∧ a.length ≤ 6 ∧ Gd a b ∧ a ≠ b ∧
  ∀ (u : Addr) (H' : Hp), Same H H' → H' u = some (.tup ((nxt a b).map V.int)) → Q (.ref u) H'
def spBetween (K : PySem.W.Frag) : Sp := fun vs H Q _ => ∃ (t1 t2 : Addr) (a b : List Int), vs = [.ref t1, .ref t2] ∧ H t1 = some (.tup (a.map V.int)) ∧ H t2 = some (.tup (b.map V.int)) ∧ a.length ≤ 6 ∧ Gd a b ∧
  ∀ (p : Addr) (k : Nat) (ws : List V) (H' : Hp), Same H H' → Fin a b k → k ≤ 2700 → H' p = some (.tup ws) → ws.length = k + 1 → TupI H' ws (it a b) (k + 1) → Dp K H' (.ref p) (.tuple (dSteps a b k)) → Q (.ref p) H'
section
variable {P : Program} {w : World} {K : PySem.W.Frag} {mg : Str → Option Value} {base : Heap} {CShare : Addr}
abbrev st_ascending : Stmt := top 62
theorem sc_ascending : FnScope ["share"] ["share"] (defScope st_ascending) := ⟨rfl, rfl, rfl, by decide +kernel, rfl, by decide +kernel, by decide +kernel⟩
theorem ok_asc (B : Bn mg) (SShare : ShK K mg CShare) (p_amounts : PCal P w K mg base 2 CShare "amounts" ["self"] (getSp CShare "by_state")) (D : Df K mg "ascending" st_ascending ["share"]) : Cal P w K mg base 4 "ascending" ["share"] (spAsc CShare) := by
  refine D.cal sc_ascending (fun vs H Q E h => ?_) (fun f cdv A out s H vs Q E hr h => ?_)
  · obtain ⟨s, t, ns, rfl, _⟩ := h
    rfl
  obtain ⟨s, t, ns, rfl, ⟨⟨dx, h1⟩, h2, _, l6, _⟩, k⟩ := h
  refine ⟨_, (pss_one (ps_ret (pe_callTy call_tuple_of (by rfl) B.n_tuple (by decide +kernel) (pa_cons (pe_callB call_sortedT (by rfl) B.n_sorted (by decide +kernel) (pa_cons (pe_pr p_amounts SShare.cl (hr.mono (by decide)) (pv 0)) pa_nil)) pa_nil)))), ?_⟩
  refine ⟨_, rfl, s, dx, _, rfl, h1, s, dx, _, _, rfl, h1, shF_get t, t, ns, rfl, SqT.of h2, by omega, fun ys l pm sd hl => ?_⟩
  obtain rfl := srt_of pm sd
  exact ⟨l, _, rfl, .inl ⟨SqL.of upd_same, fun q hq => k q _ (same_new (same_new (Same.refl H) hl) hq) upd_same⟩⟩
abbrev st_moved : Stmt := top 63
theorem sc_moved : FnScope ["amounts", "low", "high", "after"] ["amounts", "low", "high"] (defScope st_moved) := ⟨rfl, rfl, rfl, by decide +kernel, rfl, by decide +kernel, by decide +kernel⟩
theorem ok_moved (B : Bn mg) (D : Df K mg "moved" st_moved ["amounts", "low", "high"]) : Cal P w K mg base 2 "moved" ["amounts", "low", "high"] spMoved := by
  refine D.cal sc_moved (fun vs H Q E h => ?_) (fun f cdv A out s H vs Q E hr h => ?_)
  · obtain ⟨t, a, p, q, x, y, rfl, _⟩ := h
    rfl
  obtain ⟨t, a, p, q, x, y, rfl, ht, l6, hx, hy, pq, k⟩ := h
  have pl : p < a.length := (List.getElem?_eq_some_iff.mp hx).1
  have ql : q < a.length := (List.getElem?_eq_some_iff.mp hy).1
  refine ⟨_, (pss_cons (ps_set (i := 3) sc_moved.nd rfl (.inl rfl) (pe_callTy call_list_of (by rfl) B.n_list (by decide +kernel) (pa_cons (pv 0) pa_nil)))
   (pss_cons (ps_augS (pv 3) (pv 2) get_list pe_int ip_sub set_list)
   (pss_cons (ps_augS (pv 3) (pv 1) get_list pe_int ip_add set_list)
   (pss_one (ps_ret (pe_callTy call_tuple_of (by rfl) B.n_tuple (by decide +kernel) (pa_cons (pe_callB cr_sorted (by rfl) B.n_sorted (by decide +kernel) (pa_cons (pv 3) pa_nil)) pa_nil))))))), ?_⟩
  refine ⟨_, rfl, t, _, rfl, .inr (SqT.of ht), fun l hl => ?_⟩
  refine ⟨_, rfl, _, rfl, l, _, _, .int y, rfl, rfl, SqL.of upd_same, by omega, by rw [Int.toNat_natCast, List.getElem?_map, hy]; rfl, _, _, rfl, rfl, l, _, _, q, rfl, rfl, upd_same, ?_, ?_⟩
  · rw [List.length_map, ix_of (by omega) (by omega), Int.toNat_natCast]
  have e1 : (a.map V.int).set q (.int (y - 1)) = (a.set q (y - 1)).map V.int := List.map_set.symm
  generalize hH1 : upd (upd H l _) l _ = H1
  have h1 : H1 l = some (.lst ((a.set q (y - 1)).map V.int)) := by rw [← hH1, upd_same, ← e1]
  have s1 : Same H H1 := by rw [← hH1]; exact same_put (same_new (Same.refl H) hl) hl
  have hx1 : (a.set q (y - 1))[p]? = some x := by rw [List.getElem?_set_ne pq.symm]; exact hx
  refine ⟨_, rfl, _, rfl, l, _, _, .int x, rfl, rfl, SqL.of h1, by omega, by rw [Int.toNat_natCast, List.getElem?_map, hx1]; rfl, _, _, rfl, rfl, l, _, _, p, rfl, rfl, h1, ?_, ?_⟩
  · rw [List.length_map, List.length_set, ix_of (by omega) (by omega), Int.toNat_natCast]
  have e2 : upd H1 l (.lst (((a.set q (y - 1)).map V.int).set p (.int (x + 1)))) l = some (.lst (((a.set p (x + 1)).set q (y - 1)).map V.int)) := by
    rw [upd_same, List.set_comm _ _ pq]
    simp only [List.map_set]
  refine ⟨_, rfl, l, _, rfl, SqL.of e2, by simp; omega, fun ys u pm sd hu => ?_⟩
  obtain rfl := srt_of pm sd
  exact ⟨u, _, rfl, .inl ⟨SqL.of upd_same, fun z hz => k z _ (same_new (same_new (same_put s1 hl) hu) hz) upd_same⟩⟩
theorem sqT_put {K : PySem.W.Frag} {H : Hp} {a l : Addr} {xs ys : List V} {o : HO} (h : SqT K H a xs) (hl : H l = some (.lst ys)) : SqT K (L2.upd H l o) a xs := by
  rcases h with (h | ⟨ob, h⟩) | h
  · exact .inl (.inl (by rw [upd_ne (ne_of h hl (by intro z; cases z))]; exact h))
  · exact .inl (.inr ⟨ob, by rw [upd_ne (ne_of h hl (by intro z; cases z))]; exact h⟩)
  · exact .inr h
theorem dpIntsAny {K : PySem.W.Frag} {H H' : Hp} : ∀ (ns : List Int) (xs : List V), DpAll K H xs (ns.map PyData.int) → DpAll K H' xs (ns.map PyData.int)
  | [], _, h => by cases h; exact .nil
  | n :: ns, _, h => by
    cases h with
    | cons a b => cases a; exact .cons (.int n) (dpIntsAny ns _ b)
theorem dpAllPut {K : PySem.W.Frag} {H : Hp} {l : Addr} {ys : List V} {o : HO} {a b : List Int} (hl : H l = some (.lst ys)) : ∀ (js : List Nat) (vs : List V), DpAll K H vs (js.map (dStep a b)) → DpAll K (L2.upd H l o) vs (js.map (dStep a b))
  | [], _, h => by cases h; exact .nil
  | j :: js, _, h => by
    cases h with
    | cons d r =>
      refine .cons ?_ (dpAllPut hl js _ r)
      have d2 : Dp K H _ (.tuple ((it a b j).map PyData.int)) := d
      cases d2 with
      | tup s i => exact .tup (sqT_put s hl) (dpIntsAny _ _ i)
theorem shapedTup (ns : List Int) : SeqAt.shaped (.tuple (ns.map PyData.int)) = true := by
  show (PyData.canLay0 (.tuple (ns.map PyData.int)) && decide (PyData.depth (.tuple (ns.map PyData.int)) ≤ 64)) = true
  simp only [PyData.canLay0, PyData.depth, layInts, depthInts]
  decide
/-- the places that pass a test, of which the first is p -/
def FstI (D : Addr) (H0 : Hp) (p : Nat) (i : Nat) (H : Hp) : Prop := Same H0 H ∧ ∃ js : List Int, js.length ≤ i ∧ H D = some (.lst (js.map V.int)) ∧ (i ≤ p → js = []) ∧ (p < i → ∃ r, js = (p : Int) :: r)
theorem FstI.start {D : Addr} {H0 : Hp} {p : Nat} (h : H0 D = none) : FstI D H0 p 0 (L2.upd H0 D (.lst [])) := ⟨same_new (Same.refl H0) h, [], Nat.le_refl _, upd_same, fun _ => rfl, fun z => by omega⟩
theorem FstI.no {D : Addr} {H0 H : Hp} {p i : Nat} (q : FstI D H0 p i H) (ne : i ≠ p) : FstI D H0 p (i + 1) H := by
  obtain ⟨s, js, l, h, a, b⟩ := q
  exact ⟨s, js, by omega, h, fun z => a (by omega), fun z => b (by omega)⟩
theorem FstI.yes {D : Addr} {H0 H : Hp} {p i : Nat} (q : FstI D H0 p i H) (h0 : H0 D = none) (le : p ≤ i) (few : i ≤ 100) : ∃ acc, H D = some (.lst acc) ∧ acc.length < sizeLine ∧ FstI D H0 p (i + 1) (L2.upd H D (.lst (acc ++ [.int i]))) := by
  obtain ⟨s, js, l, h, a, b⟩ := q
  refine ⟨_, h, size_lt (by rw [List.length_map]; omega), same_put s h0, js ++ [(i : Int)], by simp; omega, by rw [upd_same, List.map_append]; rfl, fun z => by omega, fun _ => ?_⟩
  rcases Nat.lt_or_eq_of_le le with c | c
  · obtain ⟨r, e⟩ := b c
    exact ⟨r ++ [(i : Int)], by rw [e]; rfl⟩
  · have e := a (by omega)
    exact ⟨[], by rw [e, c]; rfl⟩
theorem FstI.fst {D : Addr} {H0 H : Hp} {p n : Nat} (q : FstI D H0 p n H) (lt : p < n) : ∃ xs : List V, H D = some (.lst xs) ∧ atI xs 0 = some (.int p) := by
  obtain ⟨s, js, l, h, a, b⟩ := q
  obtain ⟨r, e⟩ := b lt
  refine ⟨_, h, ?_⟩
  rw [e]
  exact atI_nat (j := 0) rfl
theorem rg_at {n i : Nat} {x : V} (h : (rgV 0 n)[i]? = some x) : i < n ∧ x = .int i := by
  have l := (List.getElem?_eq_some_iff.mp h).1
  rw [rgV_length] at l
  have lt : i < n := by omega
  refine ⟨lt, ?_⟩
  have e : (((n : Nat) : Int) - 0).toNat = n := by omega
  simp only [rgV, e, List.getElem?_map, List.getElem?_range lt] at h
  have := Option.some.inj h
  rw [← this]
  show V.int (0 + (i : Int)) = V.int i
  rw [Int.zero_add]
abbrev st_step_towards : Stmt := top 65
theorem sc_step_towards : FnScope ["now", "goal", "places", "low", "high", "at"] ["now", "goal"] (defScope st_step_towards) := ⟨rfl, rfl, rfl, by decide +kernel, rfl, by decide +kernel, by decide +kernel⟩
theorem ok_toward (B : Bn mg) (c_moved : Cal P w K mg base 2 "moved" ["amounts", "low", "high"] spMoved) (D : Df K mg "step_towards" st_step_towards ["now", "goal"]) : Cal P w K mg base 3 "step_towards" ["now", "goal"] spToward := by
  refine D.cal sc_step_towards (fun vs H Q E h => ?_) (fun f cdv A out s H vs Q E hr h => ?_)
  · obtain ⟨t1, t2, a, b, rfl, _⟩ := h
    rfl
  obtain ⟨t1, t2, a, b, rfl, h1, h2, l6, g, ne, k⟩ := h
  obtain ⟨p, q, x, y, pq⟩ := g.pq ne
  have ln := g.ln
  have pl : p < a.length := (List.getElem?_eq_some_iff.mp pq.hx).1
  have ql : q < a.length := (List.getElem?_eq_some_iff.mp pq.hy).1
  rw [nxt_eq ln pq] at k
  refine ⟨_, (pss_cons (ps_set (i := 2) sc_step_towards.nd rfl (.inl rfl) (pe_listRg rfl (by rfl) B.n_list (prg_1 (by rfl) B.n_range (pe_callB call_len_seq (by rfl) B.n_len (by decide +kernel) (pa_cons (pv 0) pa_nil)))))
   (pss_cons (ps_set (i := 3) sc_step_towards.nd rfl (.inr rfl) (pe_ix ix_list (pe_lc (own := [("at", 5)]) (g := gName 5) rfl sc_step_towards.nd (pi_list (pv 2)) (blkOk_by (N := ["now", "goal", "places", "low", "high", "at"]) (sc := defScope st_step_towards) (by decide +kernel)) (fun _ _ _ _ _ => (pg_name (i := 5) sc_step_towards.nd rfl (.inl rfl))) (fun _ _ _ _ _ => (pts_one (pt_cmpR op_ne (pe_ix (show IxR _ (rIxT K) from ix_tup) (pv 0) (pv 5) (fun _ _ => rfl)) (pe_ix (show IxR _ (rIxT K) from ix_tup) (pv 1) (pv 5) (fun _ _ => rfl)) (nomark _)))) (fun _ _ _ _ _ => (pv 5))) pe_int (fun _ _ => rfl)))
   (pss_cons (ps_set (i := 4) sc_step_towards.nd rfl (.inl rfl) (pe_ix ix_list (pe_lc (own := [("at", 5)]) (g := gName 5) rfl sc_step_towards.nd (pi_list (pv 2)) (blkOk_by (N := ["now", "goal", "places", "low", "high", "at"]) (sc := defScope st_step_towards) (by decide +kernel)) (fun _ _ _ _ _ => (pg_name (i := 5) sc_step_towards.nd rfl (.inl rfl))) (fun _ _ _ _ _ => (pts_one (PW.pt (pw_and (pt_cmpR op_gt (pv 5) (pv 3) (nomark _)) (pw_and1 (pt_cmpR op_gt (pe_ix (show IxR _ (rIxT K) from ix_tup) (pv 0) (pv 5) (fun _ _ => rfl)) (pe_ix (show IxR _ (rIxT K) from ix_tup) (pv 1) (pv 5) (fun _ _ => rfl)) (nomark _))))))) (fun _ _ _ _ _ => (pv 5))) pe_int (fun _ _ => rfl)))
   (pss_one (ps_ret (pe_fn c_moved (hr.mono (by decide)) (pa_cons (pv 0) (pa_cons (pv 3) (pa_cons (pv 4) pa_nil))))))))), ?_⟩
  refine ⟨_, rfl, t1, _, rfl, .inr (SqT.of h1), _, rfl, RgOk.of_le (by omega) (by rw [List.length_map]; omega) (by omega) (by omega), fun l hl => ?_⟩
  rw [List.length_map]
  generalize hH1 : upd H l _ = H1
  have k1 : Same H H1 := by rw [← hH1]; exact same_new (Same.refl H) hl
  have hl1 : H1 l = some (.lst (rgV 0 a.length)) := by rw [← hH1, upd_same]
  have rl : (rgV 0 (a.length : Int)).length = a.length := by rw [rgV_length]; omega
  have at1 : ∀ {i : Nat} {H' : Hp}, i < a.length → atI (a.map V.int) (i : Int) = some (.int (a[i]?.getD 0)) := fun {i _} hi => atI_nat (by rw [List.getElem?_map, List.getElem?_eq_getElem hi]; rfl)
  have at2 : ∀ {i : Nat} {H' : Hp}, i < a.length → atI (b.map V.int) (i : Int) = some (.int (b[i]?.getD 0)) := fun {i _} hi => atI_nat (by rw [List.getElem?_map, List.getElem?_eq_getElem (by omega)]; rfl)
  refine ⟨_, rfl, l, rfl, ⟨_, SqL.of hl1⟩, fun D hD => lc_list (K := K) (a := l) (xs := rgV 0 a.length) (FstI D H1 p) (FstI.start hD) (fun i H' _ q => SqL.of (q.1 _ _ hl1)) (fun i x' H' hx' fi => ?_) (fun H2 f2 => ?_)⟩
  · obtain ⟨il, rfl⟩ := rg_at hx'
    refine ⟨rfl, _, rfl, _, rfl, t1, _, _, _, rfl, rfl, SqT.of (fi.1 _ _ (k1 _ _ h1)), at1 (H' := H') il, _, rfl, _, rfl, t2, _, _, _, rfl, rfl, SqT.of (fi.1 _ _ (k1 _ _ h2)), at2 (H' := H') il, rfl, _, rfl, ?_⟩
    have ea : a[i]? = some (a[i]?.getD 0) := by rw [List.getElem?_eq_getElem il]; rfl
    have eb : b[i]? = some (b[i]?.getD 0) := by rw [List.getElem?_eq_getElem (show i < b.length by omega)]; rfl
    refine ite2 (fun c => ?_) (fun c => ?_)
    · refine ⟨_, rfl, fi.yes hD ?_ (by omega)⟩
      refine Classical.byContradiction fun z => ?_
      have e := pq.pe i (by omega)
      rw [e] at c
      simp at c
    · refine fi.no fun z => ?_
      subst z
      have c2 : V.int (a[i]?.getD 0) = V.int (b[i]?.getD 0) := by simpa using c
      have e3 := V.int.inj c2
      have e4 : a[i]?.getD 0 = x := by rw [pq.hx]; rfl
      exact pq.pd _ eb (by rw [← e3, e4])
  · rw [rl] at f2
    obtain ⟨xs, ex, e0⟩ := f2.fst pl
    have k2 : Same H1 H2 := f2.1
    refine ⟨D, _, _, _, rfl, rfl, SqL.of ex, e0, ?_⟩
    refine ⟨_, rfl, l, rfl, ⟨_, SqL.of (k2 _ _ hl1)⟩, fun D2 hD2 => lc_list (K := K) (a := l) (xs := rgV 0 a.length) (FstI D2 H2 q) (FstI.start hD2) (fun i H' _ q' => SqL.of (q'.1 _ _ (k2 _ _ hl1))) (fun i x' H' hx' fi => ?_) (fun H3 f3 => ?_)⟩
    · obtain ⟨il, rfl⟩ := rg_at hx'
      have ea : a[i]? = some (a[i]?.getD 0) := by rw [List.getElem?_eq_getElem il]; rfl
      have eb : b[i]? = some (b[i]?.getD 0) := by rw [List.getElem?_eq_getElem (show i < b.length by omega)]; rfl
      have kk := k1.trans k2
      have plt := pq.lt
      refine ⟨rfl, _, rfl, _, rfl, _, _, rfl, rfl, _, rfl, ite2 (fun c => ?_) (fun c => ?_)⟩
      · have c1 : (p : Int) < (i : Int) := of_decide_eq_true c
        refine ⟨_, rfl, _, rfl, t1, _, _, _, rfl, rfl, SqT.of (fi.1 _ _ (kk _ _ h1)), at1 (H' := H') il, _, rfl, _, rfl, t2, _, _, _, rfl, rfl, SqT.of (fi.1 _ _ (kk _ _ h2)), at2 (H' := H') il, _, _, rfl, rfl, _, rfl, ite2 (fun c2 => ?_) (fun c2 => ?_)⟩
        · have c3 : b[i]?.getD 0 < a[i]?.getD 0 := of_decide_eq_true c2
          refine ⟨_, rfl, fi.yes hD2 ?_ (by omega)⟩
          refine Classical.byContradiction fun z => ?_
          have := pq.qe i _ _ (by omega) (by omega) ea eb
          omega
        · have c3 : ¬ b[i]?.getD 0 < a[i]?.getD 0 := fun z => c2 (decide_eq_true z)
          refine fi.no fun z => ?_
          subst z
          have := pq.qd _ eb
          rw [pq.hy] at c3
          exact c3 this
      · have c1 : ¬ (p : Int) < (i : Int) := fun z => c (decide_eq_true z)
        exact fi.no (by omega)
    · rw [rl] at f3
      obtain ⟨xs3, ex3, e3⟩ := f3.fst ql
      have kk : Same H H3 := (k1.trans k2).trans f3.1
      refine ⟨D2, _, _, _, rfl, rfl, SqL.of ex3, e3, ?_⟩
      refine ⟨_, rfl, _, rfl, _, rfl, t1, a, p, q, x, y, rfl, kk _ _ h1, l6, pq.hx, pq.hy, (by have := pq.lt; omega), fun u H4 k4 hu => k u H4 (kk.trans k4) hu⟩
abbrev st_steps_between : Stmt := top 64
theorem sc_steps_between : FnScope ["start", "goal", "steps"] ["start", "goal"] (defScope st_steps_between) := ⟨rfl, rfl, rfl, by decide +kernel, rfl, by decide +kernel, by decide +kernel⟩
theorem ok_between (B : Bn mg) (c_step_towards : Cal P w K mg base 3 "step_towards" ["now", "goal"] spToward) (D : Df K mg "steps_between" st_steps_between ["start", "goal"]) : Cal P w K mg base 4 "steps_between" ["start", "goal"] (spBetween K) := by
  refine D.cal sc_steps_between (fun vs H Q E h => ?_) (fun f cdv A out s H vs Q E hr h => ?_)
  · obtain ⟨t1, t2, a, b, rfl, _⟩ := h
    rfl
  obtain ⟨t1, t2, a, b, rfl, h1, h2, l6, g, k⟩ := h
  refine ⟨_, (pss_cons (ps_set (i := 2) sc_steps_between.nd rfl (.inl rfl) (pe_lst (pa_cons (pv 0) pa_nil)))
   (pss_cons (ps_while PassesOwn.never (pt_cmpR (op_neD hr.units) (pe_ix ix_list (pv 2) (pe_un un_neg pe_int) (fun _ _ => rfl)) (pv 1) (nomark _)) (pss_one (ps_expr (pe_bm PySem.F.plainAttrs_list PySem.F.slot_list_append PySem.F.type_list_append mt_append (pv 2) (pa_cons (pe_fn c_step_towards (hr.mono (by decide)) (pa_cons (pe_ix ix_list (pv 2) (pe_un un_neg pe_int) (fun _ _ => rfl)) (pa_cons (pv 1) pa_nil))) pa_nil)))))
   (pss_one (ps_ret (pe_callTy call_tuple_of (by rfl) B.n_tuple (by decide +kernel) (pa_cons (pv 2) pa_nil)))))), ?_⟩
  refine ⟨_, rfl, (by show 1 ≤ sizeLine; decide), fun l hl => ?_⟩
  generalize hH1 : upd H l _ = H1
  have k1 : Same H H1 := by rw [← hH1]; exact same_new (Same.refl H) hl
  have hl1 : H1 l = some (.lst ([] ++ [.ref t1])) := by rw [← hH1, upd_same]; rfl
  refine ⟨fun m σ H' => ∃ n : Nat, m = (sq (it a b n)).toNat ∧ σ = [some (.ref t1), some (.ref t2), some (.ref l)] ∧ SInv K l a b H n H',
    ⟨_, 0, rfl, rfl, k1, fun j hj => by omega, [], t1, rfl, hl1, k1 _ _ h1, .cons (.tup (SqT.of (k1 _ _ h1)) (dpInts _ _ _)) .nil, fun i hi => ⟨t1, by rw [show i = 0 by omega]; rfl, by rw [show i = 0 by omega]; exact k1 _ _ h1⟩⟩, ?_⟩
  rintro m σ H2 ⟨n, rfl, rfl, k2, ear, pre, r, pl, hl2, hr2, dp, tu⟩
  have n27 := it_few g l6 ear
  obtain ⟨gn, sn⟩ := gd_it g n ear
  refine ⟨_, rfl, 1, rfl, l, _, _, .ref r, rfl, rfl, SqL.of hl2, atI_last _ _, _, rfl, _, _, .tup (SqT.of hr2) (dpInts _ _ _), .tup (SqT.of (k2 _ _ h2)) (dpInts _ _ _), shapedTup _, shapedTup _, _, rfl, ?_⟩
  have eq : PyData.eqv (.tuple ((it a b n).map PyData.int)) (.tuple (b.map PyData.int)) = decide (it a b n = b) := by
    simp only [PyData.eqv]
    exact PySem.W.ked_eqvAll _ _
  rw [eq]
  refine ite2 (fun c => ?_) (fun c => ?_)
  · have ne : it a b n ≠ b := by simpa using c
    refine ⟨fun σ' H' => σ' = [some (.ref t1), some (.ref t2), some (.ref l)] ∧ SInv K l a b H (n + 1) H', fun σ' H' ⟨e1, e2⟩ => ⟨_, ?_, n + 1, rfl, e1, e2⟩, ?_⟩
    · obtain ⟨p, q, x, y, pq⟩ := gn.pq ne
      have s2 := (pq.step gn).2.1
      have e3 : it a b (n + 1) = stpM (it a b n) p q x y := nxt_eq gn.ln pq
      rw [e3]
      have := sq_nonneg (stpM (it a b n) p q x y)
      omega
    · refine ⟨_, rfl, .inl ⟨rfl, _, SqL.of hl2⟩, _, rfl, 1, rfl, l, _, _, .ref r, rfl, rfl, SqL.of hl2, atI_last _ _, _, rfl, r, t2, it a b n, b, rfl, hr2, k2 _ _ h2, by have := gn.ln; have := g.ln; omega, gn, ne, fun u H3 k3 hu => ?_⟩
      refine ⟨l, _, _, rfl, rfl, k3 _ _ hl2, size_lt' (by simp; omega), rfl, same_put (k2.trans k3) hl, fun j hj => ?_, pre ++ [.ref r], u, by simp [pl], upd_same, ?_, ?_, ?_⟩
      · rcases Nat.lt_succ_iff_lt_or_eq.mp hj with z | z
        · exact ear j z
        · rw [z]; exact ne
      · rw [upd_ne (ne_of hu (k3 _ _ hl2) (by intro z; cases z))]
        exact hu
      · rw [dSteps_succ]
        refine dpAll_snoc (dpAllPut (k3 _ _ hl2) _ _ (dpSameAll k3 _ _ dp)) (.tup (SqT.of ?_) (dpInts _ _ _))
        rw [upd_ne (ne_of hu (k3 _ _ hl2) (by intro z; cases z))]
        exact hu
      · refine ((tu.same k3).put (k3 _ _ hl2)).snoc (by simp [pl]) ?_
        rw [upd_ne (ne_of hu (k3 _ _ hl2) (by intro z; cases z))]
        exact hu
  · have e : it a b n = b := by simpa using c
    refine ⟨_, rfl, l, _, rfl, .inl ⟨SqL.of hl2, fun z hz => k z n _ _ (same_new k2 hz) ⟨e, ear⟩ n27 upd_same (by simp [pl]) (tu.same (same_new (Same.refl H2) hz)) (.tup (SqT.of upd_same) (dpSameAll (same_new (Same.refl H2) hz) _ _ dp))⟩⟩
/-- k is a gap -/
def gapB (ns ms : List Int) (k : Nat) : Bool := decide (low ms k < low ns k) || (decide (k = ns.length) && !decide (ns.sum = ms.sum))
def FGap (ns ms : List Int) (g : Nat) : Prop := gapB ns ms g = true ∧ g ≤ ns.length ∧ ∀ j, j < g → gapB ns ms j = false

theorem gap_ex {ns ms : List Int} (h : calm ns ms = false) : ∃ g, FGap ns ms g := by
  have e : ∃ k, k ≤ ns.length ∧ gapB ns ms k = true := by
    by_cases c : ns.sum = ms.sum
    · have z : ¬ (List.range (ns.length + 1)).all (fun k => decide (low ns k ≤ low ms k)) = true := fun y => by
        simp only [calm, c, decide_true, Bool.true_and] at h
        rw [y] at h
        cases h
      refine Classical.byContradiction fun no => z ?_
      rw [List.all_eq_true]
      intro k hk
      have kl := List.mem_range.mp hk
      refine decide_eq_true (Classical.byContradiction fun y => no ⟨k, by omega, ?_⟩)
      have : low ms k < low ns k := by omega
      simp [gapB, this]
    · exact ⟨ns.length, Nat.le_refl _, by simp [gapB, c]⟩
  obtain ⟨k, kl, hk⟩ := e
  obtain ⟨g, hg, mn⟩ := least_nat (Pr := fun i => gapB ns ms i = true) hk
  refine ⟨g, hg, ?_, fun j hj => by simpa using mn j hj⟩
  refine Classical.byContradiction fun z => mn k (by omega) hk
def spIsGap (C : Addr) : Sp := fun vs H Q _ => ∃ (s1 t1 s2 t2 : Addr) (ns ms : List Int) (k : Nat), vs = [.ref s1, .ref s2, .int k] ∧ ShAt C H s1 t1 ns ∧ ShAt C H s2 t2 ms ∧ ns.length = ms.length ∧ k ≤ ns.length ∧ ∀ H', Same H H' → Q (.bl (gapB ns ms k)) H'
def spGap (C : Addr) : Sp := fun vs H Q _ => ∃ (s1 t1 s2 t2 : Addr) (ns ms : List Int), vs = [.ref s1, .ref s2] ∧ ShAt C H s1 t1 ns ∧ ShAt C H s2 t2 ms ∧ ns.length = ms.length ∧ calm ns ms = false ∧ ∀ (g : Nat) (H' : Hp), Same H H' → FGap ns ms g → Q (.int g) H'
/-- what path returns, as data -/
def PathD (ns ms : List Int) (d : PyData) : Prop := (calm ns ms = true ∧ ∃ k, Fin (srt ns) (srt ms) k ∧ k ≤ 2700 ∧ d = .tuple [.str "calmer", .tuple (dSteps (srt ns) (srt ms) k)]) ∨ (calm ns ms = false ∧ ∃ g, FGap ns ms g ∧ d = .tuple [.str "gap", .int g])

/-- what path returns, as it stands in the heap -/
def PathV (H : Hp) (v : V) (ns ms : List Int) : Prop := (calm ns ms = true ∧ ∃ (k : Nat) (q p : Addr) (ws : List V), Fin (srt ns) (srt ms) k ∧ k ≤ 2700 ∧ v = .ref q ∧ H q = some (.tup [.str "calmer", .ref p]) ∧ H p = some (.tup ws) ∧ ws.length = k + 1 ∧ TupI H ws (it (srt ns) (srt ms)) (k + 1)) ∨
  (calm ns ms = false ∧ ∃ (g : Nat) (q : Addr), FGap ns ms g ∧ v = .ref q ∧ H q = some (.tup [.str "gap", .int g]))

def spPath (K : PySem.W.Frag) (C : Addr) : Sp := fun vs H Q _ => ∃ (s1 t1 s2 t2 : Addr) (ns ms : List Int), vs = [.ref s1, .ref s2] ∧ ShAt C H s1 t1 ns ∧ ShAt C H s2 t2 ms ∧ ns.length = ms.length ∧ ∀ (v : V) (d : PyData) (H' : Hp), Same H H' → PathV H' v ns ms → PathD ns ms d → Dp K H' v d → Q v H'
theorem calm_gd {ns ms : List Int} (ln : ns.length = ms.length) (a : Am ns) (b : Am ms) (h : calm ns ms = true) : Gd (srt ns) (srt ms) := by
  simp only [calm, Bool.and_eq_true, decide_eq_true_eq, List.all_eq_true] at h
  have tot : (srt ns).sum = (srt ms).sum := by rw [perm_sum (srt_perm ns), perm_sum (srt_perm ms), h.1]
  refine ⟨srt_sorted _, srt_sorted _, by rw [srt_length, srt_length, ln], fun k => ?_, tot, fun r hr => a r ((srt_perm ns).mem_iff.mp hr), fun r hr => b r ((srt_perm ms).mem_iff.mp hr)⟩
  by_cases c : k ≤ ns.length
  · exact h.2 k (List.mem_range.mpr (by omega))
  · rw [List.take_of_length_le (by rw [srt_length]; omega), List.take_of_length_le (by rw [srt_length]; omega), tot]
    exact Int.le_refl _
abbrev st_is_gap : Stmt := top 66
theorem sc_is_gap : FnScope ["one", "other", "k"] ["one", "other", "k"] (defScope st_is_gap) := ⟨rfl, rfl, rfl, by decide +kernel, rfl, by decide +kernel, by decide +kernel⟩
theorem ok_isgap (B : Bn mg) (SShare : ShK K mg CShare) (m_len : MCal P w K mg base 2 CShare "__len__" ["self"] (spLen CShare)) (p_total : PCal P w K mg base 2 CShare "total" ["self"] (spTotal CShare)) (m_call : MCal P w K mg base 3 CShare "__call__" ["self", "k"] (spCall CShare)) (D : Df K mg "is_gap" st_is_gap ["one", "other", "k"]) : Cal P w K mg base 4 "is_gap" ["one", "other", "k"] (spIsGap CShare) := by
  refine D.cal sc_is_gap (fun vs H Q E h => ?_) (fun f cdv A out s H vs Q E hr h => ?_)
  · obtain ⟨s1, t1, s2, t2, ns, ms, k, rfl, _⟩ := h
    rfl
  obtain ⟨s1, t1, s2, t2, ns, ms, n, rfl, sh1, sh2, ln, kn, k⟩ := h
  refine ⟨_, (pss_one (ps_ret (pe_or (pe_cmpR op_gt (pe_callM m_call SShare.fi (hr.mono (by decide)) (pv 0) (pa_cons (pv 2) pa_nil)) (pe_callM m_call SShare.fi (hr.mono (by decide)) (pv 1) (pa_cons (pv 2) pa_nil)) (nomark _)) (pe_one (pe_and (pe_cmpR op_eq (pv 2) (pe_callB (call_lenM m_len (hr.mono (by decide))) (by rfl) B.n_len (by decide +kernel) (pa_cons (pv 0) pa_nil)) (nomark _)) (pe_one (pe_cmpR op_ne (pe_pr p_total SShare.cl (hr.mono (by decide)) (pv 0)) (pe_pr p_total SShare.cl (hr.mono (by decide)) (pv 1)) (nomark _)))))))), ?_⟩
  obtain ⟨⟨d1, a1⟩, _, _, l1, _⟩ := id sh1
  obtain ⟨⟨d2, a2⟩, _, _, l2, _⟩ := id sh2
  refine ⟨_, rfl, s1, rfl, _, rfl, .inr ⟨_, _, a1⟩, s1, t1, ns, n, rfl, sh1, kn, fun H1 k1 => ?_⟩
  refine ⟨_, rfl, s2, rfl, _, rfl, .inr ⟨_, _, k1 _ _ a2⟩, s2, t2, ms, n, rfl, sh2.same k1, by omega, fun H2 k2 => ⟨_, _, rfl, rfl, _, rfl, ?_⟩⟩
  have kk := k1.trans k2
  have z := k H2 kk
  refine ite2 (fun c => ?_) (fun c => ?_)
  · have c2 : low ms n < low ns n := of_decide_eq_true c
    have e : gapB ns ms n = true := by simp [gapB, c2]
    rw [e] at z
    exact z
  · have c2 : decide (low ms n < low ns n) = false := by simpa using c
    refine ⟨_, rfl, _, rfl, s1, d1, _, rfl, kk _ _ a1, s1, t1, ns, rfl, sh1.same kk, ns.length, rfl, by omega, rfl, _, rfl, ?_⟩
    refine ite2 (fun c3 => ?_) (fun c3 => ?_)
    · have c4 : n = ns.length := by
        have := V.int.inj (of_decide_eq_true c3)
        omega
      refine ⟨_, rfl, s1, d1, _, rfl, kk _ _ a1, s1, t1, ns, rfl, sh1.same kk, _, rfl, s2, d2, _, rfl, kk _ _ a2, s2, t2, ms, rfl, sh2.same kk, rfl, ?_⟩
      have e : gapB ns ms n = !decide (V.int ns.sum = V.int ms.sum) := by
        unfold gapB
        rw [c2, decide_eq_true c4]
        simp
      rw [e] at z
      exact z
    · have c4 : ¬ n = ns.length := fun e => c3 (by rw [e]; simp)
      have e : gapB ns ms n = false := by simp [gapB, c2, c4]
      rw [e] at z
      exact z
abbrev st_smallest_gap : Stmt := top 67
theorem sc_smallest_gap : FnScope ["one", "other", "k"] ["one", "other"] (defScope st_smallest_gap) := ⟨rfl, rfl, rfl, by decide +kernel, rfl, by decide +kernel, by decide +kernel⟩
theorem ok_gap (B : Bn mg) (SShare : ShK K mg CShare) (m_len : MCal P w K mg base 2 CShare "__len__" ["self"] (spLen CShare)) (c_is_gap : Cal P w K mg base 4 "is_gap" ["one", "other", "k"] (spIsGap CShare)) (D : Df K mg "smallest_gap" st_smallest_gap ["one", "other"]) : Cal P w K mg base 5 "smallest_gap" ["one", "other"] (spGap CShare) := by
  refine D.cal sc_smallest_gap (fun vs H Q E h => ?_) (fun f cdv A out s H vs Q E hr h => ?_)
  · obtain ⟨s1, t1, s2, t2, ns, ms, rfl, _⟩ := h
    rfl
  obtain ⟨s1, t1, s2, t2, ns, ms, rfl, sh1, sh2, ln, nc, k⟩ := h
  obtain ⟨g, fg⟩ := gap_ex nc
  refine ⟨_, (pss_one (ps_ret (pe_ix ix_list (pe_lc (own := [("k", 2)]) (g := gName 2) rfl sc_smallest_gap.nd (pi_range1 (by rfl) B.n_range (pa_cons (pe_op op_add (pe_callB (call_lenM m_len (hr.mono (by decide))) (by rfl) B.n_len (by decide +kernel) (pa_cons (pv 0) pa_nil)) pe_int) pa_nil)) (blkOk_by (N := ["one", "other", "k"]) (sc := defScope st_smallest_gap) (by decide +kernel)) (fun _ _ _ _ _ => (pg_name (i := 2) sc_smallest_gap.nd rfl (.inl rfl))) (fun _ _ _ _ _ => (pts_one (pt_val (pe_fn c_is_gap (hr.mono (by decide)) (pa_cons (pv 0) (pa_cons (pv 1) (pa_cons (pv 2) pa_nil))))))) (fun _ _ _ _ _ => (pv 2))) pe_int (fun _ _ => rfl)))), ?_⟩
  obtain ⟨⟨d1, a1⟩, _, _, l1, _⟩ := id sh1
  refine ⟨_, rfl, s1, d1, _, rfl, a1, s1, t1, ns, rfl, sh1, ns.length, rfl, by omega, _, _, rfl, rfl, _, rfl, by omega, by omega, fun D hD => ?_⟩
  have tn : ((ns.length : Int) + 1).toNat = ns.length + 1 := by omega
  rw [tn]
  refine lc_range (lo := 0) (n := ns.length + 1) (FstI D H g) (FstI.start hD) (fun i H' hi q => ⟨rfl, ?_⟩) (fun H' q => ?_)
  · refine ⟨_, rfl, _, rfl, _, rfl, s1, t1, s2, t2, ns, ms, i, by simp, sh1.same q.1, sh2.same q.1, ln, by omega, fun H2 k2 => ⟨_, rfl, ?_⟩⟩
    have q2 : FstI D H g i H2 := by
      obtain ⟨s', js, l, h, a, b⟩ := q
      exact ⟨s'.trans k2, js, l, k2 _ _ h, a, b⟩
    refine ite2 (fun c => ?_) (fun c => ?_)
    · refine ⟨_, rfl, ?_⟩
      have y := q2.yes hD (Classical.byContradiction fun z => by
        have := fg.2.2 i (by omega)
        rw [c] at this
        cases this) (by omega)
      rw [Int.zero_add]
      exact y
    · exact q2.no fun z => by
        rw [z] at c
        exact c fg.1
  · obtain ⟨xs, ex, e0⟩ := q.fst (show g < ns.length + 1 by have := fg.2.1; omega)
    exact ⟨D, _, _, _, rfl, rfl, SqL.of ex, e0, k g H' q.1 fg⟩
abbrev st_path : Stmt := top 60
theorem sc_path : FnScope ["one", "other"] ["one", "other"] (defScope st_path) := ⟨rfl, rfl, rfl, by decide +kernel, rfl, by decide +kernel, by decide +kernel⟩
theorem ok_path (SShare : ShK K mg CShare) (c_is_calm : Cal P w K mg base 5 "is_calm" ["one", "other"] (spCalm CShare)) (c_ascending : Cal P w K mg base 4 "ascending" ["share"] (spAsc CShare)) (c_steps_between : Cal P w K mg base 4 "steps_between" ["start", "goal"] (spBetween K)) (c_smallest_gap : Cal P w K mg base 5 "smallest_gap" ["one", "other"] (spGap CShare)) (D : Df K mg "path" st_path ["one", "other"]) : Cal P w K mg base 6 "path" ["one", "other"] (spPath K CShare) := by
  refine D.cal sc_path (fun vs H Q E h => ?_) (fun f cdv A out s H vs Q E hr h => ?_)
  · obtain ⟨s1, t1, s2, t2, ns, ms, rfl, _⟩ := h
    rfl
  obtain ⟨s1, t1, s2, t2, ns, ms, rfl, sh1, sh2, ln, k⟩ := h
  refine ⟨_, (pss_cons (ps_if (pt_val (pe_fn c_is_calm (hr.mono (by decide)) (pa_cons (pv 0) (pa_cons (pv 1) pa_nil)))) (pss_one (ps_ret (pe_tup (pa_cons pe_str (pa_cons (pe_fn c_steps_between (hr.mono (by decide)) (pa_cons (pe_fn c_ascending (hr.mono (by decide)) (pa_cons (pv 0) pa_nil)) (pa_cons (pe_fn c_ascending (hr.mono (by decide)) (pa_cons (pv 1) pa_nil)) pa_nil))) pa_nil))))) pss_nil)
   (pss_one (ps_ret (pe_tup (pa_cons pe_str (pa_cons (pe_fn c_smallest_gap (hr.mono (by decide)) (pa_cons (pv 0) (pa_cons (pv 1) pa_nil))) pa_nil)))))), ?_⟩
  obtain ⟨_, _, _, l6, am1⟩ := id sh1
  obtain ⟨_, _, _, _, am2⟩ := id sh2
  refine ⟨_, rfl, _, rfl, s1, t1, s2, t2, ns, ms, rfl, sh1, sh2, ln, fun H1 k1 => ⟨_, rfl, ?_⟩⟩
  refine ite2 (fun c => ?_) (fun c => ?_)
  · refine ⟨_, rfl, s1, t1, ns, rfl, sh1.same k1, fun p1 H2 k2 hp1 => ?_⟩
    refine ⟨_, rfl, s2, t2, ms, rfl, (sh2.same k1).same k2, fun p2 H3 k3 hp2 => ?_⟩
    refine ⟨p1, p2, srt ns, srt ms, rfl, k3 _ _ hp1, hp2, by rw [srt_length]; exact l6, calm_gd ln am1 am2 c, fun p n ws H4 k4 fn n27 hp wl tu dp => ⟨(by show 2 ≤ sizeLine; decide), fun q hq => ?_⟩⟩
    have k5 : Same H4 (upd H4 q (.tup [.str "calmer", .ref p])) := same_new (Same.refl H4) hq
    refine k _ _ _ ((((k1.trans k2).trans k3).trans k4).trans k5) (.inl ⟨c, n, q, p, ws, fn, n27, rfl, upd_same, k5 _ _ hp, wl, tu.same k5⟩) (.inl ⟨c, n, fn, n27, rfl⟩) (.tup (SqT.of upd_same) (.cons (.str _) (.cons (dpSame k5 _ _ dp) .nil)))
  · have c2 : calm ns ms = false := by simpa using c
    refine ⟨_, rfl, _, rfl, s1, t1, s2, t2, ns, ms, rfl, sh1.same k1, sh2.same k1, ln, c2, fun g H2 k2 fg => ⟨(by show 2 ≤ sizeLine; decide), fun q hq => ?_⟩⟩
    exact k _ _ _ ((k1.trans k2).trans (same_new (Same.refl H2) hq)) (.inr ⟨c2, g, q, fg, rfl, upd_same⟩) (.inr ⟨c2, g, fg, rfl⟩) (.tup (SqT.of upd_same) (.cons (.str _) (.cons (.int _) .nil)))
end
end Pl
namespace Pl
open PySem PySem.Spec PyProof.Rows L2
section
variable {P : Program} {w : World} {K : PySem.W.Frag} {mg : Str → Option Value} {base : Heap} {CShare : Addr}
/-- the same values in some order -/
def spMixed (K : PySem.W.Frag) : Sp := fun vs H Q _ => ∃ (a l : Addr) (ns : List Int), vs = [.ref a, .ref l] ∧ Src H a ∧ (SqL K H l (ns.map V.int) ∨ SqT K H l (ns.map V.int)) ∧ (∀ H', Kp a H H' → SqL K H' l (ns.map V.int) ∨ SqT K H' l (ns.map V.int)) ∧ ns.length ≤ 100 ∧
  ∀ (p : Addr) (ms : List Int) (H' : Hp), ms.Perm ns → Src H' a → Kp a H H' → H' p = some (.tup (ms.map V.int)) → Q (.ref p) H'
abbrev st_l_mixed : Stmt := top 87
theorem sc_l_mixed : FnScope ["_law_source_here", "_law_values", "_law_left", "_law_found", "_law_lap"] ["_law_source_here", "_law_values"] (defScope st_l_mixed) := ⟨rfl, rfl, rfl, by decide +kernel, rfl, by decide +kernel, by decide +kernel⟩
theorem ok_mixed (B : Bn mg) (c_l_draw : Cal P w K mg base 2 "_law_draw" ["_law_source_here", "_law_many"] spDraw) (D : Df K mg "_law_mixed" st_l_mixed ["_law_source_here", "_law_values"]) : Cal P w K mg base 3 "_law_mixed" ["_law_source_here", "_law_values"] (spMixed K) := by
  refine D.cal sc_l_mixed (fun vs H Q E h => ?_) (fun f cdv A out s H vs Q E hr h => ?_)
  · obtain ⟨a, l, ns, rfl, _⟩ := h
    rfl
  obtain ⟨a, l, ns, rfl, src, sq, sqk, ln, k⟩ := h
  refine ⟨_, (pss_cons (ps_par (i := 2) (j := 3) (by rfl) sc_l_mixed.nd rfl rfl (by decide) rfl rfl (pa_cons (pe_callTy call_list_of (by rfl) B.n_list (by decide +kernel) (pa_cons (pv 1) pa_nil)) (pa_cons (pe_lst pa_nil) pa_nil)) (by rfl))
   (pss_cons (ps_for PassesOwn.never rfl (pi_range1 (by rfl) B.n_range (pa_cons (pe_callB call_len_seq (by rfl) B.n_len (by decide +kernel) (pa_cons (pv 1) pa_nil)) pa_nil)) (pg_name (i := 4) sc_l_mixed.nd rfl (.inl rfl))
   (pss_one (ps_expr (pe_bm PySem.F.plainAttrs_list PySem.F.slot_list_append PySem.F.type_list_append mt_append (pv 3) (pa_cons (pe_bm PySem.F.plainAttrs_list PySem.F.slot_list_pop PySem.F.type_list_pop mt_popAt (pv 2) (pa_cons (pe_fn c_l_draw (hr.mono (by decide)) (pa_cons (pv 0) (pa_cons (pe_callB call_len_seq (by rfl) B.n_len (by decide +kernel) (pa_cons (pv 2) pa_nil)) pa_nil))) pa_nil)) pa_nil)))))
   (pss_one (ps_ret (pe_callTy call_tuple_of (by rfl) B.n_tuple (by decide +kernel) (pa_cons (pv 3) pa_nil)))))), ?_⟩
  refine ⟨_, rfl, l, _, rfl, sq, fun p hp => ⟨Nat.zero_le _, fun q hq => ⟨_, _, rfl, ?_⟩⟩⟩
  have pq : p ≠ q := fun e => by
    rw [← e, upd_same] at hq
    cases hq
  have hq0 : H q = none := by
    rw [upd_ne pq.symm] at hq
    exact hq
  have pa : p ≠ a := src.ne hp
  have qa : q ≠ a := src.ne hq0
  generalize hH1 : upd (upd H p _) q _ = H1
  have s1 : Src H1 a := by rw [← hH1]; exact (src.upd hp).upd hq
  have k1 : Kp a H H1 := by rw [← hH1]; exact ((Kp.refl a H).new hp).new hq
  have hP : H1 p = some (.lst (ns.map V.int)) := by rw [← hH1, upd_ne pq, upd_same]
  have hQ : H1 q = some (.lst (([] : List Int).map V.int)) := by rw [← hH1, upd_same]; rfl
  refine ⟨_, rfl, l, _, rfl, sqk H1 k1, _, rfl, ?_, ?_, ?_⟩
  · omega
  · rw [List.length_map]; omega
  have tn : (((ns.map V.int).length : Nat) : Int).toNat = ns.length := by rw [List.length_map]; omega
  rw [tn]
  refine for_range (lo := 0) (n := ns.length) (fun i σ H' => ∃ (v : Option V) (ms rest : List Int), σ = [some (.ref a), some (.ref l), some (.ref p), some (.ref q), v] ∧ Src H' a ∧ Kp a H H' ∧ ms.length = i ∧ (ms ++ rest).Perm ns ∧ H' p = some (.lst (rest.map V.int)) ∧ H' q = some (.lst (ms.map V.int)))
    ⟨none, [], ns, rfl, s1, k1, rfl, List.Perm.refl _, hP, hQ⟩ ?_ ?_
  · rintro i σ H2 hi ⟨v, ms, rest, rfl, s2, k2, ml, pm, h2, h3⟩
    have lr : rest.length = ns.length - i := by
      have := pm.length_eq
      rw [List.length_append] at this
      omega
    refine ⟨_, rfl, .inl ⟨rfl, _, SqL.of h3⟩, _, rfl, .inl ⟨rfl, _, SqL.of h2⟩, _, rfl, _, rfl, p, _, rfl, .inl (SqL.of h2), ?_⟩
    refine ⟨a, rest.length, by rw [List.length_map]; rfl, s2, by omega, by omega, fun r H3 r0 r1 s3 k3 => ?_⟩
    have h2' := k3 _ _ pa h2
    have h3' := k3 _ _ qa h3
    have lt : r.toNat < rest.length := by omega
    have e1 : rest[r.toNat]? = some rest[r.toNat] := List.getElem?_eq_getElem lt
    refine ⟨p, _, r, r.toNat, .int rest[r.toNat], rfl, rfl, h2', by omega, by omega, ?_, ?_, ?_⟩
    · rw [List.length_map]
      have z := (ixN_seq (n := rest.length) (i := r) (j := r.toNat) (by unfold ixN; rw [if_pos r0, if_pos (by omega)])).1
      exact z
    · rw [List.getElem?_map, e1]; rfl
    · have q3 : (upd H3 p (.lst ((rest.map V.int).eraseIdx r.toNat))) q = some (.lst (ms.map V.int)) := by rw [upd_ne pq.symm]; exact h3'
      refine ⟨q, _, _, rfl, rfl, q3, size_lt (by rw [List.length_map]; omega), ?_⟩
      refine ⟨_, ms ++ [rest[r.toNat]], rest.eraseIdx r.toNat, rfl, (s3.put pa).put qa, ((k2.trans k3).put hp).put hq0, by simp [ml], perm_erase pm e1, ?_, ?_⟩
      · rw [upd_ne pq, upd_same, map_erase]
      · rw [upd_same, List.map_append]; rfl
  · rintro σ H2 ⟨v, ms, rest, rfl, s2, k2, ml, pm, h2, h3⟩
    have r0 : rest = [] := by
      have := pm.length_eq
      rw [List.length_append] at this
      exact List.length_eq_zero_iff.mp (by omega)
    subst r0
    rw [List.append_nil] at pm
    refine ⟨_, rfl, q, _, rfl, .inl ⟨SqL.of h3, fun z hz => ?_⟩⟩
    exact k z ms _ pm (s2.upd hz) (k2.new hz) upd_same
end
end Pl
namespace Pl
open PySem PySem.Spec PyProof.Rows L2





end Pl
namespace Pl
open PySem PySem.Spec PyProof.Rows L2
/-- amounts of a division come out, in a list of tuples -/
def spRows : Sp := fun vs H Q _ => ∃ (a : Addr) (m : Int), vs = [.ref a, .int m] ∧ Src H a ∧ 2 ≤ m ∧ m ≤ 6 ∧
  ∀ (p : Addr) (ts : List Addr) (rows : List (List Int)) (H' : Hp), Rows rows → TpAll H' ts rows → H' p = some (.lst (ts.map V.ref)) → H p = none → Src H' a → Kp a H H' → Q (.ref p) H'
def spLText (K : PySem.W.Frag) : Sp := fun vs H Q _ => ∃ (p : Addr) (ts : List Addr) (rows : List (List Int)), vs = [.ref p] ∧ H p = some (.lst (ts.map V.ref)) ∧ TpAll H ts rows ∧ Rows rows ∧ ∀ H', Same H H' → Q (.str (text rows)) H'
/-- rows are drawn one by one -/
def LInv (a D : Addr) (H0 : Hp) (n i : Nat) (H : Hp) : Prop := Src H a ∧ Kp a H0 H ∧ ∃ (ts : List Addr) (rows : List (List Int)), rows.length = i ∧ (∀ ns ∈ rows, ns.length = n ∧ Am ns) ∧ H D = some (.lst (ts.map V.ref)) ∧ TpAll H ts rows
theorem LInv.start {a D : Addr} {H0 : Hp} {n : Nat} (s : Src H0 a) (h : H0 D = none) : LInv a D H0 n 0 (L2.upd H0 D (.lst [])) := ⟨s.upd h, (Kp.refl a H0).new h, [], [], rfl, fun _ h => (nomatch h), upd_same, .nil⟩
theorem TpAll.kp {a : Addr} {H H' : Hp} {ts : List Addr} {rows : List (List Int)} (h : TpAll H ts rows) (s : Src H a) (k : Kp a H H') : TpAll H' ts rows := ⟨h.1, fun j t ns x y => by
  have z := h.2 j t ns x y
  exact k _ _ (s.neT z) z⟩
theorem LInv.next {a D t : Addr} {H0 H H' : Hp} {n i : Nat} {ns : List Int} (p : LInv a D H0 n i H) (s0 : Src H0 a) (hD : H0 D = none) (hi : i ≤ 100) (s : Src H' a) (k : Kp a H H') (ht : H' t = some (.tup (ns.map V.int))) (ln : ns.length = n) (am : Am ns) :
    ∃ acc, H' D = some (.lst acc) ∧ acc.length < sizeLine ∧ LInv a D H0 n (i + 1) (L2.upd H' D (.lst (acc ++ [.ref t]))) := by
  obtain ⟨s1, k1, ts, rows, e, q, hd, tp⟩ := p
  have da : D ≠ a := s0.ne hD
  have hd2 := k _ _ da hd
  have tp2 := tp.kp s1 k
  refine ⟨_, hd2, size_lt (by rw [List.length_map, tp.1, e]; omega), s.put da, (k1.trans k).put hD, ts ++ [t], rows ++ [ns], by simp [e], fun ms hm => ?_, ?_, ?_⟩
  · rcases List.mem_append.mp hm with h | h
    · exact q ms h
    · rw [List.mem_singleton.mp h]
      exact ⟨ln, am⟩
  · rw [upd_same, List.map_append]
    rfl
  · exact (tp2.put hd2).snoc (by rw [upd_ne (ne_of ht hd2 (by intro z; cases z))]; exact ht)
theorem LInv.done {a D : Addr} {H0 H : Hp} {n i : Nat} (p : LInv a D H0 n i H) (i2 : 2 ≤ i) (i4 : i ≤ 4) (n2 : 2 ≤ n) (n6 : n ≤ 6) : ∃ (ts : List Addr) (rows : List (List Int)), Rows rows ∧ TpAll H ts rows ∧ H D = some (.lst (ts.map V.ref)) ∧ Src H a ∧ Kp a H0 H := by
  obtain ⟨s1, k1, ts, rows, e, q, hd, tp⟩ := p
  exact ⟨ts, rows, ⟨by omega, by omega, n, n2, n6, q⟩, tp, hd, s1, k1⟩
/-- lists of amounts are drawn one by one -/
def SInvL (a D : Addr) (H0 : Hp) (n i : Nat) (H : Hp) : Prop := Src H a ∧ Kp a H0 H ∧ ∃ ts : List Addr, ts.length = i ∧ H D = some (.lst (ts.map V.ref)) ∧ ∀ t ∈ ts, t ≠ a ∧ t ≠ D ∧ ∃ ns : List Int, H t = some (.lst (ns.map V.int)) ∧ ns.length = n ∧ Am ns
theorem SInvL.start {a D : Addr} {H0 : Hp} {n : Nat} (s : Src H0 a) (h : H0 D = none) : SInvL a D H0 n 0 (L2.upd H0 D (.lst [])) := ⟨s.upd h, (Kp.refl a H0).new h, [], rfl, upd_same, fun _ h => (nomatch h)⟩
theorem SInvL.next {a D t : Addr} {H0 H H' : Hp} {n i : Nat} {ns : List Int} (p : SInvL a D H0 n i H) (s0 : Src H0 a) (hD : H0 D = none) (hi : i ≤ 100) (s : Src H' a) (k : Kp a H H') (nt : H' t = none) (ln : ns.length = n) (am : Am ns) :
    ∃ acc, (L2.upd H' t (.lst (ns.map V.int))) D = some (.lst acc) ∧ acc.length < sizeLine ∧ SInvL a D H0 n (i + 1) (L2.upd (L2.upd H' t (.lst (ns.map V.int))) D (.lst (acc ++ [.ref t]))) := by
  obtain ⟨s1, k1, ts, e, hd, al⟩ := p
  have da : D ≠ a := s0.ne hD
  have hd2 := k _ _ da hd
  have dt : D ≠ t := fun z => by rw [z, nt] at hd2; cases hd2
  have ta : t ≠ a := s.ne nt
  refine ⟨ts.map V.ref, by rw [upd_ne dt]; exact hd2, size_lt (by rw [List.length_map, e]; omega), (s.upd nt).put da, ((k1.trans k).new nt).put hD, ts ++ [t], by simp [e], by rw [upd_same, List.map_append]; rfl, fun u hu => ?_⟩
  rcases List.mem_append.mp hu with h | h
  · obtain ⟨b1, b2, ms, b3, b4⟩ := al u h
    have b5 := k _ _ b1 b3
    exact ⟨b1, b2, ms, by rw [upd_ne b2, upd_ne (ne_of_none b5 nt)]; exact b5, b4⟩
  · rw [List.mem_singleton.mp h]
    exact ⟨ta, Ne.symm dt, ns, by rw [upd_ne (Ne.symm dt), upd_same], ln, am⟩
section
variable {P : Program} {w : World} {K : PySem.W.Frag} {mg : Str → Option Value} {base : Heap} {CShare CDivision CNoShare CNoAmounts CNoPerson : Addr}
abbrev st_l_rows : Stmt := top 88
theorem sc_l_rows : FnScope ["_law_source_here", "_law_most", "_law_people", "_law_many", "_law_way", "_law_one", "_law_base", "_law_ranks", "_law_rows_here", "_law_person", "_law_row", "_law_state", "_law_rank"] ["_law_source_here", "_law_most"] (defScope st_l_rows) := ⟨rfl, rfl, rfl, by decide +kernel, rfl, by decide +kernel, by decide +kernel⟩
theorem ok_rows (B : Bn mg) (c_l_draw : Cal P w K mg base 2 "_law_draw" ["_law_source_here", "_law_many"] spDraw) (c_l_amounts : Cal P w K mg base 4 "_law_amounts" ["_law_source_here", "_law_many"] spAmounts) (c_l_mixed : Cal P w K mg base 3 "_law_mixed" ["_law_source_here", "_law_values"] (spMixed K)) (D : Df K mg "_law_rows" st_l_rows ["_law_source_here", "_law_most"]) : Cal P w K mg base 5 "_law_rows" ["_law_source_here", "_law_most"] spRows := by
  refine D.cal sc_l_rows (fun vs H Q E h => ?_) (fun f cdv A out s H vs Q E hr h => ?_)
  · obtain ⟨a, m, rfl, _⟩ := h
    rfl
  obtain ⟨a, m, rfl, src, m2, m6, k⟩ := h
  refine ⟨_, (pss_cons (ps_asg (pe_tup (pa_cons (pe_op op_add pe_int (pe_fn c_l_draw (hr.mono (by decide)) (pa_cons (pv 0) (pa_cons pe_int pa_nil)))) (pa_cons (pe_op op_add pe_int (pe_fn c_l_draw (hr.mono (by decide)) (pa_cons (pv 0) (pa_cons (pe_op op_sub (pv 1) pe_int) pa_nil)))) (pa_cons (pe_fn c_l_draw (hr.mono (by decide)) (pa_cons (pv 0) (pa_cons pe_int pa_nil))) pa_nil)))) (pg_tup rfl (pgs_cons (pg_name (i := 2) sc_l_rows.nd rfl (.inl rfl)) (pgs_cons (pg_name (i := 3) sc_l_rows.nd rfl (.inr rfl)) (pgs_cons (pg_name (i := 4) sc_l_rows.nd rfl (.inl rfl)) pgs_nil)))))
   (pss_cons (ps_asg (pe_tup (pa_cons (pe_fn c_l_amounts (hr.mono (by decide)) (pa_cons (pv 0) (pa_cons (pv 3) pa_nil))) (pa_cons (pe_fn c_l_draw (hr.mono (by decide)) (pa_cons (pv 0) (pa_cons pe_int pa_nil))) pa_nil))) (pg_tup rfl (pgs_cons (pg_name (i := 5) sc_l_rows.nd rfl (.inr rfl)) (pgs_cons (pg_name (i := 6) sc_l_rows.nd rfl (.inr rfl)) pgs_nil))))
   (pss_cons (ps_if (pt_cmpR op_eq (pv 4) pe_int (nomark _)) (pss_one (ps_ret (pe_lc (own := [("_law_person", 9)]) (g := gName 9) rfl sc_l_rows.nd (pi_range1 (by rfl) B.n_range (pa_cons (pv 2) pa_nil)) (blkOk_by (N := ["_law_source_here", "_law_most", "_law_people", "_law_many", "_law_way", "_law_one", "_law_base", "_law_ranks", "_law_rows_here", "_law_person", "_law_row", "_law_state", "_law_rank"]) (sc := defScope st_l_rows) (by decide +kernel)) (fun _ _ _ _ _ => (pg_name (i := 9) sc_l_rows.nd rfl (.inl rfl))) (fun _ _ _ _ _ => pts_nil) (fun _ _ _ _ _ => (pe_fn c_l_mixed (hr.mono (by decide)) (pa_cons (pv 0) (pa_cons (pv 5) pa_nil))))))) pss_nil)
   (pss_cons (ps_if (pt_cmpR op_eq (pv 4) pe_int (nomark _)) (pss_one (ps_ret (pe_lc (own := [("_law_person", 9)]) (g := gName 9) rfl sc_l_rows.nd (pi_range1 (by rfl) B.n_range (pa_cons (pv 2) pa_nil)) (blkOk_by (N := ["_law_source_here", "_law_most", "_law_people", "_law_many", "_law_way", "_law_one", "_law_base", "_law_ranks", "_law_rows_here", "_law_person", "_law_row", "_law_state", "_law_rank"]) (sc := defScope st_l_rows) (by decide +kernel)) (fun _ _ _ _ _ => (pg_name (i := 9) sc_l_rows.nd rfl (.inl rfl))) (fun _ _ _ _ _ => pts_nil) (fun _ _ _ _ _ => (pe_callTy (show CallR _ (.type "tuple") (rTupleOf K) from call_tuple_of) (by rfl) B.n_tuple (by decide +kernel) (pa_cons (pe_lc (own := [("_law_state", 11)]) (g := gName 11) rfl sc_l_rows.nd (pi_range1 (by rfl) B.n_range (pa_cons (pv 3) pa_nil)) (blkOk_in (N := ["_law_source_here", "_law_most", "_law_people", "_law_many", "_law_way", "_law_one", "_law_base", "_law_ranks", "_law_rows_here", "_law_person", "_law_row", "_law_state", "_law_rank"]) (defScope st_l_rows) rfl (by decide +kernel)) (fun _ _ _ _ _ => (pg_name (i := 11) sc_l_rows.nd rfl (.inl rfl))) (fun _ _ _ _ _ => pts_nil) (fun _ _ _ _ _ => (pe_op op_add (pv 6) (pe_fn c_l_draw (hr.mono (by decide)) (pa_cons (pv 0) (pa_cons pe_int pa_nil)))))) pa_nil)))))) pss_nil)
   (pss_cons (ps_if (pt_cmpR op_eq (pv 4) pe_int (nomark _)) (pss_one (ps_ret (pe_lc (own := [("_law_person", 9)]) (g := gName 9) rfl sc_l_rows.nd (pi_range1 (by rfl) B.n_range (pa_cons (pv 2) pa_nil)) (blkOk_by (N := ["_law_source_here", "_law_most", "_law_people", "_law_many", "_law_way", "_law_one", "_law_base", "_law_ranks", "_law_rows_here", "_law_person", "_law_row", "_law_state", "_law_rank"]) (sc := defScope st_l_rows) (by decide +kernel)) (fun _ _ _ _ _ => (pg_name (i := 9) sc_l_rows.nd rfl (.inl rfl))) (fun _ _ _ _ _ => pts_nil) (fun _ _ _ _ _ => (pe_callTy (show CallR _ (.type "tuple") (rTupleOf K) from call_tuple_of) (by rfl) B.n_tuple (by decide +kernel) (pa_cons (pe_lc (own := [("_law_state", 11)]) (g := gName 11) rfl sc_l_rows.nd (pi_range1 (by rfl) B.n_range (pa_cons (pv 3) pa_nil)) (blkOk_in (N := ["_law_source_here", "_law_most", "_law_people", "_law_many", "_law_way", "_law_one", "_law_base", "_law_ranks", "_law_rows_here", "_law_person", "_law_row", "_law_state", "_law_rank"]) (defScope st_l_rows) rfl (by decide +kernel)) (fun _ _ _ _ _ => (pg_name (i := 11) sc_l_rows.nd rfl (.inl rfl))) (fun _ _ _ _ _ => pts_nil) (fun _ _ _ _ _ => (pe_op op_add (pv 6) (pe_fn c_l_draw (hr.mono (by decide)) (pa_cons (pv 0) (pa_cons pe_int pa_nil)))))) pa_nil)))))) pss_nil)
   (pss_cons (ps_if (pt_cmpR op_eq (pv 4) pe_int (nomark _)) (pss_cons (ps_set (i := 7) sc_l_rows.nd rfl (.inr rfl) (pe_fn c_l_mixed (hr.mono (by decide)) (pa_cons (pv 0) (pa_cons (pe_listRg rfl (by rfl) B.n_list (prg_1 (by rfl) B.n_range (pv 3))) pa_nil))))
   (pss_cons (ps_setLc (i := 8) (own := [("_law_person", 9)]) (g := gName 9) rfl sc_l_rows.nd rfl rfl (sw_true rfl rfl rfl (by decide +kernel)) (pi_range1 (by rfl) B.n_range (pa_cons (pv 2) pa_nil)) (blkOk_by (N := ["_law_source_here", "_law_most", "_law_people", "_law_many", "_law_way", "_law_one", "_law_base", "_law_ranks", "_law_rows_here", "_law_person", "_law_row", "_law_state", "_law_rank"]) (sc := defScope st_l_rows) (by decide +kernel)) (fun _ _ _ _ _ => (pg_name (i := 9) sc_l_rows.nd rfl (.inl rfl))) (fun _ _ _ _ _ => pts_nil) (fun _ _ _ _ _ => (pe_callB (show CallR _ (.builtin "sorted") (rSortedT K) from call_sortedT) (by rfl) B.n_sorted (by decide +kernel) (pa_cons (pe_fn c_l_amounts (hr.mono (by decide)) (pa_cons (pv 0) (pa_cons (pv 3) pa_nil))) pa_nil))))
   (pss_one (ps_ret (pe_lc (own := [("_law_row", 10)]) (g := gName 10) rfl sc_l_rows.nd (pi_list (pv 8)) (blkOk_by (N := ["_law_source_here", "_law_most", "_law_people", "_law_many", "_law_way", "_law_one", "_law_base", "_law_ranks", "_law_rows_here", "_law_person", "_law_row", "_law_state", "_law_rank"]) (sc := defScope st_l_rows) (by decide +kernel)) (fun _ _ _ _ _ => (pg_name (i := 10) sc_l_rows.nd rfl (.inr rfl))) (fun _ _ _ _ _ => pts_nil) (fun _ _ _ _ _ => (pe_callTy (show CallR _ (.type "tuple") (rTupleOf K) from call_tuple_of) (by rfl) B.n_tuple (by decide +kernel) (pa_cons (pe_lc (own := [("_law_rank", 12)]) (g := gName 12) rfl sc_l_rows.nd (pi_tupK (K := K) (pv 7)) (blkOk_in (N := ["_law_source_here", "_law_most", "_law_people", "_law_many", "_law_way", "_law_one", "_law_base", "_law_ranks", "_law_rows_here", "_law_person", "_law_row", "_law_state", "_law_rank"]) (defScope st_l_rows) rfl (by decide +kernel)) (fun _ _ _ _ _ => (pg_name (i := 12) sc_l_rows.nd rfl (.inl rfl))) (fun _ _ _ _ _ => pts_nil) (fun _ _ _ _ _ => (pe_ix (show IxR _ (rIxL K) from ix_list) (pv 10) (pv 12) (fun _ _ => rfl)))) pa_nil)))))))) pss_nil)
   (pss_one (ps_ret (pe_lc (own := [("_law_person", 9)]) (g := gName 9) rfl sc_l_rows.nd (pi_range1 (by rfl) B.n_range (pa_cons (pv 2) pa_nil)) (blkOk_by (N := ["_law_source_here", "_law_most", "_law_people", "_law_many", "_law_way", "_law_one", "_law_base", "_law_ranks", "_law_rows_here", "_law_person", "_law_row", "_law_state", "_law_rank"]) (sc := defScope st_l_rows) (by decide +kernel)) (fun _ _ _ _ _ => (pg_name (i := 9) sc_l_rows.nd rfl (.inl rfl))) (fun _ _ _ _ _ => pts_nil) (fun _ _ _ _ _ => (pe_fn c_l_amounts (hr.mono (by decide)) (pa_cons (pv 0) (pa_cons (pv 3) pa_nil))))))))))))), ?_⟩
  refine ⟨_, rfl, a, 3, rfl, src, by decide, by decide, fun r1 H1 r10 r11 s1 k1 => ⟨_, _, rfl, rfl, ?_⟩⟩
  refine ⟨_, rfl, _, rfl, _, _, rfl, rfl, a, m - 1, rfl, s1, by omega, by omega, fun r2 H2 r20 r21 s2 k2 => ⟨_, _, rfl, rfl, ?_⟩⟩
  refine ⟨_, rfl, a, 6, rfl, s2, by decide, by decide, fun way H3 w0 w1 s3 k3 => ?_⟩
  refine ⟨(by show 3 ≤ sizeLine; decide), fun q1 hq1 => ⟨q1, _, rfl, SqT.of upd_same, rfl, _, _, rfl, _, _, rfl, _, _, rfl, rfl, ?_⟩⟩
  have s3' : Src (upd H3 q1 (.tup [.int (2 + r1), .int (2 + r2), .int way])) a := s3.upd hq1
  have k3' : Kp a H (upd H3 q1 (.tup [.int (2 + r1), .int (2 + r2), .int way])) := ((k1.trans k2).trans k3).new hq1
  generalize upd H3 q1 _ = H4 at s3' k3' ⊢
  have en : (((2 + r2).toNat : Nat) : Int) = 2 + r2 := by omega
  refine ⟨_, rfl, _, rfl, a, (2 + r2).toNat, by rw [en]; rfl, s3', by omega, by omega, fun t1 n1 H5 nl1 am1 s5 k5 ht1 => ?_⟩
  refine ⟨_, rfl, a, 28, rfl, s5, by decide, by decide, fun bs H6 b0 b1 s6 k6 => ?_⟩
  refine ⟨(by show 2 ≤ sizeLine; decide), fun q2 hq2 => ⟨q2, _, rfl, SqT.of upd_same, rfl, _, _, rfl, _, _, rfl, rfl, ?_⟩⟩
  have ht6 : (upd H6 q2 (.tup [.ref t1, .int bs])) t1 = some (.tup (n1.map V.int)) := by rw [upd_ne (ne_of_none (k6 _ _ (s5.neT ht1) ht1) hq2)]; exact k6 _ _ (s5.neT ht1) ht1
  have s7 : Src (upd H6 q2 (.tup [.ref t1, .int bs])) a := s6.upd hq2
  have k7 : Kp a H (upd H6 q2 (.tup [.ref t1, .int bs])) := ((k3'.trans k5).trans k6).new hq2
  generalize upd H6 q2 _ = H7 at ht6 s7 k7 ⊢
  have fin : ∀ {D : Addr} {H' : Hp}, H7 D = none → LInv a D H7 (2 + r2).toNat (2 + r1).toNat H' → Q (.ref D) H' := fun {D H'} hD p => by
    obtain ⟨ts, rows, c1, c2, c3, c4, c5⟩ := p.done (by omega) (by omega) (by omega) (by omega)
    exact k D ts rows H' c1 c2 c3 (k7.free (s7.ne hD) hD) c4 (k7.trans c5)
  refine ⟨_, rfl, rfl, _, rfl, ite2 (fun c => ?_) (fun c => ?_)⟩
  · refine ⟨_, rfl, 2 + r1, rfl, by omega, by omega, fun D hD => lc_range (lo := 0) (n := (2 + r1).toNat) (LInv a D H7 (2 + r2).toNat) (LInv.start s7 hD) (fun i H8 hi p => ⟨rfl, tyes ?_⟩) (fun H8 p => fin hD p)⟩
    have s8 := p.1
    have ht8 := p.2.1 _ _ (s7.neT ht6) ht6
    refine ⟨_, rfl, _, rfl, a, t1, n1, rfl, s8, .inr (SqT.of ht8), fun H9 k9 => .inr (SqT.of (k9 _ _ (s8.neT ht8) ht8)), by omega, fun u ms H9 pm s9 k9 hu => ?_⟩
    exact p.next s7 hD (by omega) s9 k9 hu (by rw [pm.length_eq]; exact nl1) fun x hx => am1 x (pm.mem_iff.mp hx)
  refine ⟨_, rfl, rfl, _, rfl, ite2 (fun c => ?_) (fun c => ?_)⟩
  · refine ⟨_, rfl, 2 + r1, rfl, by omega, by omega, fun D hD => lc_range (lo := 0) (n := (2 + r1).toNat) (LInv a D H7 (2 + r2).toNat) (LInv.start s7 hD) (fun i H8 hi p => ⟨rfl, tyes ?_⟩) (fun H8 p => fin hD p)⟩
    refine ⟨_, rfl, 2 + r2, rfl, by omega, by omega, fun D2 hD2 => lc_range (lo := 0) (n := (2 + r2).toNat) (AInv a D2 H8) (AInv.start p.1 hD2) (fun j H9 hj p2 => ⟨rfl, tyes ?_⟩) (fun H9 p2 => ?_)⟩
    · refine ⟨_, rfl, _, rfl, a, 2, rfl, p2.src, by decide, by decide, fun r H10 r0 r1 s10 k10 => ⟨_, _, rfl, rfl, ?_⟩⟩
      exact p2.next (by omega) hD2 (p.1.ne hD2) s10 k10 (by omega) (by omega)
    · obtain ⟨ns, e, am, s9, kp, hd2⟩ := p2
      exact ⟨D2, _, rfl, .inl ⟨SqL.of hd2, fun l hl => p.next s7 hD (by omega) (s9.upd hl) (kp.new hl) upd_same e am⟩⟩
  refine ⟨_, rfl, rfl, _, rfl, ite2 (fun c => ?_) (fun c => ?_)⟩
  · refine ⟨_, rfl, 2 + r1, rfl, by omega, by omega, fun D hD => lc_range (lo := 0) (n := (2 + r1).toNat) (LInv a D H7 (2 + r2).toNat) (LInv.start s7 hD) (fun i H8 hi p => ⟨rfl, tyes ?_⟩) (fun H8 p => fin hD p)⟩
    refine ⟨_, rfl, 2 + r2, rfl, by omega, by omega, fun D2 hD2 => lc_range (lo := 0) (n := (2 + r2).toNat) (AInv a D2 H8) (AInv.start p.1 hD2) (fun j H9 hj p2 => ⟨rfl, tyes ?_⟩) (fun H9 p2 => ?_)⟩
    · refine ⟨_, rfl, _, rfl, a, 3, rfl, p2.src, by decide, by decide, fun r H10 r0 r1 s10 k10 => ⟨_, _, rfl, rfl, ?_⟩⟩
      exact p2.next (by omega) hD2 (p.1.ne hD2) s10 k10 (by omega) (by omega)
    · obtain ⟨ns, e, am, s9, kp, hd2⟩ := p2
      exact ⟨D2, _, rfl, .inl ⟨SqL.of hd2, fun l hl => p.next s7 hD (by omega) (s9.upd hl) (kp.new hl) upd_same e am⟩⟩
  refine ⟨_, rfl, rfl, _, rfl, ite2 (fun c => ?_) (fun c => ?_)⟩
  · refine ⟨_, rfl, _, rfl, _, rfl, RgOk.of_le (by omega) (by omega) (by omega) (by omega), fun l hl => ?_⟩
    have s8 : Src (upd H7 l (.lst (rgV 0 (2 + r2)))) a := s7.upd hl
    have k8 : Kp a H7 (upd H7 l (.lst (rgV 0 (2 + r2)))) := (Kp.refl a H7).new hl
    have hl8 : (upd H7 l (.lst (rgV 0 (2 + r2)))) l = some (.lst (rgV 0 (2 + r2))) := upd_same
    generalize upd H7 l _ = H8 at s8 k8 hl8 ⊢
    have la : l ≠ a := s7.ne hl
    have er : rgV 0 (2 + r2) = ((List.range (2 + r2).toNat).map fun i => ((i : Nat) : Int)).map V.int := by
      unfold rgV
      rw [List.map_map, Int.sub_zero]
      refine List.map_congr_left fun i _ => ?_
      show V.int (0 + (i : Int)) = V.int i
      rw [Int.zero_add]
    rw [er] at hl8
    refine ⟨a, l, _, rfl, s8, .inl (SqL.of hl8), fun H9 k9 => .inl (SqL.of (k9 _ _ la hl8)), by simp; omega, fun u ms H9 pm s9 k9 hu => ?_⟩
    have mb : ∀ x ∈ ms, 0 ≤ x ∧ x < 2 + r2 := fun x hx => by
      obtain ⟨i, hi, rfl⟩ := List.mem_map.mp (pm.mem_iff.mp hx)
      have := List.mem_range.mp hi
      omega
    have ml : ms.length = (2 + r2).toNat := by rw [pm.length_eq]; simp
    refine ⟨_, rfl, 2 + r1, rfl, by omega, by omega, fun D hD => lc_range (lo := 0) (n := (2 + r1).toNat) (SInvL a D H9 (2 + r2).toNat) (SInvL.start s9 hD) (fun i H10 hi p => ⟨rfl, tyes ?_⟩) (fun H10 p => ?_)⟩
    · refine ⟨_, rfl, _, rfl, a, (2 + r2).toNat, by rw [en]; rfl, p.1, by omega, by omega, fun v ns H11 nl am s11 k11 hv => ?_⟩
      refine ⟨v, ns, rfl, SqT.of hv, by omega, fun ns' q pm2 _ nq => ?_⟩
      exact p.next s9 hD (by omega) s11 k11 nq (by rw [pm2.length_eq]; exact nl) fun x hx => am x (pm2.mem_iff.mp hx)
    · have s10 := p.1
      have hu10 := p.2.1 _ _ (s9.neT hu) hu
      obtain ⟨_, k10, ts, te, hd, al⟩ := p
      have da : D ≠ a := s9.ne hD
      have k10' : Kp a H7 H10 := (k8.trans k9).trans k10
      refine ⟨_, rfl, D, rfl, ⟨_, SqL.of hd⟩, fun D2 hD2 => lc_list (K := K) (a := D) (xs := ts.map V.ref) (LInv a D2 H10 (2 + r2).toNat) (LInv.start s10 hD2) (fun i H11 _ q => SqL.of (q.2.1 _ _ da hd)) (fun i x H11 hx q => ⟨rfl, tyes ?_⟩) (fun H11 q => ?_)⟩
      · rw [List.getElem?_map] at hx
        cases e : ts[i]? with
        | none => rw [e] at hx; cases hx
        | some t2 =>
          rw [e] at hx
          obtain rfl : V.ref t2 = x := Option.some.inj hx
          obtain ⟨b1, b2, ns, b3, nl, am⟩ := al t2 (List.mem_of_getElem? e)
          have il := (List.getElem?_eq_some_iff.mp e).1
          have s11 := q.1
          have hu11 := q.2.1 _ _ (s10.neT hu10) hu10
          have b11 := q.2.1 _ _ b1 b3
          refine ⟨_, rfl, u, rfl, ⟨_, SqT.of hu11⟩, fun D3 hD3 => lc_tup (K := K) (a := u) (xs := ms.map V.int) (AInv a D3 H11) (AInv.start s11 hD3) (fun j H12 _ p2 => ?_) (fun j y H12 hy p2 => ⟨rfl, tyes ?_⟩) (fun H12 p2 => ?_)⟩
          · obtain ⟨_, _, _, _, kp, _⟩ := p2
            exact SqT.of (kp _ _ (s11.neT hu11) hu11)
          · rw [List.getElem?_map] at hy
            cases e2 : ms[j]? with
            | none => rw [e2] at hy; cases hy
            | some r =>
              rw [e2] at hy
              obtain rfl : V.int r = y := Option.some.inj hy
              have rb := mb r (List.mem_of_getElem? e2)
              obtain ⟨z, z1, z2, z3⟩ := at_int (ms := ns) (r := r) rb.1 (by omega)
              have kp : Kp a H11 H12 := by
                obtain ⟨_, _, _, _, kp, _⟩ := p2
                exact kp
              have jl := (List.getElem?_eq_some_iff.mp e2).1
              exact ⟨_, rfl, _, rfl, t2, _, _, _, rfl, rfl, SqL.of (kp _ _ b1 b11), z3, p2.next (by omega) hD3 (s11.ne hD3) p2.src (Kp.refl a H12) (am z z2).1 (am z z2).2⟩
          · rw [List.length_map] at p2
            obtain ⟨zs, e3, am3, s12, kp, hd3⟩ := p2
            exact ⟨D3, _, rfl, .inl ⟨SqL.of hd3, fun l2 hl2 => q.next s10 hD2 (by omega) (s12.upd hl2) (kp.new hl2) upd_same (by omega) am3⟩⟩
      · rw [List.length_map, te] at q
        obtain ⟨us, rows, c1, c2, c3, c4, c5⟩ := q.done (by omega) (by omega) (by omega) (by omega)
        exact k D2 us rows H11 c1 c2 c3 (k7.free (s7.ne (k10'.free (s10.ne hD2) hD2)) (k10'.free (s10.ne hD2) hD2)) c4 ((k7.trans k10').trans c5)
  · refine ⟨_, rfl, 2 + r1, rfl, by omega, by omega, fun D hD => lc_range (lo := 0) (n := (2 + r1).toNat) (LInv a D H7 (2 + r2).toNat) (LInv.start s7 hD) (fun i H8 hi p => ⟨rfl, tyes ?_⟩) (fun H8 p => fin hD p)⟩
    exact ⟨_, rfl, _, rfl, a, (2 + r2).toNat, by rw [en]; rfl, p.1, by omega, by omega, fun u ms H9 nl am s9 k9 hu => p.next s7 hD (by omega) s9 k9 hu nl am⟩
end
end Pl
namespace Pl
open PySem PySem.Spec PyProof.Rows L2
section
variable {P : Program} {w : World} {K : PySem.W.Frag} {mg : Str → Option Value} {base : Heap} {CShare CDivision : Addr}
abbrev st_l_text : Stmt := top 89
theorem sc_l_text : FnScope ["_law_rows_here", "_law_row", "_law_amount"] ["_law_rows_here"] (defScope st_l_text) := ⟨rfl, rfl, rfl, by decide +kernel, rfl, by decide +kernel, by decide +kernel⟩
theorem ok_ltext (B : Bn mg) (D : Df K mg "_law_text" st_l_text ["_law_rows_here"]) : Cal P w K mg base 2 "_law_text" ["_law_rows_here"] (spLText K) := by
  refine D.cal sc_l_text (fun vs H Q E h => ?_) (fun f cdv A out s H vs Q E hr h => ?_)
  · obtain ⟨p, ts, rows, rfl, _⟩ := h
    rfl
  obtain ⟨p, ts, rows, rfl, hp, tp, rw_, k⟩ := h
  refine ⟨_, (pss_one (ps_ret (pe_join pe_str (pe_lc (own := [("_law_row", 1)]) (g := gName 1) rfl sc_l_text.nd (pi_list (pv 0)) (blkOk_by (N := ["_law_rows_here", "_law_row", "_law_amount"]) (sc := defScope st_l_text) (by decide +kernel)) (fun _ _ _ _ _ => (pg_name (i := 1) sc_l_text.nd rfl (.inl rfl))) (fun _ _ _ _ _ => pts_nil) (fun _ _ _ _ _ => (pe_op op_add_str (pe_joinK (K := K) pe_str (pe_lc (own := [("_law_amount", 2)]) (g := gName 2) rfl sc_l_text.nd (pi_tupK (K := K) (pv 1)) (blkOk_in (N := ["_law_rows_here", "_law_row", "_law_amount"]) (defScope st_l_text) rfl (by decide +kernel)) (fun _ _ _ _ _ => (pg_name (i := 2) sc_l_text.nd rfl (.inl rfl))) (fun _ _ _ _ _ => pts_nil) (fun _ _ _ _ _ => (pe_callTy call_str_int (by rfl) B.n_str (by decide +kernel) (pa_cons (pv 2) pa_nil))))) pe_str)))))), ?_⟩
  have ln := tp.1
  have l4 := rw_.2.1
  refine ⟨⟨_, rfl⟩, ?_⟩
  refine ⟨_, rfl, p, rfl, ⟨_, SqL.of hp⟩, fun D hD => lc_list (K := K) (a := p) (xs := ts.map V.ref)
    (fun i H' => Same H H' ∧ H' D = some (.lst (((rows.map fun ns => line ns ++ "\n").take i).map V.str))) ⟨same_new (Same.refl H) hD, upd_same⟩ (fun i H' _ q => SqL.of (q.1 _ _ hp)) (fun i x H' hx q => ⟨rfl, tyes ?_⟩) (fun H' q => ?_)⟩
  · rw [List.getElem?_map] at hx
    cases e : ts[i]? with
    | none => rw [e] at hx; cases hx
    | some t1 =>
      rw [e] at hx
      obtain rfl : V.ref t1 = x := Option.some.inj hx
      have il := (List.getElem?_eq_some_iff.mp e).1
      have en : rows[i]? = some rows[i] := List.getElem?_eq_getElem (by omega)
      generalize rows[i] = ns at en
      have ht := q.1 _ _ (tp.2 i t1 ns e en)
      have m := List.mem_of_getElem? en
      have am := rw_.am ns m
      have lb := line_len am
      have l6 := rw_.l6 m
      refine ⟨⟨_, rfl⟩, ?_⟩
      refine ⟨_, rfl, t1, rfl, ⟨_, SqT.of ht⟩, fun D2 hD2 => lc_tup (K := K) (a := t1) (xs := ns.map V.int) (fun j H2 => Same H' H2 ∧ H2 D2 = some (.lst (((ns.map wd).take j).map V.str)))
        ⟨same_new (Same.refl H') hD2, upd_same⟩ (fun j H2 _ q2 => SqT.of (q2.1 _ _ ht)) (fun j x2 H2 hx2 q2 => ⟨rfl, tyes ?_⟩) (fun H2 q2 => ?_)⟩
      · rw [List.getElem?_map] at hx2
        cases e2 : ns[j]? with
        | none => rw [e2] at hx2; cases hx2
        | some n =>
          rw [e2] at hx2
          obtain rfl : V.int n = x2 := Option.some.inj hx2
          have a := am n (List.mem_of_getElem? e2)
          refine ⟨_, rfl, n, rfl, log_am a.1 a.2, _, q2.2, size_lt (by rw [List.length_map, List.length_take, List.length_map]; omega), same_put q2.1 hD2, ?_⟩
          have e3 : (ns.map wd)[j]? = some (wd n) := by rw [List.getElem?_map, e2]; rfl
          rw [upd_same, List.take_add_one, e3, List.map_append]
          rfl
      · have e2 := q2.2
        rw [List.length_map, ← List.length_map (f := wd), List.take_length] at e2
        refine ⟨_, D2, ns.map wd, rfl, rfl, .inl (SqL.of e2), ?_, ?_⟩
        · have := words_len am
          have l1 : (" " : Str).length = 1 := rfl
          rw [l1, List.length_map]
          omega
        · rw [TL.join_eq]
          have lz2 : (line ns).length + ("\n" : Str).length ≤ sizeLine := size_of (by show (line ns).length + 1 ≤ 1000; omega)
          refine ⟨_, _, rfl, rfl, lz2, _, q2.1 _ _ q.2, size_lt (by rw [List.length_map, List.length_take, List.length_map]; omega), same_put (q.1.trans q2.1) hD, ?_⟩
          have e3 : (rows.map fun ns => line ns ++ "\n")[i]? = some (line ns ++ "\n") := by rw [List.getElem?_map, en]; rfl
          rw [upd_same, List.take_add_one, e3, List.map_append]
          rfl
  · have e := q.2
    rw [List.length_map, ln, ← List.length_map (f := fun ns => line ns ++ "\n"), List.take_length] at e
    refine ⟨_, D, _, rfl, rfl, .inl (SqL.of e), ?_, ?_⟩
    · have z : ("" : Str).length = 0 := rfl
      rw [z, Nat.mul_zero, Nat.add_zero]
      refine Nat.le_trans (m := 19 * rows.length) ?_ (by omega)
      have all : ∀ ns ∈ rows, (line ns ++ "\n").length ≤ 19 := fun ns hn => by
        rw [TL.len_tl, TL.tl_append, List.length_append, ← TL.len_tl]
        have := line_len (rw_.am ns hn)
        have := rw_.l6 hn
        show (line ns).length + 1 ≤ 19
        omega
      exact sum_le all
    · rw [TL.join_eq]
      exact k H' q.1
end
end Pl
namespace Pl
open PySem PySem.Spec PyProof.Rows L2
/-! what may be asked whether it is a ring -/
def NtK (K : PySem.W.Frag) (H : Hp) (x : V) : Prop := NoTu K H x ∧ ∀ p, x = .ref p → ∃ o, H p = some o ∧ ∀ xs, o ≠ .tup xs
def TuK (K : PySem.W.Frag) (H : Hp) (y : V) : Prop := ∃ (q : Addr) (xs : List V), y = .ref q ∧ H q = some (.tup xs) ∧ xs.length ≤ 100 ∧ ∀ v ∈ xs, Kd K H v
def TgK (K : PySem.W.Frag) (H : Hp) (x : V) : Prop := NtK K H x ∨ (∃ (p : Addr) (xs : List V), x = .ref p ∧ H p = some (.tup xs) ∧ xs.length ≠ 2) ∨ ∃ (p : Addr) (y z : V), x = .ref p ∧ H p = some (.tup [y, z]) ∧ (NtK K H y ∨ (TuK K H y ∧ (NtK K H z ∨ TuK K H z)))



theorem NtK.noTup {K : PySem.W.Frag} {H : Hp} {x : V} (h : NtK K H x) : ∀ p xs, x = .ref p → H p ≠ some (.tup xs) := fun p xs e z => by
  obtain ⟨o, e2, n⟩ := h.2 p e
  rw [e2] at z
  cases z
  exact n xs rfl
/-- it is a ring -/
def RgG (H : Hp) (rows : List (List Int)) (x : V) : Prop := ∃ (T q r : Addr) (ss g : List Nat), x = .ref T ∧ H T = some (.tup [.ref q, .ref r]) ∧ H q = some (.tup (iV ss)) ∧ H r = some (.tup (iV g)) ∧ IsRing rows (List.range rows.length) ss g
theorem showT {K : PySem.W.Frag} {CD C : Addr} {H : Hp} {Q : VK} {E : XK} {d t : Addr} {sd : List Addr} {rows : List (List Int)} {x : V} (h : TgK K H x) (dv : DvAt CD C H d t sd rows) (k : ∀ (b : Bool) (H' : Hp), Same H H' → (b = true ↔ RgG H rows x) → Q (.bl b) H') : spShowR K CD C [.ref d, x] H Q E := by
  have no : ∀ H', Same H H' → (¬ RgG H rows x) → Q (.bl false) H' := fun H' k' n => k false H' k' ⟨fun z => (nomatch z), fun z => absurd z n⟩
  refine ⟨d, t, sd, rows, x, rfl, dv, ?_⟩
  rcases h with h | ⟨p, xs, rfl, h, l⟩ | ⟨p, y, z, rfl, h, u⟩
  · exact .inl ⟨h.1, no H (Same.refl _) fun ⟨T, q, r, ss, g, e, h1, _⟩ => h.noTup _ _ e h1⟩
  · refine .inr (.inl ⟨p, xs, rfl, h, l, no H (Same.refl _) fun ⟨T, q, r, ss, g, e, h1, _⟩ => ?_⟩)
    cases e
    rw [h] at h1
    cases h1
    exact l rfl
  · refine .inr (.inr ⟨p, y, z, rfl, h, ?_⟩)
    rcases u with u | ⟨⟨q, xs, rfl, hq, l1, f1⟩, u⟩
    · refine .inl ⟨u.1, no H (Same.refl _) fun ⟨T, q, r, ss, g, e, h1, h2, _⟩ => ?_⟩
      cases e
      rw [h] at h1
      cases h1
      exact u.noTup _ _ rfl h2
    · refine .inr ⟨q, xs, rfl, hq, l1, f1, ?_⟩
      rcases u with u | ⟨r, zs, rfl, hr, l2, f2⟩
      · refine .inl ⟨u.1, fun H' k' => no H' k' fun ⟨T, q, r, ss, g, e, h1, h2, h3, _⟩ => ?_⟩
        cases e
        rw [h] at h1
        cases h1
        exact u.noTup _ _ rfl h3
      · refine .inr ⟨r, zs, rfl, hr, l2, f2, fun b H' k' hb => k b H' k' (hb.trans ⟨fun ⟨ss, g, e1, e2, ir⟩ => ⟨p, q, r, ss, g, rfl, h, by rw [hq, e1], by rw [hr, e2], ir⟩, fun ⟨T, q', r', ss, g, e, h1, h2, h3, ir⟩ => ?_⟩)⟩
        cases e
        rw [h] at h1
        cases h1
        rw [hq] at h2
        rw [hr] at h3
        cases h2
        cases h3
        exact ⟨ss, g, rfl, rfl, ir⟩
end Pl
namespace Pl
open PySem PySem.Spec PyProof.Rows L2
/-- a tuple of numbers of the states -/
def LvG (H : Hp) (rows : List (List Int)) (y : V) : Prop := ∃ (q : Addr) (xs : List V), y = .ref q ∧ H q = some (.tup xs) ∧ LvD rows xs
/-- it is a verdict -/
def VdG (H : Hp) (rows : List (List Int)) (x : V) : Prop := ∃ (p : Addr) (wo : Str) (y : V), x = .ref p ∧ H p = some (.tup [.str wo, y]) ∧ ((wo = "ring" ∧ RgG H rows y) ∨ (wo = "levels" ∧ LvG H rows y))
/-- what may be asked whether it is a verdict -/
def TwK (K : PySem.W.Frag) (H : Hp) (x : V) : Prop := NtK K H x ∨ (∃ (p : Addr) (xs : List V), x = .ref p ∧ H p = some (.tup xs) ∧ xs.length ≠ 2) ∨ ∃ (p : Addr) (y z : V) (dy : PyData), x = .ref p ∧ H p = some (.tup [y, z]) ∧ Dp K H y dy ∧ SeqAt.shaped dy = true ∧ (∃ ty b, TyX K H y ty ∧ PySem.W.kitOne K ty (.type "str") = some b ∧ (b = true ↔ ∃ s, y = .str s)) ∧ TgK K H z ∧ (NtK K H z ∨ TuK K H z)


theorem eqStr {d : PyData} {s : Str} : PyData.eqv d (.str s) = true ↔ d = .str s := by
  cases d <;> simp [PyData.eqv]
def spShowVA (K : PySem.W.Frag) (CD C : Addr) : Sp := fun vs H Q _ => ∃ (d t : Addr) (ss : List Addr) (rows : List (List Int)) (x : V), vs = [.ref d, x] ∧ DvAt CD C H d t ss rows ∧ TwK K H x ∧ ∀ (b : Bool) (H' : Hp), Same H H' → (b = true ↔ VdG H rows x) → Q (.bl b) H'


section
variable {P : Program} {w : World} {K : PySem.W.Frag} {mg : Str → Option Value} {base : Heap} {CShare CDivision CNoPerson : Addr}
abbrev st_shows_verdict : Stmt := top 42
theorem sc_shows_verdict : FnScope ["division", "thing", "word", "reason"] ["division", "thing"] (defScope st_shows_verdict) := ⟨rfl, rfl, rfl, by decide +kernel, rfl, by decide +kernel, by decide +kernel⟩
theorem ok_showVA (B : Bn mg) (c_check_division : Cal P w K mg base 1 "check_division" ["thing"] (spCheckD CDivision CShare)) (c_is_pair : Cal P w K mg base 1 "is_pair" ["thing"] (spIsPair K)) (c_shows_ring : Cal P w K mg base 7 "shows_ring" ["division", "thing"] (spShowR K CDivision CShare)) (c_shows_levels : Cal P w K mg base 7 "shows_levels" ["division", "thing"] (spShowV K CDivision CShare)) (D : Df K mg "shows_verdict" st_shows_verdict ["division", "thing"]) : Cal P w K mg base 8 "shows_verdict" ["division", "thing"] (spShowVA K CDivision CShare) := by
  refine D.cal sc_shows_verdict (fun vs H Q E h => ?_) (fun f cdv A out s H vs Q E hr h => ?_)
  · obtain ⟨d, t, ss, rows, x, rfl, _⟩ := h
    rfl
  obtain ⟨d, t, ss, rows, x, rfl, dv, tw, k⟩ := h
  refine ⟨_, (pss_cons (ps_expr (pe_fn c_check_division (hr.mono (by decide)) (pa_cons (pv 0) pa_nil)))
   (pss_cons (ps_if (pt_not (pt_val (pe_fn c_is_pair (hr.mono (by decide)) (pa_cons (pv 1) pa_nil)))) (pss_one (ps_ret pe_bl)) pss_nil)
   (pss_cons (ps_asg (pv 1) (pg_tup rfl (pgs_cons (pg_name (i := 2) sc_shows_verdict.nd rfl (.inl rfl)) (pgs_cons (pg_name (i := 3) sc_shows_verdict.nd rfl (.inl rfl)) pgs_nil))))
   (pss_cons (ps_if (pt_cmpR (op_eqD hr.units) (pv 2) pe_str (nomark _)) (pss_one (ps_ret (pe_fn c_shows_ring (hr.mono (by decide)) (pa_cons (pv 0) (pa_cons (pv 3) pa_nil))))) pss_nil)
   (pss_one (ps_ret (pe_and (pe_cmpR (op_eqD hr.units) (pv 2) pe_str (nomark _)) (pe_one (pe_fn c_shows_levels (hr.mono (by decide)) (pa_cons (pv 0) (pa_cons (pv 3) pa_nil))))))))))), ?_⟩
  have no : ∀ H', Same H H' → (¬ VdG H rows x) → Q (.bl false) H' := fun H' k' n => k false H' k' ⟨fun z => (nomatch z), fun z => absurd z n⟩
  refine ⟨_, rfl, d, t, ss, rows, rfl, dv, ?_⟩
  rcases tw with h | ⟨p, xs, rfl, h, l⟩ | ⟨p, y, z, dy, rfl, h, dpy, shy, _, tz, nz⟩
  · obtain ⟨ty, tx, kt⟩ := h.1
    exact ⟨_, rfl, x, rfl, .inl ⟨ty, tx, kt, _, rfl, iteT (no H (Same.refl _) fun ⟨p, wo, y, e, h1, _⟩ => h.noTup _ _ e h1)⟩⟩
  · refine ⟨_, rfl, _, rfl, .inr ⟨p, xs, rfl, h, _, rfl, ?_⟩⟩
    rw [decide_eq_false l]
    refine iteT (no H (Same.refl _) fun ⟨p, wo, y, e, h1, _⟩ => ?_)
    cases e
    rw [h] at h1
    cases h1
    exact l rfl
  refine ⟨_, rfl, _, rfl, .inr ⟨p, _, rfl, h, _, rfl, iteF ?_⟩⟩
  refine ⟨_, rfl, p, _, rfl, SqT.of h, rfl, _, _, rfl, _, _, rfl, rfl, ?_⟩
  have vd : VdG H rows (.ref p) ↔ ∃ wo, y = .str wo ∧ ((wo = "ring" ∧ RgG H rows z) ∨ (wo = "levels" ∧ LvG H rows z)) := by
    constructor
    · rintro ⟨p', wo, y', e, h1, q⟩
      cases e
      rw [h] at h1
      cases h1
      exact ⟨wo, rfl, q⟩
    · rintro ⟨wo, rfl, q⟩
      exact ⟨p, wo, z, rfl, h, q⟩
  have strOf : ∀ {wo : Str}, dy = .str wo → y = .str wo := fun {wo} e => by
    subst e
    cases dpy
    rfl
  have ofStr : ∀ {wo : Str}, y = .str wo → dy = .str wo := fun {wo} e => by
    subst e
    cases dpy
    rfl
  have sS : ∀ {wo : Str}, PyData.strOk wo = true → SeqAt.shaped (.str wo) = true := fun {wo} h => by
    show (PyData.canLay0 (.str wo) && decide (PyData.depth (.str wo) ≤ 64)) = true
    have c : PyData.canLay0 (.str wo) = true := by simpa [PyData.canLay0] using h
    rw [c, Bool.true_and]
    exact decide_eq_true (by simp [PyData.depth])
  refine ⟨_, rfl, dy, .str "ring", dpy, .str _, shy, sS (by decide +kernel), _, rfl, ?_⟩
  cases e1 : PyData.eqv dy (.str "ring") with
  | true =>
    have ey := strOf (eqStr.mp e1)
    refine iteT ⟨_, rfl, _, rfl, ?_⟩
    try dsimp only [tNil]
    refine showT tz dv fun b H' k' hb => k b H' k' (hb.trans ⟨fun r => vd.mpr ⟨"ring", ey, .inl ⟨rfl, r⟩⟩, fun v => ?_⟩)
    obtain ⟨wo, e, q⟩ := vd.mp v
    rw [ey] at e
    have e := V.str.inj e
    rcases q with ⟨_, r⟩ | ⟨e2, _⟩
    · exact r
    · exact absurd (e.trans e2) (by decide +kernel)
  | false =>
    refine iteF ?_
    have n1 : ¬ y = .str "ring" := fun e => by
      rw [eqStr.mpr (ofStr e)] at e1
      cases e1
    refine ⟨_, rfl, dy, .str "levels", dpy, .str _, shy, sS (by decide +kernel), _, rfl, ?_⟩
    cases e2 : PyData.eqv dy (.str "levels") with
    | false =>
      refine iteF (no H (Same.refl _) fun v => ?_)
      obtain ⟨wo, e, q⟩ := vd.mp v
      rcases q with ⟨rfl, _⟩ | ⟨rfl, _⟩
      · exact n1 e
      · rw [eqStr.mpr (ofStr e)] at e2
        cases e2
    | true =>
      have ey := strOf (eqStr.mp e2)
      refine iteT ⟨_, rfl, _, rfl, d, t, ss, rows, z, rfl, dv, ?_⟩
      have lv : VdG H rows (.ref p) ↔ LvG H rows z := by
        rw [vd]
        constructor
        · rintro ⟨wo, e, ⟨rfl, _⟩ | ⟨_, q⟩⟩
          · exact absurd e n1
          · exact q
        · exact fun q => ⟨"levels", ey, .inr ⟨rfl, q⟩⟩
      rcases nz with n | ⟨q, xs, rfl, hq, l, kd⟩
      · obtain ⟨ty, tx, kt⟩ := n.1
        exact .inl ⟨ty, tx, kt, no H (Same.refl _) fun v => by
          obtain ⟨q, xs, e, hq, _⟩ := lv.mp v
          exact n.noTup _ _ e hq⟩
      · refine .inr ⟨q, xs, rfl, hq, l, kd, fun b H' k' hb => k b H' k' (hb.trans ⟨fun r => lv.mpr ⟨q, xs, rfl, hq, r⟩, fun v => ?_⟩)⟩
        obtain ⟨q', xs', e, hq', r⟩ := lv.mp v
        cases e
        rw [hq] at hq'
        cases hq'
        exact r
end
end Pl
namespace Pl
open PySem PySem.Spec PyProof.Rows L2 GenZ
/-! what is no division: each def refuses it -/
inductive NoV (CS : Addr) (H : Hp) : V → Prop
  | flat {v : V} {T : String} (t : TyS H v T) : NoV CS H v
  | share {x dx : Addr} {fs : List (Str × V)} (h : H x = some (.ins CS dx fs)) : NoV CS H (.ref x)
theorem TyS.ext {H H' : Hp} {x : V} {T : String} (k : LamX.ExtN H H') (t : TyS H x T) : TyS H' x T := by
  cases t with
  | non => exact .non
  | bl b => exact .bl b
  | int i => exact .int i
  | str z => exact .str z
  | lst e => exact .lst (k _ _ e (fun ps z => nomatch z))
  | tup e => exact .tup (k _ _ e (fun ps z => nomatch z))
  | dK e => exact .dK (k _ _ e (fun ps z => nomatch z))
theorem NoV.ext {CS : Addr} {H H' : Hp} {v : V} (n : NoV CS H v) (k : LamX.ExtN H H') : NoV CS H' v := by
  cases n with
  | flat t => exact .flat (t.ext k)
  | share h => exact .share (k _ _ h (fun ps z => nomatch z))
theorem NoV.same {CS : Addr} {H H' : Hp} {v : V} (n : NoV CS H v) (k : Same H H') : NoV CS H' v := n.ext (LamX.ExtN.of k)
def Kt7 (K : PySem.W.Frag) (CD : Addr) : Prop := ∀ T ∈ ["NoneType", "int", "bool", "str", "list", "tuple", "dict"], PySem.W.kitOne K (.type T) (.ref CD) = some false
def NoDT (K : PySem.W.Frag) (CD : Addr) (H : Hp) (v : V) : Prop := ∃ T : Value, TyX K H v T ∧ PySem.W.kitOne K T (.ref CD) = some false
theorem NoV.nodt {K : PySem.W.Frag} {mg : Str → Option Value} {CS CD : Addr} {H : Hp} {v : V} (n : NoV CS H v) (kt : Kt7 K CD) (S : ShK K mg CS) (o : PySem.W.kitOne K (.ref CS) (.ref CD) = some false) : NoDT K CD H v := by
  cases n with
  | flat t =>
    have tx := t.tyX (K := K)
    cases t with
    | non => exact ⟨_, tx, kt _ (by simp)⟩
    | bl b => exact ⟨_, tx, kt _ (by simp)⟩
    | int i => exact ⟨_, tx, kt _ (by simp)⟩
    | str z => exact ⟨_, tx, kt _ (by simp)⟩
    | lst e => exact ⟨_, tx, kt _ (by simp)⟩
    | tup e => exact ⟨_, tx, kt _ (by simp)⟩
    | dK e => exact ⟨_, tx, kt _ (by simp)⟩
  | share h => exact ⟨_, .base (.ins h S.cl S.ca S.cg S.ct S.mro), o⟩
def spN1 (K : PySem.W.Frag) (CD CN : Addr) : Sp := fun vs H _ E => ∃ v : V, vs = [v] ∧ NoDT K CD H v ∧ E (.ref CN) none H
def spN2 (K : PySem.W.Frag) (CD CN : Addr) : Sp := fun vs H _ E => ∃ v x : V, vs = [v, x] ∧ NoDT K CD H v ∧ E (.ref CN) none H
def spGN (K : PySem.W.Frag) (CD CN : Addr) : SpG := fun vs H _ E => ∃ v : V, vs = [v] ∧ NoDT K CD H v ∧ E (.ref CN) none H
def spBN (K : PySem.W.Frag) (CD CN : Addr) : SpB := fun vs H E => ∃ v : V, vs = [v] ∧ NoDT K CD H v ∧ E (.ref CN) none H
theorem Passes.mono {X : Cx} {E E' : XK} (h : Passes (L2.CX X.prog X.w) X E) (m : ∀ c d H, E' c d H → E c d H) : Passes (L2.CX X.prog X.w) X E' := fun pins σ H s e s' I ⟨a, B, H', cls, d, z1, fl, z2, ub, z3, z4, z5, z6⟩ => h pins σ H s e s' I ⟨a, B, H', cls, d, z1, fl, z2, ub, z3, z4, z5, m _ _ _ z6⟩
section
variable {P : Program} {w : World} {K : PySem.W.Frag} {mg : Str → Option Value} {base : Heap} {CShare CDivision CNoDivision : Addr}
theorem ok_checkN (SDivision : DvK K mg CDivision) (e_NoDivision : ExK K mg "NoDivision" CNoDivision) (B : Bn mg) (D : Df K mg "check_division" st_check_division ["thing"]) : CalX P w K mg base 1 "check_division" ["thing"] (spN1 K CDivision CNoDivision) := by
  refine D.calX sc_check_division (fun vs H Q E h => ?_) (fun f cdv A out s H vs Q E hr h => ?_)
  · obtain ⟨v, rfl, _⟩ := h
    rfl
  obtain ⟨v, rfl, ⟨T, ty, kt⟩, k⟩ := h
  refine ⟨_, (pss_one (ps_if (pt_not (pt_val (pe_callB call_isi (by rfl) B.n_isinstance (by decide +kernel) (pa_cons (pv 0) (pa_cons (pe_glob (v := .ref CDivision) rfl SDivision.mgC rfl) pa_nil))))) (pss_one (ps_err e_NoDivision (takes_of rfl rfl rfl rfl))) pss_nil)), ?_⟩
  exact ⟨_, rfl, _, _, _, _, false, rfl, .own _, ty, kt, _, rfl, iteT k⟩
theorem ok_ringN (c_check_division : CalX P w K mg base 1 "check_division" ["thing"] (spN1 K CDivision CNoDivision)) (D : Df K mg "ring" st_ring ["division"]) : CalX P w K mg base 2 "ring" ["division"] (spN1 K CDivision CNoDivision) := by
  refine D.calX sc_ring (fun vs H Q E h => ?_) (fun f cdv A out s H vs Q E hr h => ?_)
  · obtain ⟨v, rfl, _⟩ := h
    rfl
  obtain ⟨v, rfl, nd, k⟩ := h
  exact ⟨_, pss_cons (ps_expr (pe_fnX c_check_division (passW (takes_of rfl rfl rfl rfl)) (hr.mono (by decide)) (pa_cons (pv 0) pa_nil))) pss_abs, ⟨_, rfl, v, rfl, nd, fun σ' => k⟩⟩
theorem ok_levelsN (c_check_division : CalX P w K mg base 1 "check_division" ["thing"] (spN1 K CDivision CNoDivision)) (D : Df K mg "levels" st_levels ["division"]) : CalX P w K mg base 2 "levels" ["division"] (spN1 K CDivision CNoDivision) := by
  refine D.calX sc_levels (fun vs H Q E h => ?_) (fun f cdv A out s H vs Q E hr h => ?_)
  · obtain ⟨v, rfl, _⟩ := h
    rfl
  obtain ⟨v, rfl, nd, k⟩ := h
  exact ⟨_, pss_cons (ps_expr (pe_fnX c_check_division (passW (takes_of rfl rfl rfl rfl)) (hr.mono (by decide)) (pa_cons (pv 0) pa_nil))) pss_abs, ⟨_, rfl, v, rfl, nd, fun σ' => k⟩⟩
theorem ok_showRN (c_check_division : CalX P w K mg base 1 "check_division" ["thing"] (spN1 K CDivision CNoDivision)) (D : Df K mg "shows_ring" st_shows_ring ["division", "thing"]) : CalX P w K mg base 2 "shows_ring" ["division", "thing"] (spN2 K CDivision CNoDivision) := by
  refine D.calX sc_shows_ring (fun vs H Q E h => ?_) (fun f cdv A out s H vs Q E hr h => ?_)
  · obtain ⟨v, x, rfl, _⟩ := h
    rfl
  obtain ⟨v, x, rfl, nd, k⟩ := h
  exact ⟨_, pss_cons (ps_expr (pe_fnX c_check_division (passW (takes_of rfl rfl rfl rfl)) (hr.mono (by decide)) (pa_cons (pv 0) pa_nil))) pss_abs, ⟨_, rfl, v, rfl, nd, fun σ' => k⟩⟩
theorem ok_showLN (c_check_division : CalX P w K mg base 1 "check_division" ["thing"] (spN1 K CDivision CNoDivision)) (D : Df K mg "shows_levels" st_shows_levels ["division", "thing"]) : CalX P w K mg base 2 "shows_levels" ["division", "thing"] (spN2 K CDivision CNoDivision) := by
  refine D.calX sc_shows_levels (fun vs H Q E h => ?_) (fun f cdv A out s H vs Q E hr h => ?_)
  · obtain ⟨v, x, rfl, _⟩ := h
    rfl
  obtain ⟨v, x, rfl, nd, k⟩ := h
  exact ⟨_, pss_cons (ps_expr (pe_fnX c_check_division (passW (takes_of rfl rfl rfl rfl)) (hr.mono (by decide)) (pa_cons (pv 0) pa_nil))) pss_abs, ⟨_, rfl, v, rfl, nd, fun σ' => k⟩⟩
theorem ok_showVN (c_check_division : CalX P w K mg base 1 "check_division" ["thing"] (spN1 K CDivision CNoDivision)) (D : Df K mg "shows_verdict" st_shows_verdict ["division", "thing"]) : CalX P w K mg base 2 "shows_verdict" ["division", "thing"] (spN2 K CDivision CNoDivision) := by
  refine D.calX sc_shows_verdict (fun vs H Q E h => ?_) (fun f cdv A out s H vs Q E hr h => ?_)
  · obtain ⟨v, x, rfl, _⟩ := h
    rfl
  obtain ⟨v, x, rfl, nd, k⟩ := h
  exact ⟨_, pss_cons (ps_expr (pe_fnX c_check_division (passW (takes_of rfl rfl rfl rfl)) (hr.mono (by decide)) (pa_cons (pv 0) pa_nil))) pss_abs, ⟨_, rfl, v, rfl, nd, fun σ' => k⟩⟩
theorem ok_verdictN (c_ring : CalX P w K mg base 2 "ring" ["division"] (spN1 K CDivision CNoDivision)) (D : Df K mg "verdict" st_verdict ["division"]) : CalX P w K mg base 3 "verdict" ["division"] (spN1 K CDivision CNoDivision) := by
  refine D.calX sc_verdict (fun vs H Q E h => ?_) (fun f cdv A out s H vs Q E hr h => ?_)
  · obtain ⟨v, rfl, _⟩ := h
    rfl
  obtain ⟨v, rfl, nd, k⟩ := h
  exact ⟨_, pss_cons (ps_set (i := 1) sc_verdict.nd rfl (.inl rfl) (pe_fnX c_ring (passW (takes_of rfl rfl rfl rfl)) (hr.mono (by decide)) (pa_cons (pv 0) pa_nil))) pss_abs, ⟨_, rfl, v, rfl, nd, fun σ' => k⟩⟩
theorem ok_exchN (c_shows_ring : CalX P w K mg base 2 "shows_ring" ["division", "thing"] (spN2 K CDivision CNoDivision)) (D : Df K mg "exchanged" st_exchanged ["division", "ring"]) : CalX P w K mg base 3 "exchanged" ["division", "ring"] (spN2 K CDivision CNoDivision) := by
  refine D.calX sc_exchanged (fun vs H Q E h => ?_) (fun f cdv A out s H vs Q E hr h => ?_)
  · obtain ⟨v, x, rfl, _⟩ := h
    rfl
  obtain ⟨v, x, rfl, nd, k⟩ := h
  exact ⟨_, pss_cons (ps_if (pt_not (pt_val (pe_fnX c_shows_ring (passW (takes_of rfl rfl rfl rfl)) (hr.mono (by decide)) (pa_cons (pv 0) (pa_cons (pv 1) pa_nil))))) pss_abs pss_nil) pss_abs, ⟨_, rfl, _, rfl, v, x, rfl, nd, fun σ' => k⟩⟩
theorem ok_settleN (hS : PySem.W.subIn K (.ref CNoDivision) (.type "StopIteration") = some false) (c_ring : CalX P w K mg base 2 "ring" ["division"] (spN1 K CDivision CNoDivision)) (D : Df K mg "settle" st_settle ["division"]) : CalL P w K mg base 3 "settle" ["division"] (spGN K CDivision CNoDivision) := by
  refine D.gcalL sc_settle (fun vs H Q E h => ?_) (fun f cdv A out s H vs Q E pn hr h => ?_)
  · obtain ⟨v, rfl, _⟩ := h
    rfl
  obtain ⟨v, rfl, nd, k⟩ := h
  exact ⟨_, gss_cons (gs_ps (ps_set (i := 1) sc_settle.nd rfl (.inl rfl) (pv 0))) (gss_cons (gs_ps (ps_set (i := 2) sc_settle.nd rfl (.inl rfl) (pe_fnX c_ring (passW takes_gcx) (hr.mono (by decide)) (pa_cons (pv 1) pa_nil)))) (gss_pss (t := fun _ _ _ => False) pss_abs)), ⟨_, rfl, _, rfl, v, rfl, nd, fun σ' => k⟩⟩
theorem ok_settleB (c_ring : CalX P w K mg base 2 "ring" ["division"] (spN1 K CDivision CNoDivision)) (D : Df K mg "settle" st_settle ["division"]) : CalB P w K mg base 3 "settle" ["division"] (spBN K CDivision CNoDivision) := by
  refine D.calB sc_settle (fun vs H E h => ?_) (fun f cdv A out s H vs E pn hr h => ?_)
  · obtain ⟨v, rfl, _⟩ := h
    rfl
  obtain ⟨v, rfl, nd, k⟩ := h
  exact ⟨_, bs_cons (ps_set (i := 1) sc_settle.nd rfl (.inl rfl) (pv 0)) (bs_cons (ps_set (i := 2) sc_settle.nd rfl (.inl rfl) (pe_fnX c_ring (passW takes_gcx) (hr.mono (by decide)) (pa_cons (pv 1) pa_nil))) bs_abs), ⟨_, rfl, _, rfl, v, rfl, nd, fun σ' => k⟩⟩
theorem ok_settledN (hS : PySem.W.subIn K (.ref CNoDivision) (.type "StopIteration") = some false) (c_settle : CalB P w K mg base 3 "settle" ["division"] (spBN K CDivision CNoDivision)) (D : Df K mg "settled" st_settled ["division"]) : CalX P w K mg base 5 "settled" ["division"] (spN1 K CDivision CNoDivision) := by
  refine D.calX sc_settled (fun vs H Q E h => ?_) (fun f cdv A out s H vs Q E hr h => ?_)
  · obtain ⟨v, rfl, _⟩ := h
    rfl
  obtain ⟨v, rfl, nd, k⟩ := h
  exact ⟨_, pss_cons (ps_set (i := 1) sc_settled.nd rfl (.inl rfl) (pv 0)) (pss_cons (ps_forB (E := fun cls d H => cls = .ref CNoDivision ∧ E cls d H) (passes_of rfl) c_settle ((passW (takes_of rfl rfl rfl rfl))|> fun z => Passes.mono z fun c d H h σ => h.2) (fun cls d H h => by rw [h.1]; exact hS) (hr.mono (by decide)) (pa_cons (pv 0) pa_nil)) pss_abs), ⟨_, rfl, _, rfl, v, rfl, nd, rfl, k⟩⟩
end
end Pl
namespace Pl
open PySem PySem.Spec PyProof.Rows L2 GenZ
/-! what is no pair of shares: each def refuses it -/
theorem pe_abs {X : Cx} {e : Expr} : PE X e (fun _ _ _ => False) := ⟨fun _ _ _ _ _ _ h => h.elim⟩
theorem NoV.nodtD {K : PySem.W.Frag} {mg : Str → Option Value} {CS CD : Addr} {H : Hp} {v : V} (n : NoV CD H v) (kt : Kt7 K CS) (S : DvK K mg CD) (o : PySem.W.kitOne K (.ref CD) (.ref CS) = some false) : NoDT K CS H v := by
  cases n with
  | flat t =>
    have tx := t.tyX (K := K)
    cases t with
    | non => exact ⟨_, tx, kt _ (by simp)⟩
    | bl b => exact ⟨_, tx, kt _ (by simp)⟩
    | int i => exact ⟨_, tx, kt _ (by simp)⟩
    | str z => exact ⟨_, tx, kt _ (by simp)⟩
    | lst e => exact ⟨_, tx, kt _ (by simp)⟩
    | tup e => exact ⟨_, tx, kt _ (by simp)⟩
    | dK e => exact ⟨_, tx, kt _ (by simp)⟩
  | share h => exact ⟨_, .base (.ins h S.cl S.ca S.cg S.ct S.mro), o⟩
def PN (K : PySem.W.Frag) (C : Addr) (H : Hp) (x y : V) : Prop := NoDT K C H x ∨ (∃ (s t : Addr) (ns : List Int), x = .ref s ∧ ShAt C H s t ns ∧ NoDT K C H y) ∨ (∃ (s1 t1 s2 t2 : Addr) (ns ms : List Int), x = .ref s1 ∧ y = .ref s2 ∧ ShAt C H s1 t1 ns ∧ ShAt C H s2 t2 ms ∧ ns.length ≠ ms.length)
def spPN (K : PySem.W.Frag) (C CN : Addr) : Sp := fun vs H _ E => ∃ x y : V, vs = [x, y] ∧ PN K C H x y ∧ E (.ref CN) none H
def spPN3 (K : PySem.W.Frag) (C CN : Addr) : Sp := fun vs H _ E => ∃ x y z : V, vs = [x, y, z] ∧ PN K C H x y ∧ E (.ref CN) none H
def spShow0 (C : Addr) : Sp := fun vs H Q _ => ∃ (s1 t1 s2 t2 : Addr) (ns ms : List Int), vs = [.ref s1, .ref s2, .non] ∧ ShAt C H s1 t1 ns ∧ ShAt C H s2 t2 ms ∧ ns.length = ms.length ∧ Q (.bl false) H
section
variable {P : Program} {w : World} {K : PySem.W.Frag} {mg : Str → Option Value} {base : Heap} {CShare CDivision CNoShare CNoDivision : Addr}
theorem ok_pairP (B : Bn mg) (SShare : ShK K mg CShare) (e_NoShare : ExK K mg "NoShare" CNoShare) (m_len : MCal P w K mg base 2 CShare "__len__" ["self"] (spLen CShare)) (D : Df K mg "check_pair" st_check_pair ["one", "other"]) : CalX P w K mg base 4 "check_pair" ["one", "other"] (spPN K CShare CNoShare) := by
  refine D.calX sc_check_pair (fun vs H Q E h => ?_) (fun f cdv A out s H vs Q E hr h => ?_)
  · obtain ⟨x, y, rfl, _⟩ := h
    rfl
  obtain ⟨x, y, rfl, h, k⟩ := h
  refine ⟨_, (pss_cons (ps_if (PW.pt (pw_or (pt_not (pt_val (pe_callB call_isi (by rfl) B.n_isinstance (by decide +kernel) (pa_cons (pv 0) (pa_cons (pe_glob (v := .ref CShare) rfl SShare.mgC rfl) pa_nil))))) (pw_or1 (pt_not (pt_val (pe_callB call_isi (by rfl) B.n_isinstance (by decide +kernel) (pa_cons (pv 1) (pa_cons (pe_glob (v := .ref CShare) rfl SShare.mgC rfl) pa_nil)))))))) (pss_one (ps_err e_NoShare (takes_of rfl rfl rfl rfl))) pss_nil)
   (pss_one (ps_if (pt_cmpR op_ne (pe_callB (call_lenM m_len (hr.mono (by decide))) (by rfl) B.n_len (by decide +kernel) (pa_cons (pv 0) pa_nil)) (pe_callB (call_lenM m_len (hr.mono (by decide))) (by rfl) B.n_len (by decide +kernel) (pa_cons (pv 1) pa_nil)) (nomark _)) (pss_one (ps_err e_NoShare (takes_of rfl rfl rfl rfl))) pss_nil))), ?_⟩
  have ty : ∀ {s d t : Addr}, H s = some (.ins CShare d (shF t)) → TyX K H (.ref s) (.ref CShare) := fun e => .base (.ins e SShare.cl SShare.ca SShare.cg SShare.ct SShare.mro)
  rcases h with ⟨T, tyy, kt⟩ | ⟨s1, t1, ns, rfl, sh1, T, tyy, kt⟩ | ⟨s1, t1, s2, t2, ns, ms, rfl, rfl, sh1, sh2, ne⟩
  · exact ⟨_, rfl, _, _, _, _, false, rfl, .own _, tyy, kt, _, rfl, iteT k⟩
  · obtain ⟨⟨d1, a1⟩, _, _, l1, _⟩ := id sh1
    refine ⟨_, rfl, _, _, _, _, true, rfl, .own _, ty a1, SShare.kit, _, rfl, iteF ?_⟩
    exact ⟨_, rfl, _, _, _, _, false, rfl, .own _, tyy, kt, _, rfl, iteT k⟩
  · obtain ⟨⟨d1, a1⟩, _, _, l1, _⟩ := id sh1
    obtain ⟨⟨d2, a2⟩, _, _, l2, _⟩ := id sh2
    refine ⟨_, rfl, _, _, _, _, true, rfl, .own _, ty a1, SShare.kit, _, rfl, iteF ?_⟩
    refine ⟨_, rfl, _, _, _, _, true, rfl, .own _, ty a2, SShare.kit, _, rfl, iteF ?_⟩
    refine ⟨_, rfl, s1, d1, _, rfl, a1, s1, t1, ns, rfl, sh1, ns.length, rfl, by omega, ?_⟩
    refine ⟨_, rfl, s2, d2, _, rfl, a2, s2, t2, ms, rfl, sh2, ms.length, rfl, by omega, rfl, _, rfl, ?_⟩
    refine ite2 (fun c => k) (fun c => absurd ?_ ne)
    have c2 : V.int (ns.length : Int) = V.int (ms.length : Int) := by simpa using c
    have := V.int.inj c2
    omega
theorem ok_calmP (c_check_pair : CalX P w K mg base 4 "check_pair" ["one", "other"] (spPN K CShare CNoShare)) (D : Df K mg "is_calm" st_is_calm ["one", "other"]) : CalX P w K mg base 5 "is_calm" ["one", "other"] (spPN K CShare CNoShare) := by
  refine D.calX sc_is_calm (fun vs H Q E h => ?_) (fun f cdv A out s H vs Q E hr h => ?_)
  · obtain ⟨x, y, rfl, _⟩ := h
    rfl
  obtain ⟨x, y, rfl, h, k⟩ := h
  exact ⟨_, pss_cons (ps_expr (pe_fnX c_check_pair (passW (takes_of rfl rfl rfl rfl)) (hr.mono (by decide)) (pa_cons (pv 0) (pa_cons (pv 1) pa_nil)))) pss_abs, ⟨_, rfl, _, rfl, x, y, rfl, h, fun σ' => k⟩⟩
theorem ok_calmerP (c_is_calm : CalX P w K mg base 5 "is_calm" ["one", "other"] (spPN K CShare CNoShare)) (D : Df K mg "is_calmer" st_is_calmer ["one", "other"]) : CalX P w K mg base 6 "is_calmer" ["one", "other"] (spPN K CShare CNoShare) := by
  refine D.calX sc_is_calmer (fun vs H Q E h => ?_) (fun f cdv A out s H vs Q E hr h => ?_)
  · obtain ⟨x, y, rfl, _⟩ := h
    rfl
  obtain ⟨x, y, rfl, h, k⟩ := h
  exact ⟨_, pss_one (ps_ret (pe_and (pe_fnX c_is_calm (passW (takes_of rfl rfl rfl rfl)) (hr.mono (by decide)) (pa_cons (pv 0) (pa_cons (pv 1) pa_nil))) pe_abs)), ⟨_, rfl, _, rfl, x, y, rfl, h, fun σ' => k⟩⟩
theorem ok_pathP (c_is_calm : CalX P w K mg base 5 "is_calm" ["one", "other"] (spPN K CShare CNoShare)) (D : Df K mg "path" st_path ["one", "other"]) : CalX P w K mg base 6 "path" ["one", "other"] (spPN K CShare CNoShare) := by
  refine D.calX sc_path (fun vs H Q E h => ?_) (fun f cdv A out s H vs Q E hr h => ?_)
  · obtain ⟨x, y, rfl, _⟩ := h
    rfl
  obtain ⟨x, y, rfl, h, k⟩ := h
  exact ⟨_, pss_cons (ps_if (pt_val (pe_fnX c_is_calm (passW (takes_of rfl rfl rfl rfl)) (hr.mono (by decide)) (pa_cons (pv 0) (pa_cons (pv 1) pa_nil)))) pss_abs pss_nil) pss_abs, ⟨_, rfl, _, rfl, x, y, rfl, h, fun σ' => k⟩⟩
abbrev st_shows_path : Stmt := top 61
theorem sc_shows_path : FnScope ["one", "other", "thing", "word", "reason"] ["one", "other", "thing"] (defScope st_shows_path) := ⟨rfl, rfl, rfl, by decide +kernel, rfl, by decide +kernel, by decide +kernel⟩
theorem ok_showsP (c_check_pair : CalX P w K mg base 4 "check_pair" ["one", "other"] (spPN K CShare CNoShare)) (D : Df K mg "shows_path" st_shows_path ["one", "other", "thing"]) : CalX P w K mg base 5 "shows_path" ["one", "other", "thing"] (spPN3 K CShare CNoShare) := by
  refine D.calX sc_shows_path (fun vs H Q E h => ?_) (fun f cdv A out s H vs Q E hr h => ?_)
  · obtain ⟨x, y, z, rfl, _⟩ := h
    rfl
  obtain ⟨x, y, z, rfl, h, k⟩ := h
  exact ⟨_, pss_cons (ps_expr (pe_fnX c_check_pair (passW (takes_of rfl rfl rfl rfl)) (hr.mono (by decide)) (pa_cons (pv 0) (pa_cons (pv 1) pa_nil)))) pss_abs, ⟨_, rfl, _, rfl, x, y, rfl, h, fun σ' => k⟩⟩
theorem ok_shows0 (c_check_pair : Cal P w K mg base 4 "check_pair" ["one", "other"] (spPair CShare)) (c_is_pair : Cal P w K mg base 1 "is_pair" ["thing"] (spIsPair K)) (D : Df K mg "shows_path" st_shows_path ["one", "other", "thing"]) : Cal P w K mg base 5 "shows_path" ["one", "other", "thing"] (spShow0 CShare) := by
  refine D.cal sc_shows_path (fun vs H Q E h => ?_) (fun f cdv A out s H vs Q E hr h => ?_)
  · obtain ⟨s1, t1, s2, t2, ns, ms, rfl, _⟩ := h
    rfl
  obtain ⟨s1, t1, s2, t2, ns, ms, rfl, sh1, sh2, ln, k⟩ := h
  refine ⟨_, pss_cons (ps_expr (pe_fn c_check_pair (hr.mono (by decide)) (pa_cons (pv 0) (pa_cons (pv 1) pa_nil)))) (pss_cons (ps_if (pt_not (pt_val (pe_fn c_is_pair (hr.mono (by decide)) (pa_cons (pv 2) pa_nil)))) (pss_one (ps_ret pe_bl)) pss_nil) pss_abs), ?_⟩
  refine ⟨_, rfl, _, rfl, s1, t1, s2, t2, ns, ms, rfl, sh1, sh2, ln, ?_⟩
  exact ⟨_, rfl, .non, rfl, .inl ⟨_, .base .non, kit_ty (by decide +kernel), _, rfl, iteT k⟩⟩
theorem ok_orderN (c_check_division : CalX P w K mg base 1 "check_division" ["thing"] (spN1 K CDivision CNoDivision)) (D : Df K mg "order" st_order ["division"]) : CalX P w K mg base 2 "order" ["division"] (spN1 K CDivision CNoDivision) := by
  refine D.calX sc_order (fun vs H Q E h => ?_) (fun f cdv A out s H vs Q E hr h => ?_)
  · obtain ⟨v, rfl, _⟩ := h
    rfl
  obtain ⟨v, rfl, nd, k⟩ := h
  exact ⟨_, pss_cons (ps_expr (pe_fnX c_check_division (passW (takes_of rfl rfl rfl rfl)) (hr.mono (by decide)) (pa_cons (pv 0) pa_nil))) pss_abs, ⟨_, rfl, v, rfl, nd, fun σ' => k⟩⟩
theorem ok_orderlyN (c_order : CalX P w K mg base 2 "order" ["division"] (spN1 K CDivision CNoDivision)) (D : Df K mg "is_orderly" st_is_orderly ["division"]) : CalX P w K mg base 3 "is_orderly" ["division"] (spN1 K CDivision CNoDivision) := by
  refine D.calX sc_is_orderly (fun vs H Q E h => ?_) (fun f cdv A out s H vs Q E hr h => ?_)
  · obtain ⟨v, rfl, _⟩ := h
    rfl
  obtain ⟨v, rfl, nd, k⟩ := h
  exact ⟨_, pss_one (ps_ret (pe_cmpR op_eq (pe_ix ix_tup (pe_fnX c_order (passW (takes_of rfl rfl rfl rfl)) (hr.mono (by decide)) (pa_cons (pv 0) pa_nil)) pe_int (fun _ _ => rfl)) pe_str (nomark _))), ⟨_, rfl, v, rfl, nd, fun σ' => k⟩⟩
end
end Pl
namespace Pl
open PySem PySem.Spec PyProof.Rows L2 GenZ
/-! what is no ring of any division -/
inductive Th (H : Hp) : V → Prop
  | non : Th H .non
  | int (i : Int) : Th H (.int i)
  | bl (b : Bool) : Th H (.bl b)
  | str (s : Str) : Th H (.str s)
  | lst {p : Addr} {xs : List V} (h : H p = some (.lst xs)) : Th H (.ref p)
  | tupN {p : Addr} {xs : List V} (h : H p = some (.tup xs)) (l : xs.length ≠ 2) : Th H (.ref p)
  | two {p q r : Addr} {ss g : List Nat} (h : H p = some (.tup [.ref q, .ref r])) (hq : H q = some (.tup (iV ss))) (hr : H r = some (.tup (iV g))) (l1 : ss.length ≤ 100) (l2 : g.length ≤ 100) (bad : ∀ rows : List (List Int), rows.length ≤ 4 → ¬ IsRing rows (List.range rows.length) ss g) : Th H (.ref p)
theorem Th.ext {H H' : Hp} {x : V} (h : Th H x) (k : LamX.ExtN H H') : Th H' x := by
  cases h with
  | non => exact .non
  | int i => exact .int i
  | bl b => exact .bl b
  | str s => exact .str s
  | lst h => exact .lst (k _ _ h (fun ps z => nomatch z))
  | tupN h l => exact .tupN (k _ _ h (fun ps z => nomatch z)) l
  | two h a b l1 l2 bad => exact .two (k _ _ h (fun ps z => nomatch z)) (k _ _ a (fun ps z => nomatch z)) (k _ _ b (fun ps z => nomatch z)) l1 l2 bad
theorem ntNon {K : PySem.W.Frag} {H : Hp} : NtK K H .non := ⟨⟨_, .base .non, kit_ty (by decide +kernel)⟩, fun p e => nomatch e⟩
theorem tuV {K : PySem.W.Frag} {H : Hp} {q : Addr} {ss : List Nat} (h : H q = some (.tup (iV ss))) (l : ss.length ≤ 100) : TuK K H (.ref q) := ⟨q, _, rfl, h, by rw [iV_len]; exact l, fun v hv => by
  obtain ⟨n, _, rfl⟩ := List.mem_map.mp hv
  exact Kd.int _⟩
theorem Th.tg {K : PySem.W.Frag} {H : Hp} {x : V} (h : Th H x) : TgK K H x := by
  cases h with
  | non => exact .inl ntNon
  | int i => exact .inl ⟨⟨_, .base (.int i), kit_ty (by decide +kernel)⟩, fun p e => nomatch e⟩
  | bl b => exact .inl ⟨⟨_, .base (.bl b), kit_ty (by decide +kernel)⟩, fun p e => nomatch e⟩
  | str s => exact .inl ⟨⟨_, .base (.str s), kit_ty (by decide +kernel)⟩, fun p e => nomatch e⟩
  | lst h => exact .inl ⟨⟨_, .base (.lst h), kit_ty (by decide +kernel)⟩, fun q ep => by cases ep; exact ⟨_, h, fun xs z => nomatch z⟩⟩
  | tupN h l => exact .inr (.inl ⟨_, _, rfl, h, l⟩)
  | two h a b l1 l2 bad => exact .inr (.inr ⟨_, _, _, rfl, h, .inr ⟨tuV a l1, .inr (tuV b l2)⟩⟩)
theorem Th.no {H : Hp} {x : V} (h : Th H x) {rows : List (List Int)} (l4 : rows.length ≤ 4) : ¬ RgG H rows x := by
  rintro ⟨T, q, r, ss, g, rfl, h1, h2, h3, ir⟩
  cases h with
  | lst h => rw [h] at h1; cases h1
  | tupN h l =>
    rw [h] at h1
    cases h1
    exact l rfl
  | two h a b _ _ bad =>
    rw [h] at h1
    cases h1
    rw [a] at h2
    rw [b] at h3
    have e1 := iV_inj (by injection h2 with z; injection z)
    have e2 := iV_inj (by injection h3 with z; injection z)
    subst e1
    subst e2
    exact bad rows l4 ir
def spExchT (CD C CN : Addr) : Sp := fun vs H _ E => ∃ (d t : Addr) (sd : List Addr) (rows : List (List Int)) (x : V), vs = [.ref d, x] ∧ DvAt CD C H d t sd rows ∧ Th H x ∧ ∀ H', Same H H' → E (.ref CN) none H'
theorem DvAt.extN {CD C : Addr} {H H' : Hp} {d t : Addr} {ss : List Addr} {rows : List (List Int)} (dv : DvAt CD C H d t ss rows) (k : LamX.ExtN H H') : DvAt CD C H' d t ss rows := by
  obtain ⟨⟨dx, hd⟩, ht, al, rw_⟩ := dv
  refine ⟨⟨dx, k _ _ hd (fun ps z => nomatch z)⟩, k _ _ ht (fun ps z => nomatch z), ?_, rw_⟩
  clear rw_ ht hd
  induction al with
  | nil => exact .nil
  | cons h _ ih =>
    obtain ⟨⟨d1, a1⟩, a2, a3⟩ := h
    exact .cons ⟨⟨d1, k _ _ a1 (fun ps z => nomatch z)⟩, k _ _ a2 (fun ps z => nomatch z), a3⟩ ih
section
variable {K : PySem.W.Frag} {CD C : Addr} {H : Hp} {Q : Hp → Prop} {E : XK} {d t : Addr} {ss : List Addr} {rows : List (List Int)} {x : V}
theorem ringAny (dv : DvAt CD C H d t ss rows) (h : ∀ H', Same H H' → Q H') : spRing CD C [.ref d] H (fun _ H' => Q H') E := ⟨d, t, ss, rows, rfl, dv, fun H' k _ => h H' k, fun _ _ _ _ _ H' k _ _ _ _ => h H' k⟩
theorem showRAny (dv : DvAt CD C H d t ss rows) (h : ∀ H', Same H H' → Q H') : spShowR K CD C [.ref d, .non] H (fun _ H' => Q H') E := showT (.inl ntNon) dv fun _ H' k _ => h H' k
theorem levelsAny (dv : DvAt CD C H d t ss rows) (h : ∀ H', Same H H' → Q H') : spLevels CD C [.ref d] H (fun _ H' => Q H') E := ⟨d, t, ss, rows, rfl, dv, fun _ _ H' k _ _ => h H' k, fun H' k _ => h H' k⟩
theorem showLAny (dv : DvAt CD C H d t ss rows) (h : ∀ H', Same H H' → Q H') : spShowV K CD C [.ref d, .non] H (fun _ H' => Q H') E :=
  ⟨d, t, ss, rows, .non, rfl, dv, .inl ⟨_, .base .non, kit_ty (by decide +kernel), h H (Same.refl _)⟩⟩
theorem verdictAny (dv : DvAt CD C H d t ss rows) (h : ∀ H', Same H H' → Q H') : spVerdict CD C [.ref d] H (fun _ H' => Q H') E := ⟨d, t, ss, rows, rfl, dv, fun _ _ H' k _ _ _ => h H' k, fun _ _ _ _ _ _ H' k _ _ _ _ _ => h H' k⟩
theorem showVAny (dv : DvAt CD C H d t ss rows) (h : ∀ H', Same H H' → Q H') : spShowVA K CD C [.ref d, .non] H (fun _ H' => Q H') E := ⟨d, t, ss, rows, .non, rfl, dv, .inl ntNon, fun _ H' k _ => h H' k⟩
end
section
variable {P : Program} {w : World} {K : PySem.W.Frag} {mg : Str → Option Value} {base : Heap} {CShare CDivision CNoPerson CNoRing : Addr}
theorem ok_exchT (e_NoRing : ExK K mg "NoRing" CNoRing) (c_shows_ring : Cal P w K mg base 7 "shows_ring" ["division", "thing"] (spShowR K CDivision CShare)) (D : Df K mg "exchanged" st_exchanged ["division", "ring"]) : CalX P w K mg base 8 "exchanged" ["division", "ring"] (spExchT CDivision CShare CNoRing) := by
  refine D.calX sc_exchanged (fun vs H Q E h => ?_) (fun f cdv A out s H vs Q E hr h => ?_)
  · obtain ⟨d, t, sd, rows, x, rfl, _⟩ := h
    rfl
  obtain ⟨d, t, sd, rows, x, rfl, dv, th, k⟩ := h
  refine ⟨_, pss_cons (ps_if (pt_not (pt_val (pe_fn c_shows_ring (hr.mono (by decide)) (pa_cons (pv 0) (pa_cons (pv 1) pa_nil))))) (pss_one (ps_err e_NoRing (takes_of rfl rfl rfl rfl))) pss_nil) pss_abs, ?_⟩
  refine ⟨_, rfl, _, rfl, ?_⟩
  dsimp only [tNil]
  refine showT th.tg dv fun b H1 k1 hb => ?_
  cases b with
  | false => exact ⟨false, rfl, iteT (k H1 k1)⟩
  | true => exact absurd (hb.mp rfl) (th.no dv.2.2.2.2.1)
end
end Pl
namespace Pl
open PySem PySem.Spec PyProof.Rows L2
/-! pools -/
structure PlK (K : PySem.W.Frag) (mg : Str → Option Value) (x : Str) (C : Addr) : Prop where
  cl : Cls K C
  nC : NoAttr K C "course"
  nP : NoAttr K C "person"
  mgC : mg x = some (.ref C)
  mks : PySem.W.makesIn K C = true
  kc : PySem.W.keepIn K (.ref C) = true
structure PlF (K : PySem.W.Frag) (C : Addr) : Prop where
  pg : PySem.W.plainGet K C Str.empty = true
  hd : PySem.W.hasDictIn K C = true
  po : PySem.W.plainOver K C = true
  sa : PySem.W.findIn K (.ref C) "__setattr__" = some (some (.builtin "object.__setattr__"))
  nC : PySem.W.findIn K (.ref C) "course" = some none
  nP : PySem.W.findIn K (.ref C) "person" = some none
  mks : PySem.W.makesIn K C = true
  kc : PySem.W.keepIn K (.ref C) = true
theorem PlF.k {K : PySem.W.Frag} {mg : Str → Option Value} {x : Str} {C : Addr} (s : PlF K C) (g : mg x = some (.ref C)) : PlK K mg x C := ⟨⟨s.pg, s.hd, s.po, s.sa⟩, s.nC, s.nP, g, s.mks, s.kc⟩
/-- wo: the person whose share is kept -/
def exW (wo : Option Nat) : List (Str × V) := match wo with
  | none => []
  | some n => [("person", .int (n : Nat))]
def plF (wo : Option Nat) (t : Addr) : List (Str × V) := ("course", .ref t) :: exW wo



theorem plF_len (wo : Option Nat) (t : Addr) : (plF wo t).length < 1000 := by cases wo <;> (simp [plF, exW])
theorem plF_ne (wo : Option Nat) (t : Addr) : ∀ t1, plF wo t ≠ shF t1 := fun t1 z => by cases wo <;> cases z
/-- the first division and the one behind each change, each with its unit -/
def CoA (CD C : Addr) (H : Hp) (us : List Addr) (cs : List (List (List Int) × Int)) : Prop := us.length = cs.length ∧ ∀ (j : Nat) (u : Addr) (r : List (List Int)) (k : Int), us[j]? = some u → cs[j]? = some (r, k) → ∃ (d t : Addr) (ss : List Addr), H u = some (.tup [.ref d, .int k]) ∧ DvAt CD C H d t ss r
/-- a pool with this course stands at p -/
def PlAt (CP : Addr) (wo : Option Nat) (CD C : Addr) (H : Hp) (p : Addr) (cs : List (List (List Int) × Int)) : Prop := ∃ (dx t : Addr) (us : List Addr), H p = some (.ins CP dx (plF wo t)) ∧ H t = some (.tup (us.map V.ref)) ∧ CoA CD C H us cs ∧ cs ≠ [] ∧ cs.length ≤ 100000
/-- what is not at p, and no table, stays -/
def KpN (p : Addr) (H H' : Hp) : Prop := ∀ b o, b ≠ p → H b = some o → (∀ ps, o ≠ .tbl ps) → H' b = some o
theorem KpN.of {p : Addr} {H H' : Hp} (k : Kp p H H') : KpN p H H' := fun b o n e _ => k b o n e



theorem ShAll.kn {C p : Addr} {H H' : Hp} (k : KpN p H H') (hp : ∃ CP dx fs, H p = some (.ins CP dx fs) ∧ ∀ t, fs ≠ shF t) : ∀ {ss : List Addr} {rows : List (List Int)}, ShAll C H ss rows → ShAll C H' ss rows
  | _, _, .nil => .nil
  | _, _, .cons (s := s) (t := t) h r => by
    refine .cons (t := t) ?_ (r.kn k hp)
    obtain ⟨⟨dx, h1⟩, h2, h3⟩ := h
    obtain ⟨CP, dx2, fs, e, ne⟩ := hp
    refine ⟨⟨dx, k _ _ (fun z => ?_) h1 (fun ps z => nomatch z)⟩, k _ _ (fun z => ?_) h2 (fun ps z => nomatch z), h3⟩
    · rw [z, e] at h1
      cases h1
      exact ne t rfl
    · rw [z, e] at h2
      cases h2
theorem DvAt.kn {CD C p d t : Addr} {H H' : Hp} {ss : List Addr} {rows : List (List Int)} (h : DvAt CD C H d t ss rows) (k : KpN p H H') (hp : ∃ CP dx wo t, H p = some (.ins CP dx (plF wo t))) : DvAt CD C H' d t ss rows := by
  obtain ⟨⟨dx, h1⟩, h2, h3, r⟩ := h
  obtain ⟨CP, dx2, wo2, t2, e⟩ := hp
  refine ⟨⟨dx, k _ _ (fun z => ?_) h1 (fun ps z => nomatch z)⟩, k _ _ (fun z => ?_) h2 (fun ps z => nomatch z), h3.kn k ⟨CP, dx2, _, e, plF_ne _ _⟩, r⟩
  · rw [z, e] at h1
    cases h1
  · rw [z, e] at h2
    cases h2
theorem CoA.kn {CD C p : Addr} {H H' : Hp} {us : List Addr} {cs : List (List (List Int) × Int)} (h : CoA CD C H us cs) (k : KpN p H H') (hp : ∃ CP dx wo t, H p = some (.ins CP dx (plF wo t))) : CoA CD C H' us cs := ⟨h.1, fun j u r q a b => by
  obtain ⟨d, t, ss, h1, h2⟩ := h.2 j u r q a b
  refine ⟨d, t, ss, k _ _ (fun z => ?_) h1 (fun ps z => nomatch z), h2.kn k hp⟩
  obtain ⟨CP, dx, wo2, t2, e⟩ := hp
  rw [z, e] at h1
  cases h1⟩








end Pl
namespace Pl
open PySem PySem.Spec PyProof.Rows L2
/-! the pools made: of a division, or refused -/
def spCheckX (K : PySem.W.Frag) (CD C CN : Addr) : Sp := fun vs H Q E => ∃ v : V, vs = [v] ∧ ((∃ (d t : Addr) (ss : List Addr) (rows : List (List Int)), v = .ref d ∧ DvAt CD C H d t ss rows ∧ Q .non H) ∨ (NoDT K CD H v ∧ E (.ref CN) none H))
def spInitW (K : PySem.W.Frag) (CP CD C CN : Addr) : Sp := fun vs H Q E => ∃ (p dx : Addr) (v : V), vs = [.ref p, v] ∧ H p = some (.ins CP dx []) ∧
  ((∃ (d t : Addr) (ss : List Addr) (rows : List (List Int)), v = .ref d ∧ DvAt CD C H d t ss rows ∧ ∀ H', Kp p H H' → PlAt CP none CD C H' p [(rows, 1)] → Q .non H') ∨ (NoDT K CD H v ∧ E (.ref CN) none H))
def spInitK (K : PySem.W.Frag) (CP CD C CN CNP : Addr) : Sp := fun vs H Q E => ∃ (p dx : Addr) (v u : V), vs = [.ref p, v, u] ∧ H p = some (.ins CP dx []) ∧
  ((∃ (d t : Addr) (ss : List Addr) (rows : List (List Int)) (n : Nat), v = .ref d ∧ u = .int (n : Nat) ∧ n < rows.length ∧ DvAt CD C H d t ss rows ∧ ∀ H', Kp p H H' → PlAt CP (some n) CD C H' p [(rows, 1)] → Q .non H') ∨ (NoDT K CD H v ∧ E (.ref CN) none H) ∨ (∃ (d t : Addr) (ss : List Addr) (rows : List (List Int)) (T : String), v = .ref d ∧ DvAt CD C H d t ss rows ∧ TyS H u T ∧ isTo ((rows.length : Int) - 1) u = false ∧ ∀ H', Kp p H H' → E (.ref CNP) none H'))
theorem DvAt.kp0 {CD C CP p dx d t : Addr} {H H' : Hp} {ss : List Addr} {rows : List (List Int)} (dv : DvAt CD C H d t ss rows) (hp : H p = some (.ins CP dx [])) (k : Kp p H H') : DvAt CD C H' d t ss rows := by
  obtain ⟨⟨d1, a1⟩, a2, a3, a4⟩ := dv
  refine ⟨⟨d1, k _ _ (fun z => ?_) a1⟩, k _ _ (fun z => by rw [z, hp] at a2; cases a2) a2, a3.kp k ⟨_, _, _, hp, fun t z => by cases z⟩, a4⟩
  rw [z, hp] at a1
  cases a1
theorem TyS.kpI {p CP dx : Addr} {fs : List (Str × V)} {H H' : Hp} {x : V} {T : String} (t : TyS H x T) (e : H p = some (.ins CP dx fs)) (k : Kp p H H') : TyS H' x T := by
  cases t with
  | non => exact .non
  | bl b => exact .bl b
  | int i => exact .int i
  | str z => exact .str z
  | lst h => exact .lst (k _ _ (ne_of h e (by intro z; cases z)) h)
  | tup h => exact .tup (k _ _ (ne_of h e (by intro z; cases z)) h)
  | dK h => exact .dK (k _ _ (ne_of h e (by intro z; cases z)) h)
theorem TyS.kd {K : PySem.W.Frag} {H : Hp} {x : V} {T : String} (t : TyS H x T) : Kd K H x := by
  have tx := t.tyX (K := K)
  cases t with
  | non => exact ⟨_, false, false, tx, kit_ty (by decide +kernel), kit_ty (by decide +kernel), rfl⟩
  | bl b => exact ⟨_, true, true, tx, kit_ty (by decide +kernel), kit_ty (by decide +kernel), rfl⟩
  | int i => exact Kd.int i
  | str z => exact ⟨_, false, false, tx, kit_ty (by decide +kernel), kit_ty (by decide +kernel), rfl⟩
  | lst h => exact ⟨_, false, false, tx, kit_ty (by decide +kernel), kit_ty (by decide +kernel), rfl⟩
  | tup h => exact ⟨_, false, false, tx, kit_ty (by decide +kernel), kit_ty (by decide +kernel), rfl⟩
  | dK h => exact ⟨_, false, false, tx, kit_ty (by decide +kernel), kit_ty (by decide +kernel), rfl⟩
/-- what says super(): found by super(), its text in CT -/
structure MsK2 (K : PySem.W.Frag) (C D CT : Addr) (file x qual : Str) (st : Stmt) : Prop where
  ex : ∃ f, PySem.W.ks_superIn K C D x = some (some (.ref f)) ∧ PySem.W.typeIn K (.ref f) = some (.type "function") ∧ PySem.W.fnIn K f = true ∧ FsK K CT file x qual st f
/-- an __init__ of C, its text in CT, that says super() and has a default -/
structure MsD (K : PySem.W.Frag) (C CT : Addr) (file x qual : Str) (st : Stmt) (dvs : List V) : Prop where
  ex : ∃ f, PySem.W.findIn K (.ref C) x = some (some (.ref f)) ∧ PySem.W.isFn K (.ref f) = true ∧ FsD K CT file x qual st dvs f
structure MsD2 (K : PySem.W.Frag) (C D CT : Addr) (file x qual : Str) (st : Stmt) (dvs : List V) : Prop where
  ex : ∃ f, PySem.W.ks_superIn K C D x = some (some (.ref f)) ∧ PySem.W.typeIn K (.ref f) = some (.type "function") ∧ PySem.W.fnIn K f = true ∧ FsD K CT file x qual st dvs f
/-- a class made with a person, who may be left out or said by name -/
structure MkW (P : Program) (w : World) (K : PySem.W.Frag) (mg : Str → Option Value) (base : Heap) (C : Addr) (sp : Sp) : Prop where
  ex : ∃ f fd, FnOk P w K mg base (L2.CX P w) 5 f fd ["self", "division", "person"] sp ∧ Mk K C f ∧ KBn K fd ["self", "division", "person"] 2 ["person"] (fun us ws => us ++ ws) (fun vs zs => vs ++ zs) ∧ Binds K fd ["self", "division", "person"] [] ∧ ∃ u, Vals [.int 0] [u] ∧ Binds K fd ["self", "division", "person"] [u]
section
variable {X : Cx} {C : Addr} {sp : Sp} {E : XK} {x : Str} {p pos : Pos} {e : Expr} {es : List Expr} {kws : List Keyword} {t tk : TA}

theorem pe_mkW3 (c : MkW X.prog X.w X.K X.mg X.base C sp) (hx : Passes (L2.CX X.prog X.w) X E) (hm : X.mg x = some (.ref C)) (hr : Room 6 X.A) (ha : PA X (e :: es) t)
    (hg : Gl X x := by rfl) (hdb : (x == ("__debug__" : Str)) = false := by decide)
    (he : starEach (e :: es) X.env = (false, eval e X.env) :: starEach es X.env := by rfl) (hpl : (backTo pos (starEach es X.env)).any (·.1) = false := by rfl) :
    PE X (.Call (.Name x p) (e :: es) [] pos) (tMake C sp [] E t) := by
  obtain ⟨f, fd, F, M, _, hb, _⟩ := c.ex
  exact pe_make M F hr hg hm hb .nil hx ha hdb he hpl

end
section
variable {P : Program} {w : World} {K : PySem.W.Frag} {mg : Str → Option Value} {base : Heap} {nm nmK nmF : Str} {CShare CDivision CPool CNoDivision CNoPerson CKept CKeptFine CFine Dd : Addr} {file : Str}
theorem ok_checkX (SDivision : DvK K mg CDivision) (e_NoDivision : ExK K mg "NoDivision" CNoDivision) (B : Bn mg) (D : Df K mg "check_division" st_check_division ["thing"]) : CalX P w K mg base 1 "check_division" ["thing"] (spCheckX K CDivision CShare CNoDivision) := by
  refine D.calX sc_check_division (fun vs H Q E h => ?_) (fun f cdv A out s H vs Q E hr h => ?_)
  · obtain ⟨v, rfl, _⟩ := h
    rfl
  obtain ⟨v, rfl, h⟩ := h
  refine ⟨_, (pss_one (ps_if (pt_not (pt_val (pe_callB call_isi (by rfl) B.n_isinstance (by decide +kernel) (pa_cons (pv 0) (pa_cons (pe_glob (v := .ref CDivision) rfl SDivision.mgC rfl) pa_nil))))) (pss_one (ps_err e_NoDivision (takes_of rfl rfl rfl rfl))) pss_nil)), ?_⟩
  rcases h with ⟨d, t, ss, rows, rfl, ⟨⟨dx, hd⟩, _⟩, k⟩ | ⟨⟨T, ty, kt⟩, k⟩
  · exact ⟨_, rfl, _, _, _, _, true, rfl, .own _, .base (.ins hd SDivision.cl SDivision.ca SDivision.cg SDivision.ct SDivision.mro), SDivision.kit, _, rfl, iteF k⟩
  · exact ⟨_, rfl, _, _, _, _, false, rfl, .own _, ty, kt, _, rfl, iteT k⟩
abbrev st_Po_init : Stmt := inClass (top 71) 1
theorem sc_Po_init : FnScope ["self", "division"] ["self", "division"] (defScope st_Po_init) := ⟨rfl, rfl, rfl, by decide +kernel, rfl, by decide +kernel, by decide +kernel⟩
theorem fn_plInit {f : Addr} {fd : FuncData} (SPool : PlK K mg nm CPool) (c_check_division : CalX P w K mg base 1 "check_division" ["thing"] (spCheckX K CDivision CShare CNoDivision)) (D : L2.Fun K "__init__" "Pool.__init__" st_Po_init f fd) : FnOk P w K mg base (L2.CX P w) 2 f fd ["self", "division"] (spInitW K CPool CDivision CShare CNoDivision) := by
  refine D.okX sc_Po_init (fun vs H Q E h => ?_) (fun cdv A out s H vs Q E hr h => ?_)
  · obtain ⟨p, dx, v, rfl, _⟩ := h
    rfl
  obtain ⟨p, dx, v, rfl, hp, h⟩ := h
  refine ⟨_, (pss_cons (ps_expr (pe_fnX c_check_division (passW (takes_of rfl rfl rfl rfl)) (hr.mono (by decide)) (pa_cons (pv 1) pa_nil)))
   (pss_one (ps_fld (pv 0) (pe_tup (pa_cons (pe_tup (pa_cons (pv 1) (pa_cons pe_int pa_nil))) pa_nil)) rfl))), ?_⟩
  rcases h with ⟨d, t, ss, rows, rfl, dv, k⟩ | ⟨nd, k⟩
  · refine ⟨_, rfl, _, rfl, .inl ⟨d, t, ss, rows, rfl, dv, ?_⟩⟩
    refine ⟨_, rfl, (by show 2 ≤ sizeLine; decide), fun u hu => ?_⟩
    generalize hH1 : upd H u _ = H1
    obtain ⟨k1, e1⟩ := alloc hH1 hu
    clear hH1
    refine ⟨(by show 1 ≤ sizeLine; decide), fun t2 ht2 => ?_⟩
    generalize hH2 : upd H1 t2 _ = H2
    obtain ⟨k2, e2⟩ := alloc hH2 ht2
    clear hH2
    have k12 := k1.trans k2
    have hp2 := k12 _ _ hp
    refine ⟨_, rfl, p, CPool, dx, _, rfl, hp2, SPool.cl, SPool.nC, (by show 0 < 1000; decide), ?_⟩
    have kp : Kp p H (upd H2 p (.ins CPool dx (putF "course" (.ref t2) []))) := (Kp.of k12).trans Kp.upd
    have tp : t2 ≠ p := ne_of e2 hp2 (by intro z; cases z)
    have up : u ≠ p := ne_of (k2 _ _ e1) hp2 (by intro z; cases z)
    refine k _ kp ⟨dx, t2, [u], upd_same, by rw [upd_ne tp]; exact e2, ⟨rfl, fun j u' r q a b => ?_⟩, by simp, by show 1 ≤ 100000; decide⟩
    match j, a, b with
    | 0, a, b =>
      cases a
      cases b
      refine ⟨d, t, ss, by rw [upd_ne up]; exact k2 _ _ e1, ?_⟩
      exact (dv.same k12).kp0 hp2 Kp.upd
    | j + 1, a, _ => simp at a
  · exact ⟨_, rfl, _, rfl, .inr ⟨nd, fun σ' => k⟩⟩
abbrev st_Fi_init : Stmt := inClass (top 73) 1
theorem sn_Fi_init : NdefX.NScope ["self", "division", "__class__"] ["self", "division"] ["__class__"] (defScope st_Fi_init) := NdefX.nscope_by (by decide +kernel)
theorem fn_fiInit {f CT : Addr} (SP : SupP P file) (U : SubK K CPool CT) (n_super : mg "super" = none) (c_sup : SCal (L2.CX P w) P w K mg base 2 CPool CT "__init__" ["self", "division"] (spInitW K CPool CDivision CShare CNoDivision)) (F : FsK K CT file "__init__" "Fine.__init__" st_Fi_init f) : ∃ fd, FnOk P w K mg base (L2.CX P w) 3 f fd ["self", "division"] (spInitW K CPool CDivision CShare CNoDivision) ∧ Binds K fd ["self", "division"] [] := by
  refine F.ok (sf := "self") (k := 2) SP U n_super sn_Fi_init rfl rfl rfl rfl rfl (fun _ _ _ _ _ _ _ us hl => match us, hl with | [_, _], _ => rfl) (fun vs H Q E h => ?_) (fun cda cc A outer s H vs Q E hr SX h => ?_)
  · obtain ⟨p, dx, v, rfl, _⟩ := h
    rfl
  · obtain ⟨p, dx, v, rfl, hp, h⟩ := h
    refine ⟨_, psst_one (pst_expr (pt_supN SX c_sup hr (passW (takes_of rfl rfl rfl rfl)) (pa_cons (pv 1) pa_nil))), ?_⟩
    refine ⟨p, dx, [], rfl, hp, _, rfl, p, dx, v, rfl, hp, ?_⟩
    exact h.imp (fun ⟨d, t, ss, rows, e, dv, k⟩ => ⟨d, t, ss, rows, e, dv, k⟩) (fun ⟨nd, k⟩ => ⟨nd, fun σ' => k⟩)
abbrev st_Ke_init : Stmt := inClass (top 72) 1
theorem sn_Ke_init : NdefX.NScope ["self", "division", "person", "__class__"] ["self", "division", "person"] ["__class__"] (defScope st_Ke_init) := NdefX.nscope_by (by decide +kernel)
theorem fn_keInit {q : Nat} {f CT : Addr} (e_NoPerson : ExK K mg "NoPerson" CNoPerson) (B : Bn mg) (hq : q ≤ 3) (SP : SupP P file) (U : SubK K CPool CT) (n_super : mg "super" = none) (SDivision : DvK K mg CDivision) (SPool : PlK K mg nm CPool) (c_sup : SCal (L2.CX P w) P w K mg base q CPool CT "__init__" ["self", "division"] (spInitW K CPool CDivision CShare CNoDivision)) (c_is_integer_to : Cal P w K mg base 2 "is_integer_to" ["thing", "most"] (spIsInt K)) (p_people : PCal P w K mg base 2 CDivision "people" ["self"] (spPeople CDivision CShare))
    (F : FsD K CT file "__init__" "Kept.__init__" st_Ke_init [.int 0] f) : ∃ fd, FnOk P w K mg base (L2.CX P w) 4 f fd ["self", "division", "person"] (spInitK K CPool CDivision CShare CNoDivision CNoPerson) ∧ BdD K fd "__init__" "Kept.__init__" st_Ke_init [.int 0] := by
  refine F.ok (sf := "self") (k := 3) SP U n_super sn_Ke_init rfl rfl rfl rfl rfl (fun vs H Q E h => ?_) (fun cda cc A outer s H vs Q E hr SX h => ?_)
  · obtain ⟨p, dx, v, u, rfl, _⟩ := h
    rfl
  obtain ⟨p, dx, v, u, rfl, hp, h⟩ := h
  refine ⟨_, psst_cons (pst_expr (pt_supN SX c_sup (hr.mono hq) (passW (takes_of rfl rfl rfl rfl)) (pa_cons (pv 1) pa_nil))) (psst_of (pss_cons (ps_if (pt_not (pt_val (pe_fn c_is_integer_to (hr.mono (by decide)) (pa_cons (pv 2) (pa_cons (pe_op op_sub (pe_pr p_people SDivision.cl (hr.mono (by decide)) (pv 1)) pe_int) pa_nil))))) (pss_one (ps_err e_NoPerson (takes_of rfl rfl rfl rfl))) pss_nil)
   (pss_one (ps_fld (pv 0) (pv 2) rfl)))), ?_⟩
  refine ⟨p, dx, [], rfl, hp, _, rfl, p, dx, v, rfl, hp, ?_⟩
  rcases h with ⟨d, t, ss, rows, n, rfl, rfl, ln, dv, kk⟩ | ⟨nd, k⟩ | ⟨d, t, ss, rows, T, rfl, dv, ts, no, kk⟩
  · refine .inl ⟨d, t, ss, rows, rfl, dv, fun H1 k1 pl => ?_⟩
    have dv1 := dv.kp0 hp k1
    obtain ⟨dx1, t1, us1, hp1, ht1, co1, ne1, sz1⟩ := id pl
    obtain ⟨⟨dd, hd⟩, _⟩ := id dv1
    refine ⟨_, rfl, _, rfl, d, dd, _, rfl, hd, d, t, ss, rows, rfl, dv1, _, _, rfl, rfl, _, _, rfl, Kd.int _, _, rfl, ?_⟩
    have tr : isTo ((rows.length : Int) - 1) (.int (n : Nat)) = true := by simp only [isTo]; simp; omega
    rw [tr]
    refine iteF ?_
    refine ⟨_, rfl, _, rfl, p, CPool, dx1, _, rfl, hp1, SPool.cl, SPool.nP, plF_len none t1, ?_⟩
    have kp : Kp p H1 (upd H1 p (.ins CPool dx1 (putF "person" (.int (n : Nat)) (plF none t1)))) := Kp.upd
    have tp : t1 ≠ p := ne_of ht1 hp1 (by intro z; cases z)
    exact kk _ (k1.trans kp) ⟨dx1, t1, us1, upd_same, by rw [upd_ne tp]; exact ht1, co1.kn (KpN.of kp) ⟨_, _, _, _, hp1⟩, ne1, sz1⟩
  · exact .inr ⟨nd, fun σ' => k⟩
  · refine .inl ⟨d, t, ss, rows, rfl, dv, fun H1 k1 pl => ?_⟩
    have dv1 := dv.kp0 hp k1
    obtain ⟨dx1, t1, us1, hp1, ht1, co1, ne1, sz1⟩ := id pl
    obtain ⟨⟨dd, hd⟩, _⟩ := id dv1
    refine ⟨_, rfl, _, rfl, d, dd, _, rfl, hd, d, t, ss, rows, rfl, dv1, _, _, rfl, rfl, _, _, rfl, (ts.kpI hp k1).kd, _, rfl, ?_⟩
    rw [no]
    exact iteT (kk H1 k1)
abbrev st_Kf_init : Stmt := inClass (top 74) 1
theorem sn_Kf_init : NdefX.NScope ["self", "division", "person", "__class__"] ["self", "division", "person"] ["__class__"] (defScope st_Kf_init) := NdefX.nscope_by (by decide +kernel)
theorem fn_kfInit {CT f : Addr} (SP : SupP P file) (U : SubK K CPool CT) (n_super : mg "super" = none) (c_sup : SCal (L2.CX P w) P w K mg base 4 CPool CT "__init__" ["self", "division", "person"] (spInitK K CPool CDivision CShare CNoDivision CNoPerson)) (F : FsD K CT file "__init__" "KeptFine.__init__" st_Kf_init [.int 0] f) : ∃ fd, FnOk P w K mg base (L2.CX P w) 5 f fd ["self", "division", "person"] (spInitK K CPool CDivision CShare CNoDivision CNoPerson) ∧ BdD K fd "__init__" "KeptFine.__init__" st_Kf_init [.int 0] := by
  refine F.ok (sf := "self") (k := 4) SP U n_super sn_Kf_init rfl rfl rfl rfl rfl (fun vs H Q E h => ?_) (fun cda cc A outer s H vs Q E hr SX h => ?_)
  · obtain ⟨p, dx, v, u, rfl, _⟩ := h
    rfl
  · obtain ⟨p, dx, v, u, rfl, hp, h⟩ := h
    refine ⟨_, psst_one (pst_expr (pt_supN SX c_sup hr (passW (takes_of rfl rfl rfl rfl)) (pa_cons (pv 1) (pa_cons (pv 2) pa_nil)))), ?_⟩
    refine ⟨p, dx, [], rfl, hp, _, rfl, _, rfl, p, dx, v, u, rfl, hp, ?_⟩
    exact h.imp (fun ⟨d, t, ss, rows, n, e, e2, ln, dv, k⟩ => ⟨d, t, ss, rows, n, e, e2, ln, dv, k⟩) (fun h => h.imp (fun ⟨nd, k⟩ => ⟨nd, fun σ' => k⟩) (fun ⟨d, t, ss, rows, T, e, dv, ts, no, k⟩ => ⟨d, t, ss, rows, T, e, dv, ts, no, fun H' k' σ' => k H' k'⟩))
/-! the four classes -/
theorem mk_pool (SPool : PlK K mg nm CPool) (c_check_division : CalX P w K mg base 1 "check_division" ["thing"] (spCheckX K CDivision CShare CNoDivision)) (D : Mh K CPool "__init__" "Pool.__init__" st_Po_init ["self", "division"]) : MCalX P w K mg base 3 CPool "__init__" ["self", "division"] (spInitW K CPool CDivision CShare CNoDivision) := by
  obtain ⟨f, fd, F, h1, h2, hb⟩ := D.ex
  exact ⟨f, fd, (fn_plInit SPool c_check_division F).mono (by decide), h1, h2, F.kp, hb⟩
theorem sup_pool (SPool : PlK K mg nm CPool) (c_check_division : CalX P w K mg base 1 "check_division" ["thing"] (spCheckX K CDivision CShare CNoDivision)) (D : Sh K CPool Dd "__init__" "Pool.__init__" st_Po_init ["self", "division"]) : SCal (L2.CX P w) P w K mg base 2 CPool Dd "__init__" ["self", "division"] (spInitW K CPool CDivision CShare CNoDivision) := by
  obtain ⟨f, fd, F, h1, h2, h3, hb⟩ := D.ex
  exact ⟨f, fd, fn_plInit SPool c_check_division F, h1, h2, h3, hb⟩
theorem mk_fine (SP : SupP P file) (U : SubK K CFine CFine) (n_super : mg "super" = none) (c_sup : SCal (L2.CX P w) P w K mg base 2 CFine CFine "__init__" ["self", "division"] (spInitW K CFine CDivision CShare CNoDivision)) (D : MsK K CFine CFine file "__init__" "Fine.__init__" st_Fi_init) : MCalX P w K mg base 3 CFine "__init__" ["self", "division"] (spInitW K CFine CDivision CShare CNoDivision) := by
  obtain ⟨f, h1, h2, F⟩ := D.ex
  obtain ⟨fd, ok, hb⟩ := fn_fiInit SP U n_super c_sup F
  exact ⟨f, fd, ok, h1, h2, F.kp, hb⟩
theorem sup_fine {CT : Addr} (SP : SupP P file) (U : SubK K CPool CT) (n_super : mg "super" = none) (c_sup : SCal (L2.CX P w) P w K mg base 2 CPool CT "__init__" ["self", "division"] (spInitW K CPool CDivision CShare CNoDivision)) (D : MsK2 K CPool Dd CT file "__init__" "Fine.__init__" st_Fi_init) : SCal (L2.CX P w) P w K mg base 3 CPool Dd "__init__" ["self", "division"] (spInitW K CPool CDivision CShare CNoDivision) := by
  obtain ⟨f, h1, h2, h3, F⟩ := D.ex
  obtain ⟨fd, ok, hb⟩ := fn_fiInit SP U n_super c_sup F
  exact ⟨f, fd, ok, h1, h2, h3, hb⟩
theorem BdD.three {fd : FuncData} {qual : Str} {st : Stmt} (b : BdD K fd "__init__" qual st [.int 0])
    (h1 : ∀ (T : Addr) (kV doc pm : Value) (an : Option Addr) (cdv ct : Value) (cc : Addr) (a1 a2 a3 e : Value), ∃ k, bindArgs (PySem.W.ksFn "__init__" qual (defArgs st) (defBody st) (defScope st) (.ref T) kV doc pm an cdv ct cc) ⟨[a1, a2], [("person", a3)]⟩ = seqItems? (.ref T) >>= k ∧ k (some #[e]) = pure ([("self" : Str), "division", "person"].zip [a1, a2, a3]))
    (h2 : ∀ (T : Addr) (kV doc pm : Value) (an : Option Addr) (cdv ct : Value) (cc : Addr) (a1 a2 a3 e : Value), ∃ k, bindArgs (PySem.W.ksFn "__init__" qual (defArgs st) (defBody st) (defScope st) (.ref T) kV doc pm an cdv ct cc) ⟨[a1, a2, a3], []⟩ = seqItems? (.ref T) >>= k ∧ k (some #[e]) = pure ([("self" : Str), "division", "person"].zip [a1, a2, a3]))
    (h3 : ∀ (T : Addr) (kV doc pm : Value) (an : Option Addr) (cdv ct : Value) (cc : Addr) (a1 a2 e : Value), ∃ k, bindArgs (PySem.W.ksFn "__init__" qual (defArgs st) (defBody st) (defScope st) (.ref T) kV doc pm an cdv ct cc) ⟨[a1, a2], []⟩ = seqItems? (.ref T) >>= k ∧ k (some #[e]) = pure ([("self" : Str), "division", "person"].zip [a1, a2, e])) :
    KBn K fd ["self", "division", "person"] 2 ["person"] (fun us ws => us ++ ws) (fun vs zs => vs ++ zs) ∧ Binds K fd ["self", "division", "person"] [] ∧ ∃ u, Vals [.int 0] [u] ∧ Binds K fd ["self", "division", "person"] [u] := by
  refine ⟨b.kbinds 2 ["person"] fun T kV dc pm an cdv ct cc us its ws l1 l2 l3 => ?_, b.b3 h2, ?_⟩
  · match us, its, ws, l1, l2, l3 with
    | [a1, a2], [e], [a3], _, _, _ => exact h1 T kV dc pm an cdv ct cc a1 a2 a3 e
  · obtain ⟨ds, hv, hb⟩ := b.binds (ps := ["self", "division", "person"]) 2 0 rfl fun T kV doc pm an cdv ct cc us its l1 l2 => by
      match us, its, l1, l2 with
      | [a1, a2], [e], _, _ => exact h3 T kV doc pm an cdv ct cc a1 a2 e
    match ds, hv with
    | [u], hv => exact ⟨u, hv, hb⟩
theorem mk_kept (e_NoPerson : ExK K mg "NoPerson" CNoPerson) (B : Bn mg) (SP : SupP P file) (U : SubK K CKept CKept) (n_super : mg "super" = none) (SDivision : DvK K mg CDivision) (SKept : PlK K mg nmK CKept) (c_sup : SCal (L2.CX P w) P w K mg base 2 CKept CKept "__init__" ["self", "division"] (spInitW K CKept CDivision CShare CNoDivision)) (c_is_integer_to : Cal P w K mg base 2 "is_integer_to" ["thing", "most"] (spIsInt K)) (p_people : PCal P w K mg base 2 CDivision "people" ["self"] (spPeople CDivision CShare))
    (D : MsD K CKept CKept file "__init__" "Kept.__init__" st_Ke_init [.int 0]) : MkW P w K mg base CKept (spInitK K CKept CDivision CShare CNoDivision CNoPerson) := by
  obtain ⟨f, h1, h2, F⟩ := D.ex
  obtain ⟨fd, ok, b⟩ := fn_keInit e_NoPerson B (by decide) SP U n_super SDivision SKept c_sup c_is_integer_to p_people F
  exact ⟨f, fd, ok.mono (by decide), ⟨SKept.mks, h1, h2, SKept.kc⟩, b.three (fun T kV dc pm an cdv ct cc a1 a2 a3 e => ⟨_, rfl, rfl⟩) (fun T kV dc pm an cdv ct cc a1 a2 a3 e => ⟨_, rfl, rfl⟩) (fun T kV dc pm an cdv ct cc a1 a2 e => ⟨_, rfl, rfl⟩)⟩
theorem sup_kept (e_NoPerson : ExK K mg "NoPerson" CNoPerson) (B : Bn mg) (SP : SupP P file) (U : SubK K CKeptFine CKept) (n_super : mg "super" = none) (SDivision : DvK K mg CDivision) (SKeptFine : PlK K mg nmF CKeptFine) (c_sup : SCal (L2.CX P w) P w K mg base 3 CKeptFine CKept "__init__" ["self", "division"] (spInitW K CKeptFine CDivision CShare CNoDivision)) (c_is_integer_to : Cal P w K mg base 2 "is_integer_to" ["thing", "most"] (spIsInt K)) (p_people : PCal P w K mg base 2 CDivision "people" ["self"] (spPeople CDivision CShare))
    (D : MsD2 K CKeptFine CKeptFine CKept file "__init__" "Kept.__init__" st_Ke_init [.int 0]) : SCal (L2.CX P w) P w K mg base 4 CKeptFine CKeptFine "__init__" ["self", "division", "person"] (spInitK K CKeptFine CDivision CShare CNoDivision CNoPerson) := by
  obtain ⟨f, h1, h2, h3, F⟩ := D.ex
  obtain ⟨fd, ok, b⟩ := fn_keInit e_NoPerson B (by decide) SP U n_super SDivision SKeptFine c_sup c_is_integer_to p_people F
  exact ⟨f, fd, ok, h1, h2, h3, b.b3 fun T kV dc pm an cdv ct cc a1 a2 a3 e => ⟨_, rfl, rfl⟩⟩
theorem mk_keptFine (SP : SupP P file) (U : SubK K CKeptFine CKeptFine) (n_super : mg "super" = none) (SKeptFine : PlK K mg nmF CKeptFine) (c_sup : SCal (L2.CX P w) P w K mg base 4 CKeptFine CKeptFine "__init__" ["self", "division", "person"] (spInitK K CKeptFine CDivision CShare CNoDivision CNoPerson))
    (D : MsD K CKeptFine CKeptFine file "__init__" "KeptFine.__init__" st_Kf_init [.int 0]) : MkW P w K mg base CKeptFine (spInitK K CKeptFine CDivision CShare CNoDivision CNoPerson) := by
  obtain ⟨f, h1, h2, F⟩ := D.ex
  obtain ⟨fd, ok, b⟩ := fn_kfInit SP U n_super c_sup F
  exact ⟨f, fd, ok, ⟨SKeptFine.mks, h1, h2, SKeptFine.kc⟩, b.three (fun T kV dc pm an cdv ct cc a1 a2 a3 e => ⟨_, rfl, rfl⟩) (fun T kV dc pm an cdv ct cc a1 a2 a3 e => ⟨_, rfl, rfl⟩) (fun T kV dc pm an cdv ct cc a1 a2 e => ⟨_, rfl, rfl⟩)⟩
end
end Pl
namespace Pl
open PySem PySem.Spec PyProof.Rows L2 GenZ
abbrev st_l_outcome : Stmt := top 90
theorem sc_l_outcome : FnScope ["_law_call"] ["_law_call"] (defScope st_l_outcome) := ⟨rfl, rfl, rfl, by decide +kernel, rfl, by decide +kernel, by decide +kernel⟩
theorem pss_pick {X : Cx} {b : List Stmt} {ι : Type} {p : ι → Prop} {t : ι → TS} (h : ∀ i, p i → PSs X b (t i)) : PSs X b (fun D σ H => ∃ i, p i ∧ t i D σ H) := ⟨fun pins s σ H D I ⟨i, hp, ht⟩ => (h i hp).run pins s σ H D I ht⟩
/-- the four classes of the clauses -/
structure OcH (K : PySem.W.Frag) (mg : Str → Option Value) (C1 C2 C3 C4 : Addr) : Prop where
  e1 : ExK K mg "NoShare" C1
  e2 : ExK K mg "NoDivision" C2
  e3 : ExK K mg "NoRing" C3
  e4 : ExK K mg "NoPerson" C4
  o21 : PySem.W.exmOne K (.ref C2) (.ref C1) = some false
  o31 : PySem.W.exmOne K (.ref C3) (.ref C1) = some false
  o32 : PySem.W.exmOne K (.ref C3) (.ref C2) = some false
  o41 : PySem.W.exmOne K (.ref C4) (.ref C1) = some false
  o42 : PySem.W.exmOne K (.ref C4) (.ref C2) = some false
  o43 : PySem.W.exmOne K (.ref C4) (.ref C3) = some false
def TTo (K : PySem.W.Frag) (C1 C2 C3 C4 : Addr) : (XK → Hp → VK → Prop) → Hp → VK → Prop := fun tl H Q =>
  tl (clW K (fun nm H' => Q (.str nm) H') [(C1, "share"), (C2, "division"), (C3, "ring"), (C4, "person")]) H fun _ H' => Q (.str "") H'
section
variable {K : PySem.W.Frag} {mg : Str → Option Value} {C1 C2 C3 C4 : Addr} {R : Str → Hp → Prop} {d : Option Addr} {H : Hp}
theorem OcH.sh (O : OcH K mg C1 C2 C3 C4) (h : R "share" H) : clW K R [(C1, "share"), (C2, "division"), (C3, "ring"), (C4, "person")] (.ref C1) d H := ⟨true, O.e1.me, fun _ => h, fun z => nomatch z⟩
theorem OcH.dv (O : OcH K mg C1 C2 C3 C4) (h : R "division" H) : clW K R [(C1, "share"), (C2, "division"), (C3, "ring"), (C4, "person")] (.ref C2) d H := ⟨false, O.o21, fun z => (nomatch z), fun _ => ⟨true, O.e2.me, fun _ => h, fun z => nomatch z⟩⟩
theorem OcH.rg (O : OcH K mg C1 C2 C3 C4) (h : R "ring" H) : clW K R [(C1, "share"), (C2, "division"), (C3, "ring"), (C4, "person")] (.ref C3) d H := ⟨false, O.o31, fun z => (nomatch z), fun _ => ⟨false, O.o32, fun z => (nomatch z), fun _ => ⟨true, O.e3.me, fun _ => h, fun z => nomatch z⟩⟩⟩
theorem OcH.pe (O : OcH K mg C1 C2 C3 C4) (h : R "person" H) : clW K R [(C1, "share"), (C2, "division"), (C3, "ring"), (C4, "person")] (.ref C4) d H := ⟨false, O.o41, fun z => (nomatch z), fun _ => ⟨false, O.o42, fun z => (nomatch z), fun _ => ⟨false, O.o43, fun z => (nomatch z), fun _ => ⟨true, O.e4.me, fun _ => h, fun z => nomatch z⟩⟩⟩⟩
end
section
variable {X : Cx} {C1 C2 C3 C4 : Addr}
theorem outcome_gives {g : Addr} {cdg : Value} {q : Str} (O : OcH X.K X.mg C1 C2 C3 C4) :
    LamX.GivesTo X ["_law_call"] "_law_outcome" (defScope st_l_outcome) g cdg (defBody st_l_outcome) "_law_call" q (TTo X.K C1 C2 C3 C4) := by
  intro f c' s H Q tl act hc h
  refine ⟨_, pss_cons (ps_try_many (X := (cxOf C8.CX0 X.prog X.w X.K X.mg X.base ["_law_call"] "_law_outcome" (defScope st_l_outcome) g cdg X.A X.stack s H C8.E0).nox)
    (tb := fun W D σ H => ∃ Ech : XK, (∀ cls d σ' H', Ech cls d H' → W cls d σ' H') ∧ σ[0]? = some (some (.ref f)) ∧ H c' = some (LamX.CodeO c' q) ∧ tl Ech H fun _ H' => D.nx σ H')
    rfl rfl LamX.takes0 (fun W pn xe tk _ => pss_pick fun Ech hW => ?T)
    (.cons ⟨rfl, by decide, .inl O.e1.g⟩ (fun a oe cls d pn _ _ => pss_one (ps_ret pe_str))
    (.cons ⟨rfl, by decide, .inl O.e2.g⟩ (fun a oe cls d pn _ _ => pss_one (ps_ret pe_str))
    (.cons ⟨rfl, by decide, .inl O.e3.g⟩ (fun a oe cls d pn _ _ => pss_one (ps_ret pe_str))
    (.cons ⟨rfl, by decide, .inl O.e4.g⟩ (fun a oe cls d pn _ _ => pss_one (ps_ret pe_str)) .nil)))))
    (pss_one (ps_ret pe_str)), ?_⟩
  · exact pss_one (ps_expr (act W pn xe Ech _ _ tk hW))
  refine ⟨clW X.K (fun nm H' => Q (.str nm) H') [(C1, "share"), (C2, "division"), (C3, "ring"), (C4, "person")], fun cls d σ' H' w => ?_, rfl, hc, h⟩
  obtain ⟨b1, x1, y1, z1⟩ := w
  refine ⟨b1, x1, fun hb a _ => y1 hb, fun hb => ?_⟩
  obtain ⟨b2, x2, y2, z2⟩ := z1 hb
  refine ⟨b2, x2, fun hb a _ => y2 hb, fun hb => ?_⟩
  obtain ⟨b3, x3, y3, z3⟩ := z2 hb
  refine ⟨b3, x3, fun hb a _ => y3 hb, fun hb => ?_⟩
  obtain ⟨b4, x4, y4, z4⟩ := z3 hb
  exact ⟨b4, x4, fun hb a _ => y4 hb, fun hb => z4 hb⟩
end
end Pl
namespace Pl
open PySem PySem.Spec PyProof.Rows L2 GenZ
theorem codeO_nl {c : Addr} {q : Str} {xs : List V} : LamX.CodeO c q ≠ .lst xs := fun z => by
  unfold LamX.CodeO at z
  cases z
theorem Tabs.put {T : List (Addr × Str)} {l : Addr} {H : Hp} {xs : List V} {o : HO} (t : LamX.Tabs T H) (hl : H l = some (.lst xs)) : LamX.Tabs T (L2.upd H l o) := fun q hq => by
  obtain ⟨ps, h1, h2, h3⟩ := t q hq
  refine ⟨ps, by rw [upd_ne (ne_of h1 hl (by intro z; cases z))]; exact h1, h2, fun pos cv hc => ?_⟩
  obtain ⟨c, e1, e2⟩ := h3 pos cv hc
  exact ⟨c, e1, by rw [upd_ne (ne_of e2 hl codeO_nl)]; exact e2⟩
theorem Tabs.same {T : List (Addr × Str)} {H H' : Hp} (t : LamX.Tabs T H) (k : Same H H') : LamX.Tabs T H' := t.ext k
theorem wd_step {T : List (Addr × Str)} {H H1 H2 H3 : Hp} {L : Addr} {xs : List V} {y : V} (nL : ∀ o, H L = some o → (∀ ps, o ≠ .tbl ps) → False) (ex : LamX.ExtN H H1) (hL : H1 L = some (.lst xs)) (ex1 : LamX.ExtN H1 H2) (tb : LamX.Tabs T H2) (k : Same H2 H3)
    : H3 L = some (.lst xs) ∧ LamX.ExtN H (upd H3 L (.lst (xs ++ [y]))) ∧ LamX.Tabs T (upd H3 L (.lst (xs ++ [y]))) ∧ (upd H3 L (.lst (xs ++ [y]))) L = some (.lst (xs ++ [y])) := by
  have h3 := k _ _ (ex1 _ _ hL (fun ps z => nomatch z))
  refine ⟨h3, fun b o hb n => ?_, Tabs.put (Tabs.same tb k) h3, upd_same⟩
  have nb : b ≠ L := fun z => nL o (by rw [← z]; exact hb) n
  rw [upd_ne nb]
  exact k _ _ (ex1 _ _ (ex _ _ hb n) n)
theorem ShAt.extN {C : Addr} {H H' : Hp} {s t : Addr} {ns : List Int} (h : ShAt C H s t ns) (k : LamX.ExtN H H') : ShAt C H' s t ns := by
  obtain ⟨⟨d1, a1⟩, a2, a3⟩ := h
  exact ⟨⟨d1, k _ _ a1 (fun ps z => nomatch z)⟩, k _ _ a2 (fun ps z => nomatch z), a3⟩
/-- a pair that is refused, as it stands -/
def PNV (CD CS : Addr) (H : Hp) (x y : V) : Prop := NoV CD H x ∨ (∃ (s t : Addr) (ns : List Int), x = .ref s ∧ ShAt CS H s t ns ∧ NoV CD H y) ∨ (∃ (s1 t1 s2 t2 : Addr) (ns ms : List Int), x = .ref s1 ∧ y = .ref s2 ∧ ShAt CS H s1 t1 ns ∧ ShAt CS H s2 t2 ms ∧ ns.length ≠ ms.length)
theorem PNV.ext {CD CS : Addr} {H H' : Hp} {x y : V} (h : PNV CD CS H x y) (k : LamX.ExtN H H') : PNV CD CS H' x y := by
  rcases h with n | ⟨s, t, ns, e, sh, n⟩ | ⟨s1, t1, s2, t2, ns, ms, e1, e2, a, b, ne⟩
  · exact .inl (n.ext k)
  · exact .inr (.inl ⟨s, t, ns, e, sh.extN k, n.ext k⟩)
  · exact .inr (.inr ⟨s1, t1, s2, t2, ns, ms, e1, e2, a.extN k, b.extN k, ne⟩)
theorem PNV.pn {K : PySem.W.Frag} {mg : Str → Option Value} {CD CS : Addr} {H : Hp} {x y : V} (h : PNV CD CS H x y) (kt : Kt7 K CS) (S : DvK K mg CD) (o : PySem.W.kitOne K (.ref CD) (.ref CS) = some false) : PN K CS H x y := by
  rcases h with n | ⟨s, t, ns, e, sh, n⟩ | ⟨s1, t1, s2, t2, ns, ms, e1, e2, a, b, ne⟩
  · exact .inl (n.nodtD kt S o)
  · exact .inr (.inl ⟨s, t, ns, e, sh, n.nodtD kt S o⟩)
  · exact .inr (.inr ⟨s1, t1, s2, t2, ns, ms, e1, e2, a, b, ne⟩)
end Pl
namespace Pl
open PySem PySem.Spec PyProof.Rows L2 GenZ
abbrev st_l_of_pair : Stmt := top 91
theorem sc_l_of_pair : FnScope ["_law_one", "_law_other", "_law_said"] ["_law_one", "_law_other"] (defScope st_l_of_pair) := ⟨rfl, rfl, rfl, by decide +kernel, rfl, by decide +kernel, by decide +kernel⟩
def spOfPairW (T : List (Addr × Str)) (CD CS : Addr) : Sp := fun vs H Q _ => ∃ x y : V, vs = [x, y] ∧ PNV CD CS H x y ∧ LamX.Tabs T H ∧ ∀ (L : Addr) (H' : Hp), LamX.ExtN H H' → LamX.Tabs T H' → H' L = some (.lst [.str "share", .str "share", .str "share", .str "share"]) → Q (.ref L) H'
def spOfPairR (T : List (Addr × Str)) (CS : Addr) : Sp := fun vs H Q _ => ∃ (s1 t1 s2 t2 : Addr) (ns ms : List Int), vs = [.ref s1, .ref s2] ∧ ShAt CS H s1 t1 ns ∧ ShAt CS H s2 t2 ms ∧ ns.length = ms.length ∧ LamX.Tabs T H ∧ ∀ (L : Addr) (H' : Hp), LamX.ExtN H H' → LamX.Tabs T H' → H' L = some (.lst [.str "", .str "", .str "", .str ""]) → Q (.ref L) H'
section
variable {K : PySem.W.Frag} {C : Addr} {H : Hp} {Q : Hp → Prop} {E : XK} {s1 t1 s2 t2 : Addr} {ns ms : List Int}
theorem calmAny (a : ShAt C H s1 t1 ns) (b : ShAt C H s2 t2 ms) (l : ns.length = ms.length) (h : ∀ H', Same H H' → Q H') : spCalm C [.ref s1, .ref s2] H (fun _ H' => Q H') E := ⟨s1, t1, s2, t2, ns, ms, rfl, a, b, l, fun H' k => h H' k⟩
theorem calmerAny (a : ShAt C H s1 t1 ns) (b : ShAt C H s2 t2 ms) (l : ns.length = ms.length) (h : ∀ H', Same H H' → Q H') : spCalmer C [.ref s1, .ref s2] H (fun _ H' => Q H') E := ⟨s1, t1, s2, t2, ns, ms, rfl, a, b, l, fun H' k => h H' k⟩
theorem pathAny (a : ShAt C H s1 t1 ns) (b : ShAt C H s2 t2 ms) (l : ns.length = ms.length) (h : ∀ H', Same H H' → Q H') : spPath K C [.ref s1, .ref s2] H (fun _ H' => Q H') E := ⟨s1, t1, s2, t2, ns, ms, rfl, a, b, l, fun _ _ H' k _ _ _ => h H' k⟩
theorem showsAny (a : ShAt C H s1 t1 ns) (b : ShAt C H s2 t2 ms) (l : ns.length = ms.length) (h : ∀ H', Same H H' → Q H') : spShow0 C [.ref s1, .ref s2, .non] H (fun _ H' => Q H') E := ⟨s1, t1, s2, t2, ns, ms, rfl, a, b, l, h H (Same.refl _)⟩
end
section
variable {P : Program} {w : World} {K : PySem.W.Frag} {mg : Str → Option Value} {base : Heap} {CShare CDivision CNoShare CNoDivision CNoRing CNoPerson : Addr} {T : List (Addr × Str)} {c1 P1 : Addr}
theorem ok_ofPairW (kt : Kt7 K CShare) (SDivision : DvK K mg CDivision) (od : PySem.W.kitOne K (.ref CDivision) (.ref CShare) = some false) (O : OcH K mg CNoShare CNoDivision CNoRing CNoPerson) (c_is_calm : CalX P w K mg base 5 "is_calm" ["one", "other"] (spPN K CShare CNoShare)) (c_is_calmer : CalX P w K mg base 6 "is_calmer" ["one", "other"] (spPN K CShare CNoShare)) (c_path : CalX P w K mg base 6 "path" ["one", "other"] (spPN K CShare CNoShare)) (c_shows_path : CalX P w K mg base 5 "shows_path" ["one", "other", "thing"] (spPN3 K CShare CNoShare))
    (DS : Df K mg "_law_outcome" st_l_outcome ["_law_call"]) (TB : LamX.TabB base mg c1 P1) (hmT : (P1, qLam "_law_of_pair") ∈ T) (huT : ∀ p ∈ T, p.1 = P1 → p.2 = qLam "_law_of_pair") (D : DfT K mg "_law_of_pair" st_l_of_pair ["_law_one", "_law_other"] c1) : Cal P w K mg base 16 "_law_of_pair" ["_law_one", "_law_other"] (spOfPairW T CDivision CShare) := by
  obtain ⟨gS, fdS, Fg, hmS, hbS⟩ := DS.ex
  obtain ⟨oc, od', kV, doc, pm, an, cdS, ct, osl, rfl, lkS, hcS⟩ := Fg.ex
  refine D.cal sc_l_of_pair (fun vs H Q E h => ?_) (fun f A out s H vs Q E hr h => ?_)
  · obtain ⟨x, y, rfl, _⟩ := h
    rfl
  obtain ⟨x, y, rfl, nv, tb, k⟩ := h
  refine ⟨_, (pss_cons (ps_set (i := 2) sc_l_of_pair.nd rfl (.inl rfl) (pe_lst (pa_cons (LamX.pe_lamcall (T := T) (c := c1) (P := P1) (k := 13) (Ng := ["_law_call"]) (a := "_law_call") rfl hmS Fg.kp lkS hcS hbS sc_l_outcome rfl (.inl rfl) (outcome_gives O) TB rfl hmT huT (hr.mono (by decide)) (LamX.lamS_by (sc := defScope st_l_of_pair) (by decide +kernel)) rfl (fun _ _ _ _ _ => rfl) (fun A outer s H E f c' hr2 => pe_fnX c_is_calm (passW (takes_of rfl rfl rfl rfl)) (hr2.mono (by decide)) (pa_cons (pv 0) (pa_cons (pv 1) pa_nil)))) pa_nil)))
   (pss_cons (ps_expr (pe_bm PySem.F.plainAttrs_list PySem.F.slot_list_append PySem.F.type_list_append mt_append (pv 2) (pa_cons (LamX.pe_lamcall (T := T) (c := c1) (P := P1) (k := 13) (Ng := ["_law_call"]) (a := "_law_call") rfl hmS Fg.kp lkS hcS hbS sc_l_outcome rfl (.inl rfl) (outcome_gives O) TB rfl hmT huT (hr.mono (by decide)) (LamX.lamS_by (sc := defScope st_l_of_pair) (by decide +kernel)) rfl (fun _ _ _ _ _ => rfl) (fun A outer s H E f c' hr2 => pe_fnX c_is_calmer (passW (takes_of rfl rfl rfl rfl)) (hr2.mono (by decide)) (pa_cons (pv 0) (pa_cons (pv 1) pa_nil)))) pa_nil)))
   (pss_cons (ps_expr (pe_bm PySem.F.plainAttrs_list PySem.F.slot_list_append PySem.F.type_list_append mt_append (pv 2) (pa_cons (LamX.pe_lamcall (T := T) (c := c1) (P := P1) (k := 13) (Ng := ["_law_call"]) (a := "_law_call") rfl hmS Fg.kp lkS hcS hbS sc_l_outcome rfl (.inl rfl) (outcome_gives O) TB rfl hmT huT (hr.mono (by decide)) (LamX.lamS_by (sc := defScope st_l_of_pair) (by decide +kernel)) rfl (fun _ _ _ _ _ => rfl) (fun A outer s H E f c' hr2 => pe_fnX c_path (passW (takes_of rfl rfl rfl rfl)) (hr2.mono (by decide)) (pa_cons (pv 0) (pa_cons (pv 1) pa_nil)))) pa_nil)))
   (pss_cons (ps_expr (pe_bm PySem.F.plainAttrs_list PySem.F.slot_list_append PySem.F.type_list_append mt_append (pv 2) (pa_cons (LamX.pe_lamcall (T := T) (c := c1) (P := P1) (k := 13) (Ng := ["_law_call"]) (a := "_law_call") rfl hmS Fg.kp lkS hcS hbS sc_l_outcome rfl (.inl rfl) (outcome_gives O) TB rfl hmT huT (hr.mono (by decide)) (LamX.lamS_by (sc := defScope st_l_of_pair) (by decide +kernel)) rfl (fun _ _ _ _ _ => rfl) (fun A outer s H E f c' hr2 => pe_fnX c_shows_path (passW (takes_of rfl rfl rfl rfl)) (hr2.mono (by decide)) (pa_cons (pv 0) (pa_cons (pv 1) (pa_cons pe_non pa_nil))))) pa_nil)))
   (pss_one (ps_ret (pv 2))))))), ?_⟩
  refine ⟨tb, fun H1 ex1 tb1 => ?_⟩
  refine ⟨_, rfl, _, rfl, x, y, rfl, (nv.ext (ex1)).pn kt SDivision od, fun σ' => O.sh ?_⟩
  obtain ⟨H2, eH, k2⟩ : ∃ H2, H2 = H1 ∧ Same H1 H2 := ⟨H1, rfl, Same.refl _⟩
  rw [← eH]
  refine ⟨(by show 1 ≤ sizeLine; decide), fun L nL2 => ?_⟩
  generalize hH3 : upd H2 L _ = H3
  obtain ⟨k3, hL⟩ := alloc hH3 nL2
  clear hH3
  have nL : ∀ o, H L = some o → (∀ ps, o ≠ .tbl ps) → False := fun o' e n => by
    rw [k2 _ _ (ex1 _ _ e n)] at nL2
    cases nL2
  have ex : LamX.ExtN H H3 := ex1.trans (LamX.ExtN.of (k2.trans k3))
  have tb3 := Tabs.same tb1 (k2.trans k3)
  clear ex1 tb1 k2 k3 nL2 tb
  refine ⟨_, rfl, .inl ⟨rfl, _, SqL.of hL⟩, tb3, fun H1 ex1 tb1 => ?_⟩
  refine ⟨_, rfl, _, rfl, x, y, rfl, (nv.ext (ex.trans ex1)).pn kt SDivision od, fun σ' => O.sh ?_⟩
  obtain ⟨H2, eH, k2⟩ : ∃ H2, H2 = H1 ∧ Same H1 H2 := ⟨H1, rfl, Same.refl _⟩
  rw [← eH]
  obtain ⟨h2, x2, t2, l2⟩ := wd_step (y := .str "share") nL ex hL ex1 tb1 k2
  refine ⟨L, _, _, rfl, rfl, h2, (by show 1 < sizeLine; decide), ?_⟩
  clear ex tb3 hL ex1 tb1 k2
  generalize upd _ L _ = G2 at x2 t2 l2 ⊢
  clear h2
  refine ⟨_, rfl, .inl ⟨rfl, _, SqL.of l2⟩, t2, fun H1 ex1 tb1 => ?_⟩
  refine ⟨_, rfl, _, rfl, x, y, rfl, (nv.ext (x2.trans ex1)).pn kt SDivision od, fun σ' => O.sh ?_⟩
  obtain ⟨H2, eH, k2⟩ : ∃ H2, H2 = H1 ∧ Same H1 H2 := ⟨H1, rfl, Same.refl _⟩
  rw [← eH]
  obtain ⟨h3, x3, t3, l3⟩ := wd_step (y := .str "share") nL x2 l2 ex1 tb1 k2
  refine ⟨L, _, _, rfl, rfl, h3, (by show 2 < sizeLine; decide), ?_⟩
  clear x2 t2 l2 ex1 tb1 k2
  generalize upd _ L _ = G3 at x3 t3 l3 ⊢
  clear h3
  refine ⟨_, rfl, .inl ⟨rfl, _, SqL.of l3⟩, t3, fun H1 ex1 tb1 => ?_⟩
  refine ⟨_, rfl, _, rfl, x, y, _, rfl, (nv.ext (x3.trans ex1)).pn kt SDivision od, fun σ' => O.sh ?_⟩
  obtain ⟨H2, eH, k2⟩ : ∃ H2, H2 = H1 ∧ Same H1 H2 := ⟨H1, rfl, Same.refl _⟩
  rw [← eH]
  obtain ⟨h4, x4, t4, l4⟩ := wd_step (y := .str "share") nL x3 l3 ex1 tb1 k2
  refine ⟨L, _, _, rfl, rfl, h4, (by show 3 < sizeLine; decide), ?_⟩
  clear x3 t3 l3 ex1 tb1 k2
  generalize upd _ L _ = G4 at x4 t4 l4 ⊢
  clear h4
  exact ⟨_, rfl, k L _ x4 t4 l4⟩
theorem ok_ofPairR (O : OcH K mg CNoShare CNoDivision CNoRing CNoPerson) (c_is_calm : Cal P w K mg base 5 "is_calm" ["one", "other"] (spCalm CShare)) (c_is_calmer : Cal P w K mg base 6 "is_calmer" ["one", "other"] (spCalmer CShare)) (c_path : Cal P w K mg base 6 "path" ["one", "other"] (spPath K CShare)) (c_shows_path : Cal P w K mg base 5 "shows_path" ["one", "other", "thing"] (spShow0 CShare))
    (DS : Df K mg "_law_outcome" st_l_outcome ["_law_call"]) (TB : LamX.TabB base mg c1 P1) (hmT : (P1, qLam "_law_of_pair") ∈ T) (huT : ∀ p ∈ T, p.1 = P1 → p.2 = qLam "_law_of_pair") (D : DfT K mg "_law_of_pair" st_l_of_pair ["_law_one", "_law_other"] c1) : Cal P w K mg base 16 "_law_of_pair" ["_law_one", "_law_other"] (spOfPairR T CShare) := by
  obtain ⟨gS, fdS, Fg, hmS, hbS⟩ := DS.ex
  obtain ⟨oc, od', kV, doc, pm, an, cdS, ct, osl, rfl, lkS, hcS⟩ := Fg.ex
  refine D.cal sc_l_of_pair (fun vs H Q E h => ?_) (fun f A out s H vs Q E hr h => ?_)
  · obtain ⟨s1, t1, s2, t2, ns, ms, rfl, _⟩ := h
    rfl
  obtain ⟨s1, t1, s2, t2, ns, ms, rfl, sh1, sh2, ln, tb, k⟩ := h
  refine ⟨_, (pss_cons (ps_set (i := 2) sc_l_of_pair.nd rfl (.inl rfl) (pe_lst (pa_cons (LamX.pe_lamcall (T := T) (c := c1) (P := P1) (k := 13) (Ng := ["_law_call"]) (a := "_law_call") rfl hmS Fg.kp lkS hcS hbS sc_l_outcome rfl (.inl rfl) (outcome_gives O) TB rfl hmT huT (hr.mono (by decide)) (LamX.lamS_by (sc := defScope st_l_of_pair) (by decide +kernel)) rfl (fun _ _ _ _ _ => rfl) (fun A outer s H E f c' hr2 => pe_fn c_is_calm (hr2.mono (by decide)) (pa_cons (pv 0) (pa_cons (pv 1) pa_nil)))) pa_nil)))
   (pss_cons (ps_expr (pe_bm PySem.F.plainAttrs_list PySem.F.slot_list_append PySem.F.type_list_append mt_append (pv 2) (pa_cons (LamX.pe_lamcall (T := T) (c := c1) (P := P1) (k := 13) (Ng := ["_law_call"]) (a := "_law_call") rfl hmS Fg.kp lkS hcS hbS sc_l_outcome rfl (.inl rfl) (outcome_gives O) TB rfl hmT huT (hr.mono (by decide)) (LamX.lamS_by (sc := defScope st_l_of_pair) (by decide +kernel)) rfl (fun _ _ _ _ _ => rfl) (fun A outer s H E f c' hr2 => pe_fn c_is_calmer (hr2.mono (by decide)) (pa_cons (pv 0) (pa_cons (pv 1) pa_nil)))) pa_nil)))
   (pss_cons (ps_expr (pe_bm PySem.F.plainAttrs_list PySem.F.slot_list_append PySem.F.type_list_append mt_append (pv 2) (pa_cons (LamX.pe_lamcall (T := T) (c := c1) (P := P1) (k := 13) (Ng := ["_law_call"]) (a := "_law_call") rfl hmS Fg.kp lkS hcS hbS sc_l_outcome rfl (.inl rfl) (outcome_gives O) TB rfl hmT huT (hr.mono (by decide)) (LamX.lamS_by (sc := defScope st_l_of_pair) (by decide +kernel)) rfl (fun _ _ _ _ _ => rfl) (fun A outer s H E f c' hr2 => pe_fn c_path (hr2.mono (by decide)) (pa_cons (pv 0) (pa_cons (pv 1) pa_nil)))) pa_nil)))
   (pss_cons (ps_expr (pe_bm PySem.F.plainAttrs_list PySem.F.slot_list_append PySem.F.type_list_append mt_append (pv 2) (pa_cons (LamX.pe_lamcall (T := T) (c := c1) (P := P1) (k := 13) (Ng := ["_law_call"]) (a := "_law_call") rfl hmS Fg.kp lkS hcS hbS sc_l_outcome rfl (.inl rfl) (outcome_gives O) TB rfl hmT huT (hr.mono (by decide)) (LamX.lamS_by (sc := defScope st_l_of_pair) (by decide +kernel)) rfl (fun _ _ _ _ _ => rfl) (fun A outer s H E f c' hr2 => pe_fn c_shows_path (hr2.mono (by decide)) (pa_cons (pv 0) (pa_cons (pv 1) (pa_cons pe_non pa_nil))))) pa_nil)))
   (pss_one (ps_ret (pv 2))))))), ?_⟩
  refine ⟨tb, fun H1 ex1 tb1 => ?_⟩
  refine ⟨_, rfl, _, rfl, calmAny (E := E0) (sh1.extN (ex1)) (sh2.extN (ex1)) ln fun H2 k2 => ?_⟩
  refine ⟨(by show 1 ≤ sizeLine; decide), fun L nL2 => ?_⟩
  generalize hH3 : upd H2 L _ = H3
  obtain ⟨k3, hL⟩ := alloc hH3 nL2
  clear hH3
  have nL : ∀ o, H L = some o → (∀ ps, o ≠ .tbl ps) → False := fun o' e n => by
    rw [k2 _ _ (ex1 _ _ e n)] at nL2
    cases nL2
  have ex : LamX.ExtN H H3 := ex1.trans (LamX.ExtN.of (k2.trans k3))
  have tb3 := Tabs.same tb1 (k2.trans k3)
  clear ex1 tb1 k2 k3 nL2 tb
  refine ⟨_, rfl, .inl ⟨rfl, _, SqL.of hL⟩, tb3, fun H1 ex1 tb1 => ?_⟩
  refine ⟨_, rfl, _, rfl, calmerAny (E := E0) (sh1.extN (ex.trans ex1)) (sh2.extN (ex.trans ex1)) ln fun H2 k2 => ?_⟩
  obtain ⟨h2, x2, t2, l2⟩ := wd_step (y := .str "") nL ex hL ex1 tb1 k2
  refine ⟨L, _, _, rfl, rfl, h2, (by show 1 < sizeLine; decide), ?_⟩
  clear ex tb3 hL ex1 tb1 k2
  generalize upd _ L _ = G2 at x2 t2 l2 ⊢
  clear h2
  refine ⟨_, rfl, .inl ⟨rfl, _, SqL.of l2⟩, t2, fun H1 ex1 tb1 => ?_⟩
  refine ⟨_, rfl, _, rfl, pathAny (E := E0) (sh1.extN (x2.trans ex1)) (sh2.extN (x2.trans ex1)) ln fun H2 k2 => ?_⟩
  obtain ⟨h3, x3, t3, l3⟩ := wd_step (y := .str "") nL x2 l2 ex1 tb1 k2
  refine ⟨L, _, _, rfl, rfl, h3, (by show 2 < sizeLine; decide), ?_⟩
  clear x2 t2 l2 ex1 tb1 k2
  generalize upd _ L _ = G3 at x3 t3 l3 ⊢
  clear h3
  refine ⟨_, rfl, .inl ⟨rfl, _, SqL.of l3⟩, t3, fun H1 ex1 tb1 => ?_⟩
  refine ⟨_, rfl, _, rfl, showsAny (E := E0) (sh1.extN (x3.trans ex1)) (sh2.extN (x3.trans ex1)) ln fun H2 k2 => ?_⟩
  obtain ⟨h4, x4, t4, l4⟩ := wd_step (y := .str "") nL x3 l3 ex1 tb1 k2
  refine ⟨L, _, _, rfl, rfl, h4, (by show 3 < sizeLine; decide), ?_⟩
  clear x3 t3 l3 ex1 tb1 k2
  generalize upd _ L _ = G4 at x4 t4 l4 ⊢
  clear h4
  exact ⟨_, rfl, k L _ x4 t4 l4⟩
end
end Pl
namespace Pl
open PySem PySem.Spec PyProof.Rows L2 GenZ
abbrev st_l_of_division : Stmt := top 92
theorem sc_l_of_division : FnScope ["_law_made", "_law_thing", "_law_said"] ["_law_made", "_law_thing"] (defScope st_l_of_division) := ⟨rfl, rfl, rfl, by decide +kernel, rfl, by decide +kernel, by decide +kernel⟩
def spOfDivW (T : List (Addr × Str)) (CS : Addr) : Sp := fun vs H Q _ => ∃ v x : V, vs = [v, x] ∧ NoV CS H v ∧ LamX.Tabs T H ∧ ∀ (L : Addr) (H' : Hp), LamX.ExtN H H' → LamX.Tabs T H' → H' L = some (.lst (List.replicate 12 (.str "division"))) → Q (.ref L) H'
def spOfDivR (T : List (Addr × Str)) (CD CS : Addr) : Sp := fun vs H Q _ => ∃ (d t : Addr) (ss : List Addr) (rows : List (List Int)), vs = [.ref d, .non] ∧ DvAt CD CS H d t ss rows ∧ LamX.Tabs T H ∧ ∀ (L : Addr) (H' : Hp), LamX.ExtN H H' → LamX.Tabs T H' → H' L = some (.lst (List.replicate 12 (.str ""))) → Q (.ref L) H'
section
variable {CD C : Addr} {H : Hp} {Q : Hp → Prop} {E : XK} {d t : Addr} {ss : List Addr} {rows : List (List Int)}
theorem orderAny (dv : DvAt CD C H d t ss rows) (h : ∀ H', Same H H' → Q H') : spOrder CD C [.ref d] H (fun _ H' => Q H') E := ⟨d, t, ss, rows, rfl, dv, fun _ _ _ H' k _ _ _ _ => h H' k, fun _ _ _ _ _ _ H' k _ _ _ => h H' k⟩
theorem orderlyAny (dv : DvAt CD C H d t ss rows) (h : ∀ H', Same H H' → Q H') : spOrderly CD C [.ref d] H (fun _ H' => Q H') E := ⟨d, t, ss, rows, rfl, dv, fun _ H' k _ => h H' k⟩
end
section
variable {P : Program} {w : World} {K : PySem.W.Frag} {mg : Str → Option Value} {base : Heap} {CShare CDivision CPool CFine CNoShare CNoDivision CNoRing CNoPerson : Addr} {T : List (Addr × Str)} {c1 P1 : Addr} {nmP nmF : Str}
theorem ok_ofDivW (B : Bn mg) (kt : Kt7 K CDivision) (SShare : ShK K mg CShare) (o : PySem.W.kitOne K (.ref CShare) (.ref CDivision) = some false) (hS : PySem.W.subIn K (.ref CNoDivision) (.type "StopIteration") = some false) (O : OcH K mg CNoShare CNoDivision CNoRing CNoPerson) (SPool : PlK K mg "Pool" CPool) (SFine : PlK K mg "Fine" CFine)
    (c_ring : CalX P w K mg base 2 "ring" ["division"] (spN1 K CDivision CNoDivision)) (c_shows_ring : CalX P w K mg base 2 "shows_ring" ["division", "thing"] (spN2 K CDivision CNoDivision)) (c_levels : CalX P w K mg base 2 "levels" ["division"] (spN1 K CDivision CNoDivision)) (c_shows_levels : CalX P w K mg base 2 "shows_levels" ["division", "thing"] (spN2 K CDivision CNoDivision))
    (c_verdict : CalX P w K mg base 3 "verdict" ["division"] (spN1 K CDivision CNoDivision)) (c_shows_verdict : CalX P w K mg base 2 "shows_verdict" ["division", "thing"] (spN2 K CDivision CNoDivision)) (cL_settle : CalL P w K mg base 3 "settle" ["division"] (spGN K CDivision CNoDivision)) (c_settled : CalX P w K mg base 5 "settled" ["division"] (spN1 K CDivision CNoDivision)) (c_order : CalX P w K mg base 2 "order" ["division"] (spN1 K CDivision CNoDivision)) (c_is_orderly : CalX P w K mg base 3 "is_orderly" ["division"] (spN1 K CDivision CNoDivision))
    (k_Pool : MCalX P w K mg base 3 CPool "__init__" ["self", "division"] (spInitW K CPool CDivision CShare CNoDivision)) (k_Fine : MCalX P w K mg base 3 CFine "__init__" ["self", "division"] (spInitW K CFine CDivision CShare CNoDivision))
    (DS : Df K mg "_law_outcome" st_l_outcome ["_law_call"]) (TB : LamX.TabB base mg c1 P1) (hmT : (P1, qLam "_law_of_division") ∈ T) (huT : ∀ p ∈ T, p.1 = P1 → p.2 = qLam "_law_of_division") (D : DfT K mg "_law_of_division" st_l_of_division ["_law_made", "_law_thing"] c1) : Cal P w K mg base 16 "_law_of_division" ["_law_made", "_law_thing"] (spOfDivW T CShare) := by
  obtain ⟨gS, fdS, Fg, hmS, hbS⟩ := DS.ex
  obtain ⟨oc, od', kV, doc, pm, an, cdS, ct, osl, rfl, lkS, hcS⟩ := Fg.ex
  refine D.cal sc_l_of_division (fun vs H Q E h => ?_) (fun f A out s H vs Q E hr h => ?_)
  · obtain ⟨v, x, rfl, _⟩ := h
    rfl
  obtain ⟨v, x, rfl, nv, tb, k⟩ := h
  refine ⟨_, (pss_cons (ps_set (i := 2) sc_l_of_division.nd rfl (.inl rfl) (pe_lst (pa_cons (LamX.pe_lamcall (T := T) (c := c1) (P := P1) (k := 13) (Ng := ["_law_call"]) (a := "_law_call") rfl hmS Fg.kp lkS hcS hbS sc_l_outcome rfl (.inl rfl) (outcome_gives O) TB rfl hmT huT (hr.mono (by decide)) (LamX.lamS_by (sc := defScope st_l_of_division) (by decide +kernel)) rfl (fun _ _ _ _ _ => rfl) (fun A outer s H E f c' hr2 => pe_fnX c_ring (passW (takes_of rfl rfl rfl rfl)) (hr2.mono (by decide)) (pa_cons (pv 0) pa_nil))) pa_nil)))
   (pss_cons (ps_expr (pe_bm PySem.F.plainAttrs_list PySem.F.slot_list_append PySem.F.type_list_append mt_append (pv 2) (pa_cons (LamX.pe_lamcall (T := T) (c := c1) (P := P1) (k := 13) (Ng := ["_law_call"]) (a := "_law_call") rfl hmS Fg.kp lkS hcS hbS sc_l_outcome rfl (.inl rfl) (outcome_gives O) TB rfl hmT huT (hr.mono (by decide)) (LamX.lamS_by (sc := defScope st_l_of_division) (by decide +kernel)) rfl (fun _ _ _ _ _ => rfl) (fun A outer s H E f c' hr2 => pe_fnX c_shows_ring (passW (takes_of rfl rfl rfl rfl)) (hr2.mono (by decide)) (pa_cons (pv 0) (pa_cons (pv 1) pa_nil)))) pa_nil)))
   (pss_cons (ps_expr (pe_bm PySem.F.plainAttrs_list PySem.F.slot_list_append PySem.F.type_list_append mt_append (pv 2) (pa_cons (LamX.pe_lamcall (T := T) (c := c1) (P := P1) (k := 13) (Ng := ["_law_call"]) (a := "_law_call") rfl hmS Fg.kp lkS hcS hbS sc_l_outcome rfl (.inl rfl) (outcome_gives O) TB rfl hmT huT (hr.mono (by decide)) (LamX.lamS_by (sc := defScope st_l_of_division) (by decide +kernel)) rfl (fun _ _ _ _ _ => rfl) (fun A outer s H E f c' hr2 => pe_fnX c_levels (passW (takes_of rfl rfl rfl rfl)) (hr2.mono (by decide)) (pa_cons (pv 0) pa_nil))) pa_nil)))
   (pss_cons (ps_expr (pe_bm PySem.F.plainAttrs_list PySem.F.slot_list_append PySem.F.type_list_append mt_append (pv 2) (pa_cons (LamX.pe_lamcall (T := T) (c := c1) (P := P1) (k := 13) (Ng := ["_law_call"]) (a := "_law_call") rfl hmS Fg.kp lkS hcS hbS sc_l_outcome rfl (.inl rfl) (outcome_gives O) TB rfl hmT huT (hr.mono (by decide)) (LamX.lamS_by (sc := defScope st_l_of_division) (by decide +kernel)) rfl (fun _ _ _ _ _ => rfl) (fun A outer s H E f c' hr2 => pe_fnX c_shows_levels (passW (takes_of rfl rfl rfl rfl)) (hr2.mono (by decide)) (pa_cons (pv 0) (pa_cons (pv 1) pa_nil)))) pa_nil)))
   (pss_cons (ps_expr (pe_bm PySem.F.plainAttrs_list PySem.F.slot_list_append PySem.F.type_list_append mt_append (pv 2) (pa_cons (LamX.pe_lamcall (T := T) (c := c1) (P := P1) (k := 13) (Ng := ["_law_call"]) (a := "_law_call") rfl hmS Fg.kp lkS hcS hbS sc_l_outcome rfl (.inl rfl) (outcome_gives O) TB rfl hmT huT (hr.mono (by decide)) (LamX.lamS_by (sc := defScope st_l_of_division) (by decide +kernel)) rfl (fun _ _ _ _ _ => rfl) (fun A outer s H E f c' hr2 => pe_fnX c_verdict (passW (takes_of rfl rfl rfl rfl)) (hr2.mono (by decide)) (pa_cons (pv 0) pa_nil))) pa_nil)))
   (pss_cons (ps_expr (pe_bm PySem.F.plainAttrs_list PySem.F.slot_list_append PySem.F.type_list_append mt_append (pv 2) (pa_cons (LamX.pe_lamcall (T := T) (c := c1) (P := P1) (k := 13) (Ng := ["_law_call"]) (a := "_law_call") rfl hmS Fg.kp lkS hcS hbS sc_l_outcome rfl (.inl rfl) (outcome_gives O) TB rfl hmT huT (hr.mono (by decide)) (LamX.lamS_by (sc := defScope st_l_of_division) (by decide +kernel)) rfl (fun _ _ _ _ _ => rfl) (fun A outer s H E f c' hr2 => pe_fnX c_shows_verdict (passW (takes_of rfl rfl rfl rfl)) (hr2.mono (by decide)) (pa_cons (pv 0) (pa_cons (pv 1) pa_nil)))) pa_nil)))
   (pss_cons (ps_expr (pe_bm PySem.F.plainAttrs_list PySem.F.slot_list_append PySem.F.type_list_append mt_append (pv 2) (pa_cons (LamX.pe_lamcall (T := T) (c := c1) (P := P1) (k := 13) (Ng := ["_law_call"]) (a := "_law_call") rfl hmS Fg.kp lkS hcS hbS sc_l_outcome rfl (.inl rfl) (outcome_gives O) TB rfl hmT huT (hr.mono (by decide)) (LamX.lamS_by (sc := defScope st_l_of_division) (by decide +kernel)) rfl (fun _ _ _ _ _ => rfl) (fun A outer s H E f c' hr2 => pe_listX (E := fun cls d H' => cls = .ref CNoDivision ∧ E cls d H') cL_settle (Passes.mono (passW (takes_of rfl rfl rfl rfl)) fun c d H h σ => h.2) (fun cls d H h => by rw [h.1]; exact hS) (hr2.mono (by decide)) B.n_list (pa_cons (pv 0) pa_nil))) pa_nil)))
   (pss_cons (ps_expr (pe_bm PySem.F.plainAttrs_list PySem.F.slot_list_append PySem.F.type_list_append mt_append (pv 2) (pa_cons (LamX.pe_lamcall (T := T) (c := c1) (P := P1) (k := 13) (Ng := ["_law_call"]) (a := "_law_call") rfl hmS Fg.kp lkS hcS hbS sc_l_outcome rfl (.inl rfl) (outcome_gives O) TB rfl hmT huT (hr.mono (by decide)) (LamX.lamS_by (sc := defScope st_l_of_division) (by decide +kernel)) rfl (fun _ _ _ _ _ => rfl) (fun A outer s H E f c' hr2 => pe_fnX c_settled (passW (takes_of rfl rfl rfl rfl)) (hr2.mono (by decide)) (pa_cons (pv 0) pa_nil))) pa_nil)))
   (pss_cons (ps_expr (pe_bm PySem.F.plainAttrs_list PySem.F.slot_list_append PySem.F.type_list_append mt_append (pv 2) (pa_cons (LamX.pe_lamcall (T := T) (c := c1) (P := P1) (k := 13) (Ng := ["_law_call"]) (a := "_law_call") rfl hmS Fg.kp lkS hcS hbS sc_l_outcome rfl (.inl rfl) (outcome_gives O) TB rfl hmT huT (hr.mono (by decide)) (LamX.lamS_by (sc := defScope st_l_of_division) (by decide +kernel)) rfl (fun _ _ _ _ _ => rfl) (fun A outer s H E f c' hr2 => pe_fnX c_order (passW (takes_of rfl rfl rfl rfl)) (hr2.mono (by decide)) (pa_cons (pv 0) pa_nil))) pa_nil)))
   (pss_cons (ps_expr (pe_bm PySem.F.plainAttrs_list PySem.F.slot_list_append PySem.F.type_list_append mt_append (pv 2) (pa_cons (LamX.pe_lamcall (T := T) (c := c1) (P := P1) (k := 13) (Ng := ["_law_call"]) (a := "_law_call") rfl hmS Fg.kp lkS hcS hbS sc_l_outcome rfl (.inl rfl) (outcome_gives O) TB rfl hmT huT (hr.mono (by decide)) (LamX.lamS_by (sc := defScope st_l_of_division) (by decide +kernel)) rfl (fun _ _ _ _ _ => rfl) (fun A outer s H E f c' hr2 => pe_fnX c_is_orderly (passW (takes_of rfl rfl rfl rfl)) (hr2.mono (by decide)) (pa_cons (pv 0) pa_nil))) pa_nil)))
   (pss_cons (ps_expr (pe_bm PySem.F.plainAttrs_list PySem.F.slot_list_append PySem.F.type_list_append mt_append (pv 2) (pa_cons (LamX.pe_lamcall (T := T) (c := c1) (P := P1) (k := 13) (Ng := ["_law_call"]) (a := "_law_call") rfl hmS Fg.kp lkS hcS hbS sc_l_outcome rfl (.inl rfl) (outcome_gives O) TB rfl hmT huT (hr.mono (by decide)) (LamX.lamS_by (sc := defScope st_l_of_division) (by decide +kernel)) rfl (fun _ _ _ _ _ => rfl) (fun A outer s H E f c' hr2 => pe_mkX k_Pool (passW (takes_of rfl rfl rfl rfl)) SPool.mks SPool.kc SPool.mgC (hr2.mono (by decide)) (pa_cons (pv 0) pa_nil))) pa_nil)))
   (pss_one (ps_ret (pe_op op_cat (pv 2) (pe_lst (pa_cons (LamX.pe_lamcall (T := T) (c := c1) (P := P1) (k := 13) (Ng := ["_law_call"]) (a := "_law_call") rfl hmS Fg.kp lkS hcS hbS sc_l_outcome rfl (.inl rfl) (outcome_gives O) TB rfl hmT huT (hr.mono (by decide)) (LamX.lamS_by (sc := defScope st_l_of_division) (by decide +kernel)) rfl (fun _ _ _ _ _ => rfl) (fun A outer s H E f c' hr2 => pe_mkX k_Fine (passW (takes_of rfl rfl rfl rfl)) SFine.mks SFine.kc SFine.mgC (hr2.mono (by decide)) (pa_cons (pv 0) pa_nil))) pa_nil)))))))))))))))), ?_⟩
  refine ⟨tb, fun H1 ex1 tb1 => ?_⟩
  refine ⟨_, rfl, v, rfl, (nv.ext (ex1)).nodt kt SShare o, fun σ' => O.dv ?_⟩
  obtain ⟨H2, eH, k2⟩ : ∃ H2, H2 = H1 ∧ Same H1 H2 := ⟨H1, rfl, Same.refl _⟩
  rw [← eH]
  refine ⟨(by show 1 ≤ sizeLine; decide), fun L nL2 => ?_⟩
  generalize hH3 : upd H2 L _ = H3
  obtain ⟨k3, hL⟩ := alloc hH3 nL2
  clear hH3
  have nL : ∀ o, H L = some o → (∀ ps, o ≠ .tbl ps) → False := fun o' e n => by
    rw [k2 _ _ (ex1 _ _ e n)] at nL2
    cases nL2
  have ex : LamX.ExtN H H3 := ex1.trans (LamX.ExtN.of (k2.trans k3))
  have tb3 := Tabs.same tb1 (k2.trans k3)
  clear ex1 tb1 k2 k3 nL2 tb
  refine ⟨_, rfl, .inl ⟨rfl, _, SqL.of hL⟩, tb3, fun H1 ex1 tb1 => ?_⟩
  refine ⟨_, rfl, _, rfl, v, x, rfl, (nv.ext (ex.trans ex1)).nodt kt SShare o, fun σ' => O.dv ?_⟩
  obtain ⟨H2, eH, k2⟩ : ∃ H2, H2 = H1 ∧ Same H1 H2 := ⟨H1, rfl, Same.refl _⟩
  rw [← eH]
  obtain ⟨h2, x2, t2, l2⟩ := wd_step (y := .str "division") nL ex hL ex1 tb1 k2
  refine ⟨L, _, _, rfl, rfl, h2, (by show 1 < sizeLine; decide), ?_⟩
  clear ex tb3 hL ex1 tb1 k2
  generalize upd _ L _ = G2 at x2 t2 l2 ⊢
  clear h2
  refine ⟨_, rfl, .inl ⟨rfl, _, SqL.of l2⟩, t2, fun H1 ex1 tb1 => ?_⟩
  refine ⟨_, rfl, v, rfl, (nv.ext (x2.trans ex1)).nodt kt SShare o, fun σ' => O.dv ?_⟩
  obtain ⟨H2, eH, k2⟩ : ∃ H2, H2 = H1 ∧ Same H1 H2 := ⟨H1, rfl, Same.refl _⟩
  rw [← eH]
  obtain ⟨h3, x3, t3, l3⟩ := wd_step (y := .str "division") nL x2 l2 ex1 tb1 k2
  refine ⟨L, _, _, rfl, rfl, h3, (by show 2 < sizeLine; decide), ?_⟩
  clear x2 t2 l2 ex1 tb1 k2
  generalize upd _ L _ = G3 at x3 t3 l3 ⊢
  clear h3
  refine ⟨_, rfl, .inl ⟨rfl, _, SqL.of l3⟩, t3, fun H1 ex1 tb1 => ?_⟩
  refine ⟨_, rfl, _, rfl, v, x, rfl, (nv.ext (x3.trans ex1)).nodt kt SShare o, fun σ' => O.dv ?_⟩
  obtain ⟨H2, eH, k2⟩ : ∃ H2, H2 = H1 ∧ Same H1 H2 := ⟨H1, rfl, Same.refl _⟩
  rw [← eH]
  obtain ⟨h4, x4, t4, l4⟩ := wd_step (y := .str "division") nL x3 l3 ex1 tb1 k2
  refine ⟨L, _, _, rfl, rfl, h4, (by show 3 < sizeLine; decide), ?_⟩
  clear x3 t3 l3 ex1 tb1 k2
  generalize upd _ L _ = G4 at x4 t4 l4 ⊢
  clear h4
  refine ⟨_, rfl, .inl ⟨rfl, _, SqL.of l4⟩, t4, fun H1 ex1 tb1 => ?_⟩
  refine ⟨_, rfl, v, rfl, (nv.ext (x4.trans ex1)).nodt kt SShare o, fun σ' => O.dv ?_⟩
  obtain ⟨H2, eH, k2⟩ : ∃ H2, H2 = H1 ∧ Same H1 H2 := ⟨H1, rfl, Same.refl _⟩
  rw [← eH]
  obtain ⟨h5, x5, t5, l5⟩ := wd_step (y := .str "division") nL x4 l4 ex1 tb1 k2
  refine ⟨L, _, _, rfl, rfl, h5, (by show 4 < sizeLine; decide), ?_⟩
  clear x4 t4 l4 ex1 tb1 k2
  generalize upd _ L _ = G5 at x5 t5 l5 ⊢
  clear h5
  refine ⟨_, rfl, .inl ⟨rfl, _, SqL.of l5⟩, t5, fun H1 ex1 tb1 => ?_⟩
  refine ⟨_, rfl, _, rfl, v, x, rfl, (nv.ext (x5.trans ex1)).nodt kt SShare o, fun σ' => O.dv ?_⟩
  obtain ⟨H2, eH, k2⟩ : ∃ H2, H2 = H1 ∧ Same H1 H2 := ⟨H1, rfl, Same.refl _⟩
  rw [← eH]
  obtain ⟨h6, x6, t6, l6⟩ := wd_step (y := .str "division") nL x5 l5 ex1 tb1 k2
  refine ⟨L, _, _, rfl, rfl, h6, (by show 5 < sizeLine; decide), ?_⟩
  clear x5 t5 l5 ex1 tb1 k2
  generalize upd _ L _ = G6 at x6 t6 l6 ⊢
  clear h6
  refine ⟨_, rfl, .inl ⟨rfl, _, SqL.of l6⟩, t6, fun H1 ex1 tb1 => ?_⟩
  refine ⟨_, rfl, v, rfl, (nv.ext (x6.trans ex1)).nodt kt SShare o, rfl, O.dv ?_⟩
  obtain ⟨H2, eH, k2⟩ : ∃ H2, H2 = H1 ∧ Same H1 H2 := ⟨H1, rfl, Same.refl _⟩
  rw [← eH]
  obtain ⟨h7, x7, t7, l7⟩ := wd_step (y := .str "division") nL x6 l6 ex1 tb1 k2
  refine ⟨L, _, _, rfl, rfl, h7, (by show 6 < sizeLine; decide), ?_⟩
  clear x6 t6 l6 ex1 tb1 k2
  generalize upd _ L _ = G7 at x7 t7 l7 ⊢
  clear h7
  refine ⟨_, rfl, .inl ⟨rfl, _, SqL.of l7⟩, t7, fun H1 ex1 tb1 => ?_⟩
  refine ⟨_, rfl, v, rfl, (nv.ext (x7.trans ex1)).nodt kt SShare o, fun σ' => O.dv ?_⟩
  obtain ⟨H2, eH, k2⟩ : ∃ H2, H2 = H1 ∧ Same H1 H2 := ⟨H1, rfl, Same.refl _⟩
  rw [← eH]
  obtain ⟨h8, x8, t8, l8⟩ := wd_step (y := .str "division") nL x7 l7 ex1 tb1 k2
  refine ⟨L, _, _, rfl, rfl, h8, (by show 7 < sizeLine; decide), ?_⟩
  clear x7 t7 l7 ex1 tb1 k2
  generalize upd _ L _ = G8 at x8 t8 l8 ⊢
  clear h8
  refine ⟨_, rfl, .inl ⟨rfl, _, SqL.of l8⟩, t8, fun H1 ex1 tb1 => ?_⟩
  refine ⟨_, rfl, v, rfl, (nv.ext (x8.trans ex1)).nodt kt SShare o, fun σ' => O.dv ?_⟩
  obtain ⟨H2, eH, k2⟩ : ∃ H2, H2 = H1 ∧ Same H1 H2 := ⟨H1, rfl, Same.refl _⟩
  rw [← eH]
  obtain ⟨h9, x9, t9, l9⟩ := wd_step (y := .str "division") nL x8 l8 ex1 tb1 k2
  refine ⟨L, _, _, rfl, rfl, h9, (by show 8 < sizeLine; decide), ?_⟩
  clear x8 t8 l8 ex1 tb1 k2
  generalize upd _ L _ = G9 at x9 t9 l9 ⊢
  clear h9
  refine ⟨_, rfl, .inl ⟨rfl, _, SqL.of l9⟩, t9, fun H1 ex1 tb1 => ?_⟩
  refine ⟨_, rfl, v, rfl, (nv.ext (x9.trans ex1)).nodt kt SShare o, fun σ' => O.dv ?_⟩
  obtain ⟨H2, eH, k2⟩ : ∃ H2, H2 = H1 ∧ Same H1 H2 := ⟨H1, rfl, Same.refl _⟩
  rw [← eH]
  obtain ⟨h10, x10, t10, l10⟩ := wd_step (y := .str "division") nL x9 l9 ex1 tb1 k2
  refine ⟨L, _, _, rfl, rfl, h10, (by show 9 < sizeLine; decide), ?_⟩
  clear x9 t9 l9 ex1 tb1 k2
  generalize upd _ L _ = G10 at x10 t10 l10 ⊢
  clear h10
  refine ⟨_, rfl, .inl ⟨rfl, _, SqL.of l10⟩, t10, fun H1 ex1 tb1 => ?_⟩
  refine ⟨_, rfl, fun x' dx nx ndx ne => ?_⟩
  have k2 : Same H1 (upd (upd H1 dx (.own x')) x' (.ins CPool dx [])) := same_put (same_put (Same.refl _) ndx) nx
  refine ⟨x', dx, v, rfl, upd_same, .inr ⟨((nv.ext (x10.trans ex1)).same k2).nodt kt SShare o, fun σ' => O.dv ?_⟩⟩
  generalize upd (upd H1 dx _) x' _ = H2 at k2 ⊢
  obtain ⟨h11, x11, t11, l11⟩ := wd_step (y := .str "division") nL x10 l10 ex1 tb1 k2
  refine ⟨L, _, _, rfl, rfl, h11, (by show 10 < sizeLine; decide), ?_⟩
  clear x10 t10 l10 ex1 tb1 k2
  generalize upd _ L _ = G11 at x11 t11 l11 ⊢
  clear h11
  refine ⟨_, rfl, ?_⟩
  refine ⟨t11, fun H1 ex1 tb1 => ?_⟩
  refine ⟨_, rfl, fun x' dx nx ndx ne => ?_⟩
  have k2 : Same H1 (upd (upd H1 dx (.own x')) x' (.ins CFine dx [])) := same_put (same_put (Same.refl _) ndx) nx
  refine ⟨x', dx, v, rfl, upd_same, .inr ⟨((nv.ext (x11.trans ex1)).same k2).nodt kt SShare o, fun σ' => O.dv ?_⟩⟩
  generalize upd (upd H1 dx _) x' _ = H2 at k2 ⊢
  refine ⟨(by show 1 ≤ sizeLine; decide), fun L2 hL2 => ?_⟩
  generalize hH3 : upd H2 L2 _ = H3
  obtain ⟨k3, e3⟩ := alloc hH3 hL2
  clear hH3
  have k13 := k2.trans k3
  have hL3 := k13 _ _ (ex1 _ _ l11 (fun ps z => nomatch z))
  refine ⟨L, L2, _, _, rfl, rfl, hL3, e3, (by show 12 ≤ sizeLine; decide), fun M hM => ?_⟩
  generalize hH4 : upd H3 M _ = H4
  obtain ⟨k4, e4⟩ := alloc hH4 hM
  clear hH4
  have k14 := k13.trans k4
  exact k M H4 ((x11.trans ex1).trans (LamX.ExtN.of k14)) (Tabs.same tb1 k14) e4
theorem ok_ofDivR (B : Bn mg) (O : OcH K mg CNoShare CNoDivision CNoRing CNoPerson) (SPool : PlK K mg "Pool" CPool) (SFine : PlK K mg "Fine" CFine)
    (c_ring : Cal P w K mg base 9 "ring" ["division"] (spRing CDivision CShare)) (c_shows_ring : Cal P w K mg base 7 "shows_ring" ["division", "thing"] (spShowR K CDivision CShare)) (c_levels : Cal P w K mg base 7 "levels" ["division"] (spLevels CDivision CShare)) (c_shows_levels : Cal P w K mg base 7 "shows_levels" ["division", "thing"] (spShowV K CDivision CShare))
    (c_verdict : Cal P w K mg base 10 "verdict" ["division"] (spVerdict CDivision CShare)) (c_shows_verdict : Cal P w K mg base 8 "shows_verdict" ["division", "thing"] (spShowVA K CDivision CShare)) (cL_settle : CalL P w K mg base 10 "settle" ["division"] (spGenL CDivision CShare)) (c_settled : Cal P w K mg base 12 "settled" ["division"] (spSettled CDivision CShare)) (c_order : Cal P w K mg base 7 "order" ["division"] (spOrder CDivision CShare)) (c_is_orderly : Cal P w K mg base 8 "is_orderly" ["division"] (spOrderly CDivision CShare))
    (k_Pool : MCalX P w K mg base 3 CPool "__init__" ["self", "division"] (spInitW K CPool CDivision CShare CNoDivision)) (k_Fine : MCalX P w K mg base 3 CFine "__init__" ["self", "division"] (spInitW K CFine CDivision CShare CNoDivision))
    (DS : Df K mg "_law_outcome" st_l_outcome ["_law_call"]) (TB : LamX.TabB base mg c1 P1) (hmT : (P1, qLam "_law_of_division") ∈ T) (huT : ∀ p ∈ T, p.1 = P1 → p.2 = qLam "_law_of_division") (D : DfT K mg "_law_of_division" st_l_of_division ["_law_made", "_law_thing"] c1) : Cal P w K mg base 16 "_law_of_division" ["_law_made", "_law_thing"] (spOfDivR T CDivision CShare) := by
  obtain ⟨gS, fdS, Fg, hmS, hbS⟩ := DS.ex
  obtain ⟨oc, od', kV, doc, pm, an, cdS, ct, osl, rfl, lkS, hcS⟩ := Fg.ex
  refine D.cal sc_l_of_division (fun vs H Q E h => ?_) (fun f A out s H vs Q E hr h => ?_)
  · obtain ⟨d, t, ss, rows, rfl, _⟩ := h
    rfl
  obtain ⟨d, t, ss, rows, rfl, dv, tb, k⟩ := h
  refine ⟨_, (pss_cons (ps_set (i := 2) sc_l_of_division.nd rfl (.inl rfl) (pe_lst (pa_cons (LamX.pe_lamcall (T := T) (c := c1) (P := P1) (k := 13) (Ng := ["_law_call"]) (a := "_law_call") rfl hmS Fg.kp lkS hcS hbS sc_l_outcome rfl (.inl rfl) (outcome_gives O) TB rfl hmT huT (hr.mono (by decide)) (LamX.lamS_by (sc := defScope st_l_of_division) (by decide +kernel)) rfl (fun _ _ _ _ _ => rfl) (fun A outer s H E f c' hr2 => pe_fn c_ring (hr2.mono (by decide)) (pa_cons (pv 0) pa_nil))) pa_nil)))
   (pss_cons (ps_expr (pe_bm PySem.F.plainAttrs_list PySem.F.slot_list_append PySem.F.type_list_append mt_append (pv 2) (pa_cons (LamX.pe_lamcall (T := T) (c := c1) (P := P1) (k := 13) (Ng := ["_law_call"]) (a := "_law_call") rfl hmS Fg.kp lkS hcS hbS sc_l_outcome rfl (.inl rfl) (outcome_gives O) TB rfl hmT huT (hr.mono (by decide)) (LamX.lamS_by (sc := defScope st_l_of_division) (by decide +kernel)) rfl (fun _ _ _ _ _ => rfl) (fun A outer s H E f c' hr2 => pe_fn c_shows_ring (hr2.mono (by decide)) (pa_cons (pv 0) (pa_cons (pv 1) pa_nil)))) pa_nil)))
   (pss_cons (ps_expr (pe_bm PySem.F.plainAttrs_list PySem.F.slot_list_append PySem.F.type_list_append mt_append (pv 2) (pa_cons (LamX.pe_lamcall (T := T) (c := c1) (P := P1) (k := 13) (Ng := ["_law_call"]) (a := "_law_call") rfl hmS Fg.kp lkS hcS hbS sc_l_outcome rfl (.inl rfl) (outcome_gives O) TB rfl hmT huT (hr.mono (by decide)) (LamX.lamS_by (sc := defScope st_l_of_division) (by decide +kernel)) rfl (fun _ _ _ _ _ => rfl) (fun A outer s H E f c' hr2 => pe_fn c_levels (hr2.mono (by decide)) (pa_cons (pv 0) pa_nil))) pa_nil)))
   (pss_cons (ps_expr (pe_bm PySem.F.plainAttrs_list PySem.F.slot_list_append PySem.F.type_list_append mt_append (pv 2) (pa_cons (LamX.pe_lamcall (T := T) (c := c1) (P := P1) (k := 13) (Ng := ["_law_call"]) (a := "_law_call") rfl hmS Fg.kp lkS hcS hbS sc_l_outcome rfl (.inl rfl) (outcome_gives O) TB rfl hmT huT (hr.mono (by decide)) (LamX.lamS_by (sc := defScope st_l_of_division) (by decide +kernel)) rfl (fun _ _ _ _ _ => rfl) (fun A outer s H E f c' hr2 => pe_fn c_shows_levels (hr2.mono (by decide)) (pa_cons (pv 0) (pa_cons (pv 1) pa_nil)))) pa_nil)))
   (pss_cons (ps_expr (pe_bm PySem.F.plainAttrs_list PySem.F.slot_list_append PySem.F.type_list_append mt_append (pv 2) (pa_cons (LamX.pe_lamcall (T := T) (c := c1) (P := P1) (k := 13) (Ng := ["_law_call"]) (a := "_law_call") rfl hmS Fg.kp lkS hcS hbS sc_l_outcome rfl (.inl rfl) (outcome_gives O) TB rfl hmT huT (hr.mono (by decide)) (LamX.lamS_by (sc := defScope st_l_of_division) (by decide +kernel)) rfl (fun _ _ _ _ _ => rfl) (fun A outer s H E f c' hr2 => pe_fn c_verdict (hr2.mono (by decide)) (pa_cons (pv 0) pa_nil))) pa_nil)))
   (pss_cons (ps_expr (pe_bm PySem.F.plainAttrs_list PySem.F.slot_list_append PySem.F.type_list_append mt_append (pv 2) (pa_cons (LamX.pe_lamcall (T := T) (c := c1) (P := P1) (k := 13) (Ng := ["_law_call"]) (a := "_law_call") rfl hmS Fg.kp lkS hcS hbS sc_l_outcome rfl (.inl rfl) (outcome_gives O) TB rfl hmT huT (hr.mono (by decide)) (LamX.lamS_by (sc := defScope st_l_of_division) (by decide +kernel)) rfl (fun _ _ _ _ _ => rfl) (fun A outer s H E f c' hr2 => pe_fn c_shows_verdict (hr2.mono (by decide)) (pa_cons (pv 0) (pa_cons (pv 1) pa_nil)))) pa_nil)))
   (pss_cons (ps_expr (pe_bm PySem.F.plainAttrs_list PySem.F.slot_list_append PySem.F.type_list_append mt_append (pv 2) (pa_cons (LamX.pe_lamcall (T := T) (c := c1) (P := P1) (k := 13) (Ng := ["_law_call"]) (a := "_law_call") rfl hmS Fg.kp lkS hcS hbS sc_l_outcome rfl (.inl rfl) (outcome_gives O) TB rfl hmT huT (hr.mono (by decide)) (LamX.lamS_by (sc := defScope st_l_of_division) (by decide +kernel)) rfl (fun _ _ _ _ _ => rfl) (fun A outer s H E f c' hr2 => pe_listL cL_settle (hr2.mono (by decide)) B.n_list (pa_cons (pv 0) pa_nil))) pa_nil)))
   (pss_cons (ps_expr (pe_bm PySem.F.plainAttrs_list PySem.F.slot_list_append PySem.F.type_list_append mt_append (pv 2) (pa_cons (LamX.pe_lamcall (T := T) (c := c1) (P := P1) (k := 13) (Ng := ["_law_call"]) (a := "_law_call") rfl hmS Fg.kp lkS hcS hbS sc_l_outcome rfl (.inl rfl) (outcome_gives O) TB rfl hmT huT (hr.mono (by decide)) (LamX.lamS_by (sc := defScope st_l_of_division) (by decide +kernel)) rfl (fun _ _ _ _ _ => rfl) (fun A outer s H E f c' hr2 => pe_fn c_settled (hr2.mono (by decide)) (pa_cons (pv 0) pa_nil))) pa_nil)))
   (pss_cons (ps_expr (pe_bm PySem.F.plainAttrs_list PySem.F.slot_list_append PySem.F.type_list_append mt_append (pv 2) (pa_cons (LamX.pe_lamcall (T := T) (c := c1) (P := P1) (k := 13) (Ng := ["_law_call"]) (a := "_law_call") rfl hmS Fg.kp lkS hcS hbS sc_l_outcome rfl (.inl rfl) (outcome_gives O) TB rfl hmT huT (hr.mono (by decide)) (LamX.lamS_by (sc := defScope st_l_of_division) (by decide +kernel)) rfl (fun _ _ _ _ _ => rfl) (fun A outer s H E f c' hr2 => pe_fn c_order (hr2.mono (by decide)) (pa_cons (pv 0) pa_nil))) pa_nil)))
   (pss_cons (ps_expr (pe_bm PySem.F.plainAttrs_list PySem.F.slot_list_append PySem.F.type_list_append mt_append (pv 2) (pa_cons (LamX.pe_lamcall (T := T) (c := c1) (P := P1) (k := 13) (Ng := ["_law_call"]) (a := "_law_call") rfl hmS Fg.kp lkS hcS hbS sc_l_outcome rfl (.inl rfl) (outcome_gives O) TB rfl hmT huT (hr.mono (by decide)) (LamX.lamS_by (sc := defScope st_l_of_division) (by decide +kernel)) rfl (fun _ _ _ _ _ => rfl) (fun A outer s H E f c' hr2 => pe_fn c_is_orderly (hr2.mono (by decide)) (pa_cons (pv 0) pa_nil))) pa_nil)))
   (pss_cons (ps_expr (pe_bm PySem.F.plainAttrs_list PySem.F.slot_list_append PySem.F.type_list_append mt_append (pv 2) (pa_cons (LamX.pe_lamcall (T := T) (c := c1) (P := P1) (k := 13) (Ng := ["_law_call"]) (a := "_law_call") rfl hmS Fg.kp lkS hcS hbS sc_l_outcome rfl (.inl rfl) (outcome_gives O) TB rfl hmT huT (hr.mono (by decide)) (LamX.lamS_by (sc := defScope st_l_of_division) (by decide +kernel)) rfl (fun _ _ _ _ _ => rfl) (fun A outer s H E f c' hr2 => pe_mkX k_Pool (passW (takes_of rfl rfl rfl rfl)) SPool.mks SPool.kc SPool.mgC (hr2.mono (by decide)) (pa_cons (pv 0) pa_nil))) pa_nil)))
   (pss_one (ps_ret (pe_op op_cat (pv 2) (pe_lst (pa_cons (LamX.pe_lamcall (T := T) (c := c1) (P := P1) (k := 13) (Ng := ["_law_call"]) (a := "_law_call") rfl hmS Fg.kp lkS hcS hbS sc_l_outcome rfl (.inl rfl) (outcome_gives O) TB rfl hmT huT (hr.mono (by decide)) (LamX.lamS_by (sc := defScope st_l_of_division) (by decide +kernel)) rfl (fun _ _ _ _ _ => rfl) (fun A outer s H E f c' hr2 => pe_mkX k_Fine (passW (takes_of rfl rfl rfl rfl)) SFine.mks SFine.kc SFine.mgC (hr2.mono (by decide)) (pa_cons (pv 0) pa_nil))) pa_nil)))))))))))))))), ?_⟩
  refine ⟨tb, fun H1 ex1 tb1 => ?_⟩
  refine ⟨_, rfl, ringAny (E := E0) (dv.extN (ex1)) fun H2 k2 => ?_⟩
  refine ⟨(by show 1 ≤ sizeLine; decide), fun L nL2 => ?_⟩
  generalize hH3 : upd H2 L _ = H3
  obtain ⟨k3, hL⟩ := alloc hH3 nL2
  clear hH3
  have nL : ∀ o, H L = some o → (∀ ps, o ≠ .tbl ps) → False := fun o' e n => by
    rw [k2 _ _ (ex1 _ _ e n)] at nL2
    cases nL2
  have ex : LamX.ExtN H H3 := ex1.trans (LamX.ExtN.of (k2.trans k3))
  have tb3 := Tabs.same tb1 (k2.trans k3)
  clear ex1 tb1 k2 k3 nL2 tb
  refine ⟨_, rfl, .inl ⟨rfl, _, SqL.of hL⟩, tb3, fun H1 ex1 tb1 => ?_⟩
  refine ⟨_, rfl, _, rfl, showRAny (E := E0) (dv.extN (ex.trans ex1)) fun H2 k2 => ?_⟩
  obtain ⟨h2, x2, t2, l2⟩ := wd_step (y := .str "") nL ex hL ex1 tb1 k2
  refine ⟨L, _, _, rfl, rfl, h2, (by show 1 < sizeLine; decide), ?_⟩
  clear ex tb3 hL ex1 tb1 k2
  generalize upd _ L _ = G2 at x2 t2 l2 ⊢
  clear h2
  refine ⟨_, rfl, .inl ⟨rfl, _, SqL.of l2⟩, t2, fun H1 ex1 tb1 => ?_⟩
  refine ⟨_, rfl, levelsAny (E := E0) (dv.extN (x2.trans ex1)) fun H2 k2 => ?_⟩
  obtain ⟨h3, x3, t3, l3⟩ := wd_step (y := .str "") nL x2 l2 ex1 tb1 k2
  refine ⟨L, _, _, rfl, rfl, h3, (by show 2 < sizeLine; decide), ?_⟩
  clear x2 t2 l2 ex1 tb1 k2
  generalize upd _ L _ = G3 at x3 t3 l3 ⊢
  clear h3
  refine ⟨_, rfl, .inl ⟨rfl, _, SqL.of l3⟩, t3, fun H1 ex1 tb1 => ?_⟩
  refine ⟨_, rfl, _, rfl, showLAny (E := E0) (dv.extN (x3.trans ex1)) fun H2 k2 => ?_⟩
  obtain ⟨h4, x4, t4, l4⟩ := wd_step (y := .str "") nL x3 l3 ex1 tb1 k2
  refine ⟨L, _, _, rfl, rfl, h4, (by show 3 < sizeLine; decide), ?_⟩
  clear x3 t3 l3 ex1 tb1 k2
  generalize upd _ L _ = G4 at x4 t4 l4 ⊢
  clear h4
  refine ⟨_, rfl, .inl ⟨rfl, _, SqL.of l4⟩, t4, fun H1 ex1 tb1 => ?_⟩
  refine ⟨_, rfl, verdictAny (E := E0) (dv.extN (x4.trans ex1)) fun H2 k2 => ?_⟩
  obtain ⟨h5, x5, t5, l5⟩ := wd_step (y := .str "") nL x4 l4 ex1 tb1 k2
  refine ⟨L, _, _, rfl, rfl, h5, (by show 4 < sizeLine; decide), ?_⟩
  clear x4 t4 l4 ex1 tb1 k2
  generalize upd _ L _ = G5 at x5 t5 l5 ⊢
  clear h5
  refine ⟨_, rfl, .inl ⟨rfl, _, SqL.of l5⟩, t5, fun H1 ex1 tb1 => ?_⟩
  refine ⟨_, rfl, _, rfl, showVAny (E := E0) (dv.extN (x5.trans ex1)) fun H2 k2 => ?_⟩
  obtain ⟨h6, x6, t6, l6⟩ := wd_step (y := .str "") nL x5 l5 ex1 tb1 k2
  refine ⟨L, _, _, rfl, rfl, h6, (by show 5 < sizeLine; decide), ?_⟩
  clear x5 t5 l5 ex1 tb1 k2
  generalize upd _ L _ = G6 at x6 t6 l6 ⊢
  clear h6
  refine ⟨_, rfl, .inl ⟨rfl, _, SqL.of l6⟩, t6, fun H1 ex1 tb1 => ?_⟩
  refine ⟨_, rfl, d, t, ss, rows, rfl, (dv.extN (x6.trans ex1)), fun L2 r2 ys H2 k2 _ _ _ _ p1 hp1 => ?_⟩
  generalize hH4 : upd H2 p1 _ = H4
  obtain ⟨k4, _⟩ := alloc hH4 hp1
  clear hH4
  have k2 := k2.trans k4
  obtain ⟨h7, x7, t7, l7⟩ := wd_step (y := .str "") nL x6 l6 ex1 tb1 k2
  refine ⟨L, _, _, rfl, rfl, h7, (by show 6 < sizeLine; decide), ?_⟩
  clear x6 t6 l6 ex1 tb1 k2
  generalize upd _ L _ = G7 at x7 t7 l7 ⊢
  clear h7
  refine ⟨_, rfl, .inl ⟨rfl, _, SqL.of l7⟩, t7, fun H1 ex1 tb1 => ?_⟩
  refine ⟨_, rfl, d, t, ss, rows, rfl, (dv.extN (x7.trans ex1)), fun L3 r3 d2 t2 sd2 H2 k2 _ _ _ => ?_⟩
  obtain ⟨h8, x8, t8, l8⟩ := wd_step (y := .str "") nL x7 l7 ex1 tb1 k2
  refine ⟨L, _, _, rfl, rfl, h8, (by show 7 < sizeLine; decide), ?_⟩
  clear x7 t7 l7 ex1 tb1 k2
  generalize upd _ L _ = G8 at x8 t8 l8 ⊢
  clear h8
  refine ⟨_, rfl, .inl ⟨rfl, _, SqL.of l8⟩, t8, fun H1 ex1 tb1 => ?_⟩
  refine ⟨_, rfl, orderAny (E := E0) (dv.extN (x8.trans ex1)) fun H2 k2 => ?_⟩
  obtain ⟨h9, x9, t9, l9⟩ := wd_step (y := .str "") nL x8 l8 ex1 tb1 k2
  refine ⟨L, _, _, rfl, rfl, h9, (by show 8 < sizeLine; decide), ?_⟩
  clear x8 t8 l8 ex1 tb1 k2
  generalize upd _ L _ = G9 at x9 t9 l9 ⊢
  clear h9
  refine ⟨_, rfl, .inl ⟨rfl, _, SqL.of l9⟩, t9, fun H1 ex1 tb1 => ?_⟩
  refine ⟨_, rfl, orderlyAny (E := E0) (dv.extN (x9.trans ex1)) fun H2 k2 => ?_⟩
  obtain ⟨h10, x10, t10, l10⟩ := wd_step (y := .str "") nL x9 l9 ex1 tb1 k2
  refine ⟨L, _, _, rfl, rfl, h10, (by show 9 < sizeLine; decide), ?_⟩
  clear x9 t9 l9 ex1 tb1 k2
  generalize upd _ L _ = G10 at x10 t10 l10 ⊢
  clear h10
  refine ⟨_, rfl, .inl ⟨rfl, _, SqL.of l10⟩, t10, fun H1 ex1 tb1 => ?_⟩
  refine ⟨_, rfl, fun x' dx nx ndx ne => ?_⟩
  have k2 : Same H1 (upd (upd H1 dx (.own x')) x' (.ins CPool dx [])) := same_put (same_put (Same.refl _) ndx) nx
  refine ⟨x', dx, _, rfl, upd_same, .inl ⟨d, t, ss, rows, rfl, ((dv.extN (x10.trans ex1))).same k2, fun H2 kp _ => ⟨rfl, ?_⟩⟩⟩
  have k2 : Same H1 H2 := fun b o q => kp b o (ne_of_none q nx) (k2 b o q)
  obtain ⟨h11, x11, t11, l11⟩ := wd_step (y := .str "") nL x10 l10 ex1 tb1 k2
  refine ⟨L, _, _, rfl, rfl, h11, (by show 10 < sizeLine; decide), ?_⟩
  clear x10 t10 l10 ex1 tb1 k2
  generalize upd _ L _ = G11 at x11 t11 l11 ⊢
  clear h11
  refine ⟨_, rfl, ?_⟩
  refine ⟨t11, fun H1 ex1 tb1 => ?_⟩
  refine ⟨_, rfl, fun x' dx nx ndx ne => ?_⟩
  have k2 : Same H1 (upd (upd H1 dx (.own x')) x' (.ins CFine dx [])) := same_put (same_put (Same.refl _) ndx) nx
  refine ⟨x', dx, _, rfl, upd_same, .inl ⟨d, t, ss, rows, rfl, ((dv.extN (x11.trans ex1))).same k2, fun H2 kp _ => ⟨rfl, ?_⟩⟩⟩
  have k2 : Same H1 H2 := fun b o q => kp b o (ne_of_none q nx) (k2 b o q)
  refine ⟨(by show 1 ≤ sizeLine; decide), fun L2 hL2 => ?_⟩
  generalize hH3 : upd H2 L2 _ = H3
  obtain ⟨k3, e3⟩ := alloc hH3 hL2
  clear hH3
  have k13 := k2.trans k3
  have hL3 := k13 _ _ (ex1 _ _ l11 (fun ps z => nomatch z))
  refine ⟨L, L2, _, _, rfl, rfl, hL3, e3, (by show 12 ≤ sizeLine; decide), fun M hM => ?_⟩
  generalize hH4 : upd H3 M _ = H4
  obtain ⟨k4, e4⟩ := alloc hH4 hM
  clear hH4
  have k14 := k13.trans k4
  exact k M H4 ((x11.trans ex1).trans (LamX.ExtN.of k14)) (Tabs.same tb1 k14) e4
end
end Pl
namespace Pl
open PySem PySem.Spec PyProof.Rows L2 GenZ
abbrev st_l_are_refused : Stmt := top 93
theorem sc_l_are_refused : FnScope ["_law_said", "_law_name"] ["_law_said", "_law_name"] (defScope st_l_are_refused) := ⟨rfl, rfl, rfl, by decide +kernel, rfl, by decide +kernel, by decide +kernel⟩
def okL : List (Nat × Str) := [(8, "share"), (15, "division"), (16, ""), (2, "person"), (2, "")]
def spRef : Sp := fun vs H Q _ => ∃ (l : Addr) (n : Nat) (nm : Str), vs = [.ref l, .str nm] ∧ H l = some (.lst (List.replicate n (.str nm))) ∧ (n, nm) ∈ okL ∧ ∀ H', Same H H' → Q (.bl true) H'
theorem dpRep {K : PySem.W.Frag} {H : Hp} {nm : Str} : ∀ n : Nat, DpAll K H (List.replicate n (.str nm)) (List.replicate n (.str nm))
  | 0 => .nil
  | n + 1 => .cons (.str nm) (dpRep n)
theorem okFacts {n : Nat} {nm : Str} (h : (n, nm) ∈ okL) : SeqAt.shaped (.list (List.replicate n (.str nm))) = true ∧ PyData.eqv (.list (List.replicate n (.str nm))) (.list (List.replicate n (.str nm))) = true ∧ n ≤ 100 := by
  have all : ∀ e ∈ okL, SeqAt.shaped (.list (List.replicate e.1 (.str e.2))) = true ∧ PyData.eqv (.list (List.replicate e.1 (.str e.2))) (.list (List.replicate e.1 (.str e.2))) = true ∧ e.1 ≤ 100 := by
    intro e he
    simp only [okL, List.mem_cons, List.not_mem_nil, or_false] at he
    rcases he with rfl | rfl | rfl | rfl | rfl <;> exact ⟨by decide +kernel, by decide +kernel, by decide⟩
  exact all _ h
section
variable {P : Program} {w : World} {K : PySem.W.Frag} {mg : Str → Option Value} {base : Heap}
theorem ok_ref (B : Bn mg) (D : Df K mg "_law_are_refused" st_l_are_refused ["_law_said", "_law_name"]) : Cal P w K mg base 2 "_law_are_refused" ["_law_said", "_law_name"] spRef := by
  refine D.cal sc_l_are_refused (fun vs H Q E h => ?_) (fun f cdv A out s H vs Q E hr h => ?_)
  · obtain ⟨l, n, nm, rfl, _⟩ := h
    rfl
  obtain ⟨l, n, nm, rfl, hl, ok, k⟩ := h
  obtain ⟨sh, eq, l100⟩ := okFacts ok
  refine ⟨_, (pss_one (ps_ret (pe_cmpR (op_eqD hr.units) (pv 0) (pe_op op_rep (pe_lst (pa_cons (pv 1) pa_nil)) (pe_callB call_len_seq (by rfl) B.n_len (by decide +kernel) (pa_cons (pv 0) pa_nil))) (nomark _)))), ?_⟩
  refine ⟨_, rfl, ?_⟩
  refine ⟨_, rfl, (by show 1 ≤ sizeLine; decide), fun p hp => ?_⟩
  generalize hH1 : upd H p _ = H1
  obtain ⟨k1, e1⟩ := alloc hH1 hp
  clear hH1
  have ez : ((((List.replicate n (V.str nm)).length : Nat) : Int)).toNat = n := by rw [List.length_replicate]; omega
  have el : (List.replicate ((((List.replicate n (V.str nm)).length : Nat) : Int)).toNat [V.str nm]).flatten = List.replicate n (V.str nm) := by
    rw [ez]
    clear ez sh eq l100 ok hl
    induction n with
    | zero => rfl
    | succ m ih => rw [List.replicate_succ, List.flatten_cons, ih, List.replicate_succ]; rfl
  refine ⟨_, rfl, l, _, rfl, .inl (SqL.of (k1 _ _ hl)), ?_⟩
  refine ⟨p, _, _, rfl, rfl, e1, by omega, by rw [List.length_replicate]; omega, size_of (by rw [ez]; show 1 * n ≤ 1000; omega), fun q hq => ?_⟩
  rw [el]
  generalize hH2 : upd H1 q _ = H2
  obtain ⟨k2, e2⟩ := alloc hH2 hq
  clear hH2
  have k12 := k1.trans k2
  refine ⟨.list (List.replicate n (.str nm)), .list (List.replicate n (.str nm)), .lst (SqL.of (k12 _ _ hl)) (dpRep n), .lst (SqL.of e2) (dpRep n), sh, sh, ?_⟩
  rw [eq]
  exact k H2 k12
end
end Pl
namespace Pl
open PySem PySem.Spec PyProof.Rows L2 GenZ
abbrev st_l_are_wrong : Stmt := top 94
theorem sc_l_are_wrong : FnScope ["_law_source_here", "_law_one", "_law_odd", "_law_said"] ["_law_source_here"] (defScope st_l_are_wrong) := ⟨rfl, rfl, rfl, by decide +kernel, rfl, by decide +kernel, by decide +kernel⟩
def spWrong (T : List (Addr × Str)) : Sp := fun vs H Q _ => ∃ v0 : V, vs = [v0] ∧ LamX.Tabs T H ∧ ∀ H' : Hp, LamX.ExtN H H' → LamX.Tabs T H' → Q (.bl true) H'
theorem mkDv {CD C : Addr} {H : Hp} {x dx : Addr} {ss : List Addr} {rows : List (List Int)} {R : Hp → Prop} {E : XK} (nx : H x = none) (nd : H dx = none) (nex : dx ≠ x) (al : ShAll C H ss rows) (rw_ : Rows rows) (k : ∀ (t : Addr) (H' : Hp), Same H H' → DvAt CD C H' x t ss rows → R H') :
    spStar (spDvInit CD C) (.ref x :: ss.map V.ref) (upd (upd H dx (.own x)) x (.ins CD dx [])) (fun v H2 => v = .non ∧ R H2) E := by
  have p4 := rw_.2.1
  have la := al.len
  refine ⟨_, _, rfl, size_of (by rw [List.length_map]; omega), fun q' hq' => ?_⟩
  have s2 : Same H (upd (upd (upd H dx (.own x)) x (.ins CD dx [])) q' (.tup (ss.map V.ref))) := same_new (same_new (same_new (Same.refl _) nd) (by rw [upd_ne (Ne.symm nex)]; exact nx)) hq'
  have xq : x ≠ q' := fun z => by rw [← z, upd_same] at hq'; cases hq'
  refine ⟨x, q', dx, ss, rows, rfl, by rw [upd_ne xq, upd_same], upd_same, al.same s2, rw_, fun H6 kp dv6 => ⟨rfl, k q' H6 ?_ dv6⟩⟩
  exact fun b o z => kp b o (ne_of_none z nx) (s2 b o z)
theorem rows01 : Rows [[0, 1], [0, 1]] := ⟨by decide, by decide, 2, by decide, by decide, fun ns hn => by
  simp only [List.mem_cons, List.not_mem_nil, or_false] at hn
  obtain rfl : ns = [0, 1] := by rcases hn with h | h <;> exact h
  refine ⟨rfl, fun x hx => ?_⟩
  simp only [List.mem_cons, List.not_mem_nil, or_false] at hx
  rcases hx with rfl | rfl <;> decide⟩
section
variable {P : Program} {w : World} {K : PySem.W.Frag} {mg : Str → Option Value} {base : Heap} {CShare CDivision CKept CKeptFine CNoShare CNoDivision CNoRing CNoPerson : Addr} {T : List (Addr × Str)} {c1 P1 : Addr}
theorem ok_wrong (B : Bn mg) (kt : Kt7 K CDivision) (SShare : ShK K mg CShare) (SDivision : DvK K mg CDivision) (o : PySem.W.kitOne K (.ref CShare) (.ref CDivision) = some false) (O : OcH K mg CNoShare CNoDivision CNoRing CNoPerson) (SKept : PlK K mg "Kept" CKept) (SKeptFine : PlK K mg "KeptFine" CKeptFine)
    (m_initShare : MCal P w K mg base 4 CShare "__init__" ["self", "amounts"] (spInit CShare)) (m_initDivision : MCalR P w K mg base CX0 5 CDivision "__init__" (spStar (spDvInit CDivision CShare)))
    (cW_of_pair : Cal P w K mg base 16 "_law_of_pair" ["_law_one", "_law_other"] (spOfPairW T CDivision CShare)) (cW_of_division : Cal P w K mg base 16 "_law_of_division" ["_law_made", "_law_thing"] (spOfDivW T CShare)) (c_l_are_refused : Cal P w K mg base 2 "_law_are_refused" ["_law_said", "_law_name"] spRef) (cN_exchanged : CalX P w K mg base 3 "exchanged" ["division", "ring"] (spN2 K CDivision CNoDivision))
    (k_Kept : MkW P w K mg base CKept (spInitK K CKept CDivision CShare CNoDivision CNoPerson)) (k_KeptFine : MkW P w K mg base CKeptFine (spInitK K CKeptFine CDivision CShare CNoDivision CNoPerson))
    (DS : Df K mg "_law_outcome" st_l_outcome ["_law_call"]) (TB : LamX.TabB base mg c1 P1) (hmT : (P1, qLam "_law_are_wrong") ∈ T) (huT : ∀ p ∈ T, p.1 = P1 → p.2 = qLam "_law_are_wrong") (D : DfT K mg "_law_are_wrong" st_l_are_wrong ["_law_source_here"] c1) : Cal P w K mg base 17 "_law_are_wrong" ["_law_source_here"] (spWrong T) := by
  obtain ⟨gS, fdS, Fg, hmS, hbS⟩ := DS.ex
  obtain ⟨oc, od', kV, doc, pm, an, cdS, ct, osl, rfl, lkS, hcS⟩ := Fg.ex
  refine D.cal sc_l_are_wrong (fun vs H Q E h => ?_) (fun f A out s H vs Q E hr h => ?_)
  · obtain ⟨v0, rfl, _⟩ := h
    rfl
  obtain ⟨v0, rfl, tb, k⟩ := h
  refine ⟨_, (pss_cons (ps_set (i := 1) sc_l_are_wrong.nd rfl (by first | exact .inl rfl | exact .inr rfl) (pe_mk m_initShare SShare.mks SShare.kc SShare.mgC (hr.mono (by decide)) (pa_cons (pe_tup (pa_cons pe_int (pa_cons pe_int pa_nil))) pa_nil)))
   (pss_cons (ps_for PassesOwn.never rfl (pi_list (pe_lst (pa_cons pe_non (pa_cons pe_int (pa_cons pe_bl (pa_cons (pe_tup (pa_cons pe_int (pa_cons pe_int pa_nil))) (pa_cons (pe_lst (pa_cons pe_int (pa_cons pe_int pa_nil))) (pa_cons pe_str (pa_cons pe_dnewK (pa_cons pe_str (pa_cons (pe_mkR m_initDivision pass0 SDivision.mks SDivision.kc SDivision.mgC (hr.mono (by decide)) (pa_cons (pv 1) (pa_cons (pv 1) pa_nil))) pa_nil))))))))))) (pg_name (i := 2) sc_l_are_wrong.nd rfl (by first | exact .inl rfl | exact .inr rfl))
   (pss_one (ps_if (pt_not (pt_val (pe_fn c_l_are_refused (hr.mono (by decide)) (pa_cons (pe_op op_cat (pe_fn cW_of_pair (hr.mono (by decide)) (pa_cons (pv 2) (pa_cons pe_non pa_nil))) (pe_fn cW_of_pair (hr.mono (by decide)) (pa_cons (pv 1) (pa_cons (pv 2) pa_nil)))) (pa_cons pe_str pa_nil))))) (pss_one (ps_ret pe_bl)) pss_nil)))
   (pss_cons (ps_for PassesOwn.never rfl (pi_list (pe_lst (pa_cons pe_non (pa_cons pe_int (pa_cons pe_bl (pa_cons (pe_tup (pa_cons (pv 1) (pa_cons (pv 1) pa_nil))) (pa_cons (pe_lst (pa_cons (pv 1) pa_nil)) (pa_cons pe_str (pa_cons pe_str (pa_cons pe_dnewK (pa_cons (pv 1) pa_nil))))))))))) (pg_name (i := 2) sc_l_are_wrong.nd rfl (by first | exact .inl rfl | exact .inr rfl))
   (pss_cons (ps_set (i := 3) sc_l_are_wrong.nd rfl (by first | exact .inl rfl | exact .inr rfl) (pe_op op_cat (pe_fn cW_of_division (hr.mono (by decide)) (pa_cons (pv 2) (pa_cons (pv 2) pa_nil))) (pe_lst (pa_cons (LamX.pe_lamcall (T := T) (c := c1) (P := P1) (k := 13) (Ng := ["_law_call"]) (a := "_law_call") rfl hmS Fg.kp lkS hcS hbS sc_l_outcome rfl (by first | exact .inl rfl | exact .inr rfl) (outcome_gives O) TB rfl hmT huT (hr.mono (by decide)) (LamX.lamS_by (sc := defScope st_l_are_wrong) (by decide +kernel)) rfl (fun _ _ _ _ _ => rfl) (fun A outer s H E f c' hr2 => pe_fnX cN_exchanged (passW (takes_of rfl rfl rfl rfl)) (hr2.mono (by decide)) (pa_cons (pv 2) (pa_cons pe_non pa_nil)))) pa_nil))))
   (pss_cons (ps_expr (pe_bm PySem.F.plainAttrs_list PySem.F.slot_list_append PySem.F.type_list_append mt_append (pv 3) (pa_cons (LamX.pe_lamcall (T := T) (c := c1) (P := P1) (k := 13) (Ng := ["_law_call"]) (a := "_law_call") rfl hmS Fg.kp lkS hcS hbS sc_l_outcome rfl (by first | exact .inl rfl | exact .inr rfl) (outcome_gives O) TB rfl hmT huT (hr.mono (by decide)) (LamX.lamS_by (sc := defScope st_l_are_wrong) (by decide +kernel)) rfl (fun _ _ _ _ _ => rfl) (fun A outer s H E f c' hr2 => pe_mkW3 k_Kept (passW (takes_of rfl rfl rfl rfl)) SKept.mgC (hr2.mono (by decide)) (pa_cons (pv 2) (pa_cons pe_non pa_nil)))) pa_nil)))
   (pss_cons (ps_expr (pe_bm PySem.F.plainAttrs_list PySem.F.slot_list_append PySem.F.type_list_append mt_append (pv 3) (pa_cons (LamX.pe_lamcall (T := T) (c := c1) (P := P1) (k := 13) (Ng := ["_law_call"]) (a := "_law_call") rfl hmS Fg.kp lkS hcS hbS sc_l_outcome rfl (by first | exact .inl rfl | exact .inr rfl) (outcome_gives O) TB rfl hmT huT (hr.mono (by decide)) (LamX.lamS_by (sc := defScope st_l_are_wrong) (by decide +kernel)) rfl (fun _ _ _ _ _ => rfl) (fun A outer s H E f c' hr2 => pe_mkW3 k_KeptFine (passW (takes_of rfl rfl rfl rfl)) SKeptFine.mgC (hr2.mono (by decide)) (pa_cons (pv 2) (pa_cons pe_int pa_nil)))) pa_nil)))
   (pss_one (ps_if (pt_not (pt_val (pe_fn c_l_are_refused (hr.mono (by decide)) (pa_cons (pv 3) (pa_cons pe_str pa_nil))))) (pss_one (ps_ret pe_bl)) pss_nil))))))
   (pss_one (ps_ret pe_bl))))), ?_⟩
  refine ⟨(by show 2 ≤ sizeLine; decide), fun p1 hp1 => ?_⟩
  generalize hH1 : upd H p1 _ = H1
  obtain ⟨k1, e1⟩ := alloc hH1 hp1
  clear hH1
  intro s1 d1 n1 m1 x1
  refine mk_at (ns := [0, 1]) n1 m1 e1 (by decide) (by decide) (fun x hx => by
    simp only [List.mem_cons, List.not_mem_nil, or_false] at hx
    rcases hx with rfl | rfl <;> decide) fun H2 k2 sh2 => ?_
  have k02 := k1.trans k2
  clear n1 m1 x1 e1 k1 k2 hp1
  refine ⟨(by show 2 ≤ sizeLine; decide), fun a1 ha1 => ?_⟩
  generalize hH1 : upd H2 a1 _ = H11
  obtain ⟨k1, e1⟩ := alloc hH1 ha1
  clear hH1
  refine ⟨(by show 2 ≤ sizeLine; decide), fun a2 ha2 => ?_⟩
  generalize hH2 : upd H11 a2 _ = H12
  obtain ⟨k2, e2⟩ := alloc hH2 ha2
  clear hH2
  refine fun a3 ha3 => ?_
  generalize hH3 : upd H12 a3 _ = H13
  obtain ⟨k3, e3⟩ := alloc hH3 ha3
  clear hH3
  have k123 := k1.trans (k2.trans k3)
  have sh13 := sh2.same k123
  refine ⟨_, rfl, _, rfl, fun x dx nx nd nex => ?_⟩
  refine mkDv (ss := [s1, s1]) (rows := [[0, 1], [0, 1]]) nx nd nex (.cons sh13 (.cons sh13 .nil)) rows01 fun t H14 k14 dv => ?_
  refine ⟨(by show 9 ≤ sizeLine; decide), fun a5 ha5 => ?_⟩
  generalize hH5 : upd H14 a5 _ = H15
  obtain ⟨k5, e5⟩ := alloc hH5 ha5
  clear hH5
  have q5 := k5
  have q4 := k14.trans q5
  have q3 := k3.trans q4
  have q2 := k2.trans q3
  have q1 := k1.trans q2
  have k015 := k02.trans q1
  have sh15 := sh2.same q1
  obtain ⟨⟨dxx, hdd⟩, _⟩ := id dv
  have all : ∀ v ∈ [V.non, .int 0, .bl true, .ref a1, .ref a2, .str "0 1", .ref a3, .str "", .ref x], NoV CDivision H15 v := fun v hv => by
    simp only [List.mem_cons, List.not_mem_nil, or_false] at hv
    rcases hv with rfl | rfl | rfl | rfl | rfl | rfl | rfl | rfl | rfl
    · exact .flat .non
    · exact .flat (.int _)
    · exact .flat (.bl _)
    · exact .flat (.tup (q2 _ _ e1))
    · exact .flat (.lst (q3 _ _ e2))
    · exact .flat (.str _)
    · exact .flat (.dK (q4 _ _ e3))
    · exact .flat (.str _)
    · exact .share (k5 _ _ hdd)
  clear k1 k2 k3 k5 k14 q1 q2 q3 q4 q5 k123 sh13 sh2
  refine ⟨a5, rfl, ⟨_, SqL.of e5⟩, for_list (K := K) (a := a5) (xs := [V.non, .int 0, .bl true, .ref a1, .ref a2, .str "0 1", .ref a3, .str "", .ref x]) (fun e σ H' => ∃ v2 : Option V, σ = [some v0, some (.ref s1), v2, none] ∧ LamX.ExtN H15 H' ∧ LamX.Tabs T H') ⟨none, rfl, LamX.ExtN.refl _, Tabs.same tb k015⟩ (fun e σ H' _ ⟨_, _, z, _⟩ => SqL.of (z _ _ e5 (fun ps z => nomatch z))) ?_ ?_⟩
  · rintro e v σ H16 hv ⟨v2, rfl, x16, tb16⟩
    have nv := (all v (List.mem_of_getElem? hv)).ext x16
    have sh16 := sh15.extN x16
    refine ⟨_, rfl, v, .non, rfl, .inl nv, tb16, fun L1 G1 y1 t1 g1 => ?_⟩
    refine ⟨_, rfl, _, rfl, .ref s1, v, rfl, .inr (.inl ⟨s1, _, _, rfl, sh16.extN y1, nv.ext y1⟩), t1, fun L2 G2 y2 t2 g2 => ?_⟩
    refine ⟨L1, L2, _, _, rfl, rfl, y2 _ _ g1 (fun ps z => nomatch z), g2, (by show 8 ≤ sizeLine; decide), fun M hM => ?_⟩
    generalize hG3 : upd G2 M _ = G3
    obtain ⟨k3, g3⟩ := alloc hG3 hM
    clear hG3
    refine ⟨M, 8, "share", rfl, g3, by simp [okL], fun G4 k4 => ⟨true, rfl, iteF ?_⟩⟩
    have k34 := k3.trans k4
    exact ⟨_, rfl, ((x16.trans y1).trans y2).trans (LamX.ExtN.of k34), Tabs.same t2 k34⟩
  rintro σ H17 ⟨v2, rfl, x17, tb17⟩
  have sh17 := sh15.extN x17
  have x017 : LamX.ExtN H H17 := (LamX.ExtN.of k015).trans x17
  clear all sh15 e5 x17 k015 k02 dv hdd tb
  refine ⟨_, rfl, _, rfl, (by show 2 ≤ sizeLine; decide), fun a1 ha1 => ?_⟩
  generalize hH1 : upd H17 a1 _ = H21
  obtain ⟨k1, e1⟩ := alloc hH1 ha1
  clear hH1
  refine ⟨_, rfl, (by show 1 ≤ sizeLine; decide), fun a2 ha2 => ?_⟩
  generalize hH2 : upd H21 a2 _ = H22
  obtain ⟨k2, e2⟩ := alloc hH2 ha2
  clear hH2
  refine fun a3 ha3 => ?_
  generalize hH3 : upd H22 a3 _ = H23
  obtain ⟨k3, e3⟩ := alloc hH3 ha3
  clear hH3
  refine ⟨_, rfl, (by show 9 ≤ sizeLine; decide), fun a4 ha4 => ?_⟩
  generalize hH4 : upd H23 a4 _ = H24
  obtain ⟨k4, e4⟩ := alloc hH4 ha4
  clear hH4
  have q3 := k4
  have q2 := k3.trans q3
  have q1 := k2.trans q2
  have q0 := k1.trans q1
  have sh24 := sh17.same q0
  obtain ⟨⟨dso, hso⟩, _⟩ := id sh24
  have all : ∀ v ∈ [V.non, .int 0, .bl true, .ref a1, .ref a2, .str "0 1", .str "0 1\n0 1\n", .ref a3, .ref s1], NoV CShare H24 v := fun v hv => by
    simp only [List.mem_cons, List.not_mem_nil, or_false] at hv
    rcases hv with rfl | rfl | rfl | rfl | rfl | rfl | rfl | rfl | rfl
    · exact .flat .non
    · exact .flat (.int _)
    · exact .flat (.bl _)
    · exact .flat (.tup (q1 _ _ e1))
    · exact .flat (.lst (q2 _ _ e2))
    · exact .flat (.str _)
    · exact .flat (.str _)
    · exact .flat (.dK (q3 _ _ e3))
    · exact .share hso
  have tb24 := Tabs.same tb17 q0
  have x024 := x017.trans (LamX.ExtN.of q0)
  clear k1 k2 k3 k4 q0 q1 q2 q3 sh17 sh24 hso tb17 x017
  refine ⟨a4, rfl, ⟨_, SqL.of e4⟩, for_list (K := K) (a := a4) (xs := [V.non, .int 0, .bl true, .ref a1, .ref a2, .str "0 1", .str "0 1\n0 1\n", .ref a3, .ref s1]) (fun e σ H' => ∃ v2 v3 : Option V, σ = [some v0, some (.ref s1), v2, v3] ∧ LamX.ExtN H24 H' ∧ LamX.Tabs T H') ⟨v2, none, rfl, LamX.ExtN.refl _, tb24⟩ (fun e σ H' _ ⟨_, _, _, z, _⟩ => SqL.of (z _ _ e4 (fun ps z => nomatch z))) ?_ ?_⟩
  · clear v2
    rintro e v σ H26 hv ⟨v2, v3, rfl, x26, tb26⟩
    have nv := (all v (List.mem_of_getElem? hv)).ext x26
    refine ⟨_, rfl, _, rfl, v, v, rfl, nv, tb26, fun L1 G1 y1 t1 g1 => ?_⟩
    refine ⟨t1, fun F1 ex1 tb1 => ?_⟩
    refine ⟨_, rfl, v, .non, rfl, (nv.ext (y1.trans ex1)).nodt kt SShare o, fun σ' => O.dv ?_⟩
    refine ⟨(by show 1 ≤ sizeLine; decide), fun L2 hL2 => ?_⟩
    generalize hG2 : upd F1 L2 _ = G2
    obtain ⟨k2, g2⟩ := alloc hG2 hL2
    clear hG2
    refine ⟨L1, L2, _, _, rfl, rfl, k2 _ _ (ex1 _ _ g1 (fun ps z => nomatch z)), g2, (by show 13 ≤ sizeLine; decide), fun M hM => ?_⟩
    generalize hG3 : upd G2 M _ = G3
    obtain ⟨k3, g3⟩ := alloc hG3 hM
    clear hG3
    have y3 : LamX.ExtN H26 G3 := (y1.trans ex1).trans (LamX.ExtN.of (k2.trans k3))
    have t3 := Tabs.same tb1 (k2.trans k3)
    have nL : ∀ o, H26 M = some o → (∀ ps, o ≠ .tbl ps) → False := fun o' e n => by
      rw [k2 _ _ ((y1.trans ex1) _ _ e n)] at hM
      cases hM
    have g3 : G3 M = some (.lst (List.replicate 13 (.str "division"))) := g3
    clear ex1 tb1 k2 k3 g1 g2 t1 y1 hM hL2
    refine ⟨_, rfl, .inl ⟨rfl, _, SqL.of g3⟩, t3, fun F1 ex1 tb1 => ?_⟩
    refine ⟨_, rfl, fun x' dx nx ndx ne => ?_⟩
    have k2 : Same F1 (upd (upd F1 dx (.own x')) x' (.ins CKept dx [])) := same_put (same_put (Same.refl _) ndx) nx
    refine ⟨x', dx, v, .non, rfl, upd_same, .inr (.inl ⟨((nv.ext (y3.trans ex1)).same k2).nodt kt SShare o, fun σ' => O.dv ?_⟩)⟩
    generalize upd (upd F1 dx _) x' _ = F2 at k2 ⊢
    obtain ⟨h4, x4, t4, l4⟩ := wd_step (y := .str "division") nL y3 g3 ex1 tb1 k2
    refine ⟨M, _, _, rfl, rfl, h4, (by show 13 < sizeLine; decide), ?_⟩
    clear y3 t3 g3 ex1 tb1 k2 ndx nx ne
    generalize upd _ M _ = G4 at x4 t4 l4 ⊢
    clear h4
    refine ⟨_, rfl, .inl ⟨rfl, _, SqL.of l4⟩, t4, fun F1 ex1 tb1 => ?_⟩
    refine ⟨_, rfl, fun x' dx nx ndx ne => ?_⟩
    have k2 : Same F1 (upd (upd F1 dx (.own x')) x' (.ins CKeptFine dx [])) := same_put (same_put (Same.refl _) ndx) nx
    refine ⟨x', dx, v, _, rfl, upd_same, .inr (.inl ⟨((nv.ext (x4.trans ex1)).same k2).nodt kt SShare o, fun σ' => O.dv ?_⟩)⟩
    generalize upd (upd F1 dx _) x' _ = F2 at k2 ⊢
    obtain ⟨h5, x5, t5, l5⟩ := wd_step (y := .str "division") nL x4 l4 ex1 tb1 k2
    refine ⟨M, _, _, rfl, rfl, h5, (by show 14 < sizeLine; decide), ?_⟩
    clear x4 t4 l4 ex1 tb1 k2 ndx nx ne
    generalize upd _ M _ = G5 at x5 t5 l5 ⊢
    clear h5
    refine ⟨_, rfl, M, 15, "division", rfl, l5, by simp [okL], fun G6 k6 => ⟨true, rfl, iteF ?_⟩⟩
    exact ⟨_, _, rfl, (x26.trans x5).trans (LamX.ExtN.of k6), Tabs.same t5 k6⟩
  · rintro σ H27 ⟨v2, v3, rfl, x27, tb27⟩
    exact k H27 (x024.trans x27) tb27
end
end Pl
namespace Pl
open PySem PySem.Spec PyProof.Rows L2 GenZ
abbrev st_l_are_right : Stmt := top 95
theorem sc_l_are_right : FnScope ["_law_source_here", "_law_rows_here", "_law_small", "_law_made", "_law_one", "_law_two", "_law_longer", "_law_said", "_law_none", "_law_odd", "_law_number", "_law_row", "_law_amount"] ["_law_source_here"] (defScope st_l_are_right) := ⟨rfl, rfl, rfl, by decide +kernel, rfl, by decide +kernel, by decide +kernel⟩
theorem asgJoin {te : TE} {g : TG} {D : Ends} {σ : L2.St} {H : Hp} (R : V → Hp → Prop) (h1 : ∀ v H', R v H' → g v σ H' D.nx) (h2 : ∀ N : VK, (∀ v H', R v H' → N v H') → te σ H N) : tAsg te g D σ H := h2 _ h1
theorem tNextE {D : Ends} {σ : L2.St} {H : Hp} : tNext D σ H = D.nx σ H := rfl
theorem tSeqE {t u : TS} {D : Ends} {σ : L2.St} {H : Hp} : tSeq t u D σ H = t { D with nx := fun σ' H' => u D σ' H' } σ H := rfl
def KpT (a : Addr) (H H' : Hp) : Prop := ∀ b o, H b = some o → b ≠ a → (∀ ps, o ≠ .tbl ps) → H' b = some o
theorem Tabs.kp {T : List (Addr × Str)} {p : Addr} {xs : List V} {H H' : Hp} (t : LamX.Tabs T H) (k : Kp p H H') (e : H p = some (.lst xs)) : LamX.Tabs T H' := fun q hq => by
  obtain ⟨ps, h1, h2, h3⟩ := t q hq
  refine ⟨ps, k _ _ (fun z => by rw [z, e] at h1; cases h1) h1, h2, fun pos cv hc => ?_⟩
  obtain ⟨c, e1, e2⟩ := h3 pos cv hc
  refine ⟨c, e1, k _ _ (fun z => ?_) e2⟩
  rw [z, e] at e2
  exact codeO_nl (Option.some.inj e2).symm
theorem DvAt.ppl {CD C : Addr} {H : Hp} {d t : Addr} {ss : List Addr} {rows : List (List Int)} (dv : DvAt CD C H d t ss rows) : 2 ≤ rows.length ∧ rows.length ≤ 4 := ⟨dv.2.2.2.1, dv.2.2.2.2.1⟩
def spRight (T : List (Addr × Str)) : Sp := fun vs H Q _ => ∃ a : Addr, vs = [.ref a] ∧ Src H a ∧ LamX.Tabs T H ∧ ∀ H' : Hp, KpT a H H' → LamX.Tabs T H' → Q (.bl true) H'
section
variable {P : Program} {w : World} {K : PySem.W.Frag} {mg : Str → Option Value} {base : Heap} {CShare CDivision CKept CKeptFine CNoShare CNoDivision CNoRing CNoPerson : Addr} {T : List (Addr × Str)} {c1 P1 : Addr}
theorem ok_right (B : Bn mg) (SShare : ShK K mg CShare) (SDivision : DvK K mg CDivision) (O : OcH K mg CNoShare CNoDivision CNoRing CNoPerson) (SKept : PlK K mg "Kept" CKept) (SKeptFine : PlK K mg "KeptFine" CKeptFine)
    (m_initShare : MCal P w K mg base 4 CShare "__init__" ["self", "amounts"] (spInit CShare)) (cm_read : CmCal P w K mg base CX0 7 CDivision "read" (spRead CDivision CShare)) (p_people : PCal P w K mg base 2 CDivision "people" ["self"] (spPeople CDivision CShare))
    (c_l_rows : Cal P w K mg base 5 "_law_rows" ["_law_source_here", "_law_most"] spRows) (c_l_text : Cal P w K mg base 2 "_law_text" ["_law_rows_here"] (spLText K))
    (cW_of_pair : Cal P w K mg base 16 "_law_of_pair" ["_law_one", "_law_other"] (spOfPairW T CDivision CShare)) (cR_of_pair : Cal P w K mg base 16 "_law_of_pair" ["_law_one", "_law_other"] (spOfPairR T CShare)) (cR_of_division : Cal P w K mg base 16 "_law_of_division" ["_law_made", "_law_thing"] (spOfDivR T CDivision CShare)) (c_l_are_refused : Cal P w K mg base 2 "_law_are_refused" ["_law_said", "_law_name"] spRef) (cT_exchanged : CalX P w K mg base 8 "exchanged" ["division", "ring"] (spExchT CDivision CShare CNoRing))
    (k_Kept : MkW P w K mg base CKept (spInitK K CKept CDivision CShare CNoDivision CNoPerson)) (k_KeptFine : MkW P w K mg base CKeptFine (spInitK K CKeptFine CDivision CShare CNoDivision CNoPerson))
    (DS : Df K mg "_law_outcome" st_l_outcome ["_law_call"]) (TB : LamX.TabB base mg c1 P1) (hmT : (P1, qLam "_law_are_right") ∈ T) (huT : ∀ p ∈ T, p.1 = P1 → p.2 = qLam "_law_are_right") (D : DfT K mg "_law_are_right" st_l_are_right ["_law_source_here"] c1) : Cal P w K mg base 17 "_law_are_right" ["_law_source_here"] (spRight T) := by
  obtain ⟨gS, fdS, Fg, hmS, hbS⟩ := DS.ex
  obtain ⟨oc, od', kV, doc, pm, an, cdS, ct, osl, rfl, lkS, hcS⟩ := Fg.ex
  refine D.cal sc_l_are_right (fun vs H Q E h => ?_) (fun f A out s H vs Q E hr h => ?_)
  · obtain ⟨a, rfl, _⟩ := h
    rfl
  obtain ⟨a, rfl, src, tb, k⟩ := h
  refine ⟨_, (pss_cons (ps_set (i := 1) sc_l_are_right.nd rfl (by first | exact .inl rfl | exact .inr rfl) (pe_fn c_l_rows (hr.mono (by decide)) (pa_cons (pv 0) (pa_cons pe_int pa_nil))))
   (pss_cons (ps_setLc (i := 2) (own := [("_law_row", 11)]) (g := gName 11) rfl sc_l_are_right.nd rfl rfl (sw_true rfl rfl rfl (by decide +kernel)) (pi_list (pv 1)) (blkOk_by (N := ["_law_source_here", "_law_rows_here", "_law_small", "_law_made", "_law_one", "_law_two", "_law_longer", "_law_said", "_law_none", "_law_odd", "_law_number", "_law_row", "_law_amount"]) (sc := defScope st_l_are_right) (by decide +kernel)) (fun _ _ _ _ _ => (pg_name (i := 11) sc_l_are_right.nd rfl (by first | exact .inl rfl | exact .inr rfl))) (fun _ _ _ _ _ => pts_nil) (fun _ _ _ _ _ => (pe_callTy (show CallR _ (.type "tuple") (rTupleOf K) from call_tuple_of) (by rfl) B.n_tuple (by decide +kernel) (pa_cons (pe_lc (own := [("_law_amount", 12)]) (g := gName 12) rfl sc_l_are_right.nd (pi_tupK (K := K) (pv 11)) (blkOk_in (N := ["_law_source_here", "_law_rows_here", "_law_small", "_law_made", "_law_one", "_law_two", "_law_longer", "_law_said", "_law_none", "_law_odd", "_law_number", "_law_row", "_law_amount"]) (defScope st_l_are_right) rfl (by decide +kernel)) (fun _ _ _ _ _ => (pg_name (i := 12) sc_l_are_right.nd rfl (by first | exact .inl rfl | exact .inr rfl))) (fun _ _ _ _ _ => pts_nil) (fun _ _ _ _ _ => (pe_op op_mod (pv 12) pe_int))) pa_nil))))
   (pss_cons (ps_set (i := 3) sc_l_are_right.nd rfl (by first | exact .inl rfl | exact .inr rfl) (pe_cm cm_read pass0 (hr.mono (by decide)) (pe_glob (v := .ref CDivision) rfl SDivision.mgC rfl) (pa_cons (pe_fn c_l_text (hr.mono (by decide)) (pa_cons (pv 2) pa_nil)) pa_nil)))
   (pss_cons (ps_par (i := 4) (j := 5) (by rfl) sc_l_are_right.nd rfl rfl (by decide) rfl rfl (pa_cons (pe_mk m_initShare SShare.mks SShare.kc SShare.mgC (hr.mono (by decide)) (pa_cons (pe_ix ix_list (pv 1) pe_int (fun _ _ => rfl)) pa_nil)) (pa_cons (pe_mk m_initShare SShare.mks SShare.kc SShare.mgC (hr.mono (by decide)) (pa_cons (pe_ix ix_list (pv 1) pe_int (fun _ _ => rfl)) pa_nil)) pa_nil)) (by rfl))
   (pss_cons (ps_if (pt_not (pt_val (pe_fn c_l_are_refused (hr.mono (by decide)) (pa_cons (pe_op op_cat (pe_fn cR_of_pair (hr.mono (by decide)) (pa_cons (pv 4) (pa_cons (pv 5) pa_nil))) (pe_fn cR_of_division (hr.mono (by decide)) (pa_cons (pv 3) (pa_cons pe_non pa_nil)))) (pa_cons pe_str pa_nil))))) (pss_one (ps_ret pe_bl)) pss_nil)
   (pss_cons (ps_set (i := 6) sc_l_are_right.nd rfl (by first | exact .inl rfl | exact .inr rfl) (pe_ifExp (pt_cmpR op_lt (pe_callB call_len_seq (by rfl) B.n_len (by decide +kernel) (pa_cons (pe_ix ix_list (pv 1) pe_int (fun _ _ => rfl)) pa_nil)) pe_int (nomark _)) (pe_mk m_initShare SShare.mks SShare.kc SShare.mgC (hr.mono (by decide)) (pa_cons (pe_op op_catA (pe_ix ix_list (pv 1) pe_int (fun _ _ => rfl)) (pe_tup (pa_cons pe_int pa_nil))) pa_nil)) (pe_mk m_initShare SShare.mks SShare.kc SShare.mgC (hr.mono (by decide)) (pa_cons (pe_tup (pa_cons pe_int (pa_cons pe_int pa_nil))) pa_nil))))
   (pss_cons (ps_set (i := 7) sc_l_are_right.nd rfl (by first | exact .inl rfl | exact .inr rfl) (pe_op op_cat (pe_fn cW_of_pair (hr.mono (by decide)) (pa_cons (pv 4) (pa_cons (pv 6) pa_nil))) (pe_fn cW_of_pair (hr.mono (by decide)) (pa_cons (pv 6) (pa_cons (pv 4) pa_nil)))))
   (pss_cons (ps_if (pt_not (pt_val (pe_fn c_l_are_refused (hr.mono (by decide)) (pa_cons (pv 7) (pa_cons pe_str pa_nil))))) (pss_one (ps_ret pe_bl)) pss_nil)
   (pss_cons (ps_set (i := 8) sc_l_are_right.nd rfl (by first | exact .inl rfl | exact .inr rfl) (pe_lst (pa_cons pe_non (pa_cons (pe_tup pa_nil) (pa_cons (pe_tup (pa_cons (pe_tup (pa_cons pe_int (pa_cons pe_int pa_nil))) pa_nil)) (pa_cons pe_int (pa_cons pe_bl (pa_cons pe_str (pa_cons (pe_lst pa_nil) (pa_cons (pe_tup (pa_cons (pe_tup pa_nil) (pa_cons (pe_tup pa_nil) pa_nil))) pa_nil))))))))))
   (pss_cons (ps_for PassesOwn.never rfl (pi_list (pe_op op_cat (pv 8) (pe_lst (pa_cons (pe_tup (pa_cons (pe_tup (pa_cons pe_int pa_nil)) (pa_cons (pe_tup (pa_cons pe_int pa_nil)) pa_nil))) (pa_cons (pe_tup (pa_cons (pe_tup (pa_cons pe_int (pa_cons pe_int pa_nil))) (pa_cons (pe_tup (pa_cons pe_int (pa_cons pe_int pa_nil))) pa_nil))) (pa_cons (pe_tup (pa_cons (pe_tup (pa_cons pe_int (pa_cons pe_int pa_nil))) (pa_cons (pe_tup (pa_cons pe_int (pa_cons pe_int pa_nil))) pa_nil))) pa_nil)))))) (pg_name (i := 9) sc_l_are_right.nd rfl (by first | exact .inl rfl | exact .inr rfl))
   (pss_one (ps_if (pt_cmpR op_ne (LamX.pe_lamcall (T := T) (c := c1) (P := P1) (k := 13) (Ng := ["_law_call"]) (a := "_law_call") rfl hmS Fg.kp lkS hcS hbS sc_l_outcome rfl (by first | exact .inl rfl | exact .inr rfl) (outcome_gives O) TB rfl hmT huT (hr.mono (by decide)) (LamX.lamS_by (sc := defScope st_l_are_right) (by decide +kernel)) rfl (fun _ _ _ _ _ => rfl) (fun A outer s H E f c' hr2 => pe_fnX cT_exchanged (passW (takes_of rfl rfl rfl rfl)) (hr2.mono (by decide)) (pa_cons (pv 3) (pa_cons (pv 9) pa_nil)))) pe_str (nomark _)) (pss_one (ps_ret pe_bl)) pss_nil)))
   (pss_cons (ps_for PassesOwn.never rfl (pi_list (pe_lst (pa_cons (pe_un un_neg pe_int) (pa_cons (pe_pr p_people SDivision.cl (hr.mono (by decide)) (pv 3)) (pa_cons pe_non (pa_cons pe_bl (pa_cons pe_bl (pa_cons pe_str (pa_cons (pe_tup (pa_cons pe_int pa_nil)) (pa_cons (pe_lst (pa_cons pe_int pa_nil)) (pa_cons (pe_op op_pow pe_int pe_int) (pa_cons pe_dnewK pa_nil)))))))))))) (pg_name (i := 9) sc_l_are_right.nd rfl (by first | exact .inl rfl | exact .inr rfl))
   (pss_cons (ps_set (i := 7) sc_l_are_right.nd rfl (by first | exact .inl rfl | exact .inr rfl) (pe_lst (pa_cons (LamX.pe_lamcall (T := T) (c := c1) (P := P1) (k := 13) (Ng := ["_law_call"]) (a := "_law_call") rfl hmS Fg.kp lkS hcS hbS sc_l_outcome rfl (by first | exact .inl rfl | exact .inr rfl) (outcome_gives O) TB rfl hmT huT (hr.mono (by decide)) (LamX.lamS_by (sc := defScope st_l_are_right) (by decide +kernel)) rfl (fun _ _ _ _ _ => rfl) (fun A outer s H E f c' hr2 => pe_mkW3 k_Kept (passW (takes_of rfl rfl rfl rfl)) SKept.mgC (hr2.mono (by decide)) (pa_cons (pv 3) (pa_cons (pv 9) pa_nil)))) pa_nil)))
   (pss_cons (ps_expr (pe_bm PySem.F.plainAttrs_list PySem.F.slot_list_append PySem.F.type_list_append mt_append (pv 7) (pa_cons (LamX.pe_lamcall (T := T) (c := c1) (P := P1) (k := 13) (Ng := ["_law_call"]) (a := "_law_call") rfl hmS Fg.kp lkS hcS hbS sc_l_outcome rfl (by first | exact .inl rfl | exact .inr rfl) (outcome_gives O) TB rfl hmT huT (hr.mono (by decide)) (LamX.lamS_by (sc := defScope st_l_are_right) (by decide +kernel)) rfl (fun _ _ _ _ _ => rfl) (fun A outer s H E f c' hr2 => pe_mkW3 k_KeptFine (passW (takes_of rfl rfl rfl rfl)) SKeptFine.mgC (hr2.mono (by decide)) (pa_cons (pv 3) (pa_cons (pv 9) pa_nil)))) pa_nil)))
   (pss_one (ps_if (pt_not (pt_val (pe_fn c_l_are_refused (hr.mono (by decide)) (pa_cons (pv 7) (pa_cons pe_str pa_nil))))) (pss_one (ps_ret pe_bl)) pss_nil)))))
   (pss_cons (ps_for PassesOwn.never rfl (pi_range1 (by rfl) B.n_range (pa_cons (pe_pr p_people SDivision.cl (hr.mono (by decide)) (pv 3)) pa_nil)) (pg_name (i := 10) sc_l_are_right.nd rfl (by first | exact .inl rfl | exact .inr rfl))
   (pss_cons (ps_set (i := 7) sc_l_are_right.nd rfl (by first | exact .inl rfl | exact .inr rfl) (pe_lst (pa_cons (LamX.pe_lamcall (T := T) (c := c1) (P := P1) (k := 13) (Ng := ["_law_call"]) (a := "_law_call") rfl hmS Fg.kp lkS hcS hbS sc_l_outcome rfl (by first | exact .inl rfl | exact .inr rfl) (outcome_gives O) TB rfl hmT huT (hr.mono (by decide)) (LamX.lamS_by (sc := defScope st_l_are_right) (by decide +kernel)) rfl (fun _ _ _ _ _ => rfl) (fun A outer s H E f c' hr2 => pe_mkW3 k_Kept (passW (takes_of rfl rfl rfl rfl)) SKept.mgC (hr2.mono (by decide)) (pa_cons (pv 3) (pa_cons (pv 10) pa_nil)))) pa_nil)))
   (pss_cons (ps_expr (pe_bm PySem.F.plainAttrs_list PySem.F.slot_list_append PySem.F.type_list_append mt_append (pv 7) (pa_cons (LamX.pe_lamcall (T := T) (c := c1) (P := P1) (k := 13) (Ng := ["_law_call"]) (a := "_law_call") rfl hmS Fg.kp lkS hcS hbS sc_l_outcome rfl (by first | exact .inl rfl | exact .inr rfl) (outcome_gives O) TB rfl hmT huT (hr.mono (by decide)) (LamX.lamS_by (sc := defScope st_l_are_right) (by decide +kernel)) rfl (fun _ _ _ _ _ => rfl) (fun A outer s H E f c' hr2 => pe_mkW3 k_KeptFine (passW (takes_of rfl rfl rfl rfl)) SKeptFine.mgC (hr2.mono (by decide)) (pa_cons (pv 3) (pa_cons (pv 10) pa_nil)))) pa_nil)))
   (pss_one (ps_if (pt_not (pt_val (pe_fn c_l_are_refused (hr.mono (by decide)) (pa_cons (pv 7) (pa_cons pe_str pa_nil))))) (pss_one (ps_ret pe_bl)) pss_nil)))))
   (pss_one (ps_ret pe_bl)))))))))))))), ?_⟩
  refine ⟨_, rfl, a, 6, rfl, src, by decide, by decide, fun p ts rows H1 rw_ tp hp np s1 k1 => ?_⟩
  have tb1 : LamX.Tabs T H1 := by
    obtain ⟨x, y, z, e, _⟩ := id src
    exact Tabs.kp tb k1 e
  have k01 : KpT a H H1 := fun b o e n _ => k1 b o n e
  clear tb s1 np
  have ln := tp.1
  have pp4 := rw_.2.1
  have pp2 := rw_.1
  refine ⟨_, rfl, p, rfl, ⟨_, SqL.of hp⟩, fun D' hD => lc_list (K := K) (a := p) (xs := ts.map V.ref) (fun i H' => Same H1 H' ∧ ∃ us : List Addr, H' D' = some (.lst (us.map V.ref)) ∧ TpAll H' us ((rows.map fun ns => ns.map (· % 5)).take i)) ⟨same_new (Same.refl _) hD, [], upd_same, by simp, fun j u ns z => by simp at z⟩ (fun i H' _ z => SqL.of (z.1 _ _ hp)) (fun i x H' hx z => ⟨rfl, tyes ?_⟩) (fun H2 z => ?_)⟩
  · obtain ⟨k2, us, h2, tp2⟩ := z
    obtain ⟨t1, rfl, et⟩ := refAt hx
    have li : i < rows.length := by rw [← ln]; exact (List.getElem?_eq_some_iff.mp et).1
    have en : rows[i]? = some rows[i] := List.getElem?_eq_getElem li
    generalize rows[i] = ns at en
    have l6 := rw_.l6 (List.mem_of_getElem? en)
    have ht1 := k2 _ _ (tp.2 i t1 ns et en)
    refine ⟨_, rfl, t1, rfl, ⟨_, SqT.of ht1⟩, fun D2 hD2 => lc_tup (K := K) (a := t1) (xs := ns.map V.int) (fun j H2 => Same H' H2 ∧ H2 D2 = some (.lst (((ns.map (· % 5)).take j).map V.int))) ⟨same_new (Same.refl _) hD2, upd_same⟩ (fun j H2 _ z => SqT.of (z.1 _ _ ht1)) (fun j y H2 hy z2 => ⟨rfl, tyes ?_⟩) (fun H2 z2 => ?_)⟩
    · obtain ⟨k2, h2⟩ := z2
      rw [List.getElem?_map] at hy
      cases ey : ns[j]? with
      | none => rw [ey] at hy; cases hy
      | some y0 =>
        rw [ey] at hy
        obtain rfl : V.int y0 = y := Option.some.inj hy
        refine ⟨_, rfl, _, _, rfl, rfl, (by show (0 : Int) < 5; decide), _, h2, size_lt' (by rw [List.length_map, List.length_take, List.length_map]; omega), same_put k2 hD2, ?_⟩
        rw [upd_same, List.take_add_one, List.getElem?_map, ey, List.map_append]
        rfl
    · obtain ⟨k3, h3⟩ := z2
      rw [List.length_map, ← List.length_map (f := (· % 5)), List.take_length] at h3
      refine ⟨D2, _, rfl, .inl ⟨SqL.of h3, fun u hu => ?_⟩⟩
      generalize hH4 : upd H2 u _ = H4
      obtain ⟨k4, e4⟩ := alloc hH4 hu
      clear hH4
      have k34 := k3.trans k4
      have hD4 := k34 _ _ h2
      have lu := tp2.1
      rw [List.length_take, List.length_map] at lu
      have e2 : (rows.map fun ns => ns.map (· % 5))[i]? = some (ns.map (· % 5)) := by rw [List.getElem?_map, en]; rfl
      refine ⟨_, hD4, size_lt' (by rw [List.length_map]; omega), same_put (k2.trans k34) hD, us ++ [u], by rw [upd_same, List.map_append]; rfl, ?_⟩
      rw [List.take_add_one, e2]
      exact TpAll.snoc (TpAll.put (tp2.same k34) hD4) (by rw [upd_ne (ne_of e4 hD4 (by intro z; cases z))]; exact e4)
  obtain ⟨k2, us, hD2, tpM⟩ := z
  rw [List.length_map, ln, ← List.length_map (f := fun ns => ns.map (· % 5)), List.take_length] at tpM
  have rwM : Rows (rows.map fun ns => ns.map (· % 5)) := by
    obtain ⟨w2, w6⟩ := rw_.w26
    refine ⟨by rw [List.length_map]; exact rw_.1, by rw [List.length_map]; exact rw_.2.1, wdt rows, w2, w6, fun ns hn => ?_⟩
    obtain ⟨ms, hm, rfl⟩ := List.mem_map.mp hn
    refine ⟨by rw [List.length_map]; exact rw_.wdt hm, fun x hx => ?_⟩
    obtain ⟨y, _, rfl⟩ := List.mem_map.mp hx
    have a1 := Int.emod_nonneg y (show (5 : Int) ≠ 0 by decide)
    have a2 := Int.emod_lt_of_pos y (show (0 : Int) < 5 by decide)
    omega
  generalize (rows.map fun ns => ns.map (· % 5)) = R at tpM rwM
  refine ⟨rfl, _, rfl, D', us, R, rfl, hD2, tpM, rwM, fun H3 k3 => ⟨_, rfl, rwM, fun d t ss H4 k4 dv => ?_⟩⟩
  have k24 := k2.trans (k3.trans k4)
  clear hD2 tpM rwM k2 k3 k4 hD
  have hp4 := k24 _ _ hp
  -- the first two shares
  have l0 : 0 < rows.length := by omega
  have l1 : 1 < rows.length := by omega
  have n0 : rows[0]? = some rows[0] := List.getElem?_eq_getElem l0
  have n1 : rows[1]? = some rows[1] := List.getElem?_eq_getElem l1
  have u0 : ts[0]? = some ts[0] := List.getElem?_eq_getElem (by omega)
  have u1 : ts[1]? = some ts[1] := List.getElem?_eq_getElem (by omega)
  have m0 := List.mem_of_getElem? n0
  have m1 := List.mem_of_getElem? n1
  have h0 := k24 _ _ (tp.2 0 _ _ u0 n0)
  have h1 := k24 _ _ (tp.2 1 _ _ u1 n1)
  have w0 := rw_.wdt m0
  have w1 := rw_.wdt m1
  have am0 := rw_.am _ m0
  have am1 := rw_.am _ m1
  have b2 := rw_.l2 m0
  have b6 := rw_.l6 m0
  generalize rows[0] = ns at n0 h0 w0 am0 b2 b6
  generalize rows[1] = ms at n1 h1 w1 am1
  generalize ts[0] = ta at u0 h0
  generalize ts[1] = tb' at u1 h1
  have ln2 : ns.length = ms.length := by omega
  refine ⟨_, rfl, p, _, 0, _, rfl, rfl, SqL.of hp4, refsAt u0, fun x dx nx nd nex => ?_⟩
  refine mk_at nx nd h0 b2 b6 am0 fun H5 k5 sh1 => ?_
  clear nx nd nex
  refine ⟨_, rfl, p, _, 1, _, rfl, rfl, SqL.of (k5 _ _ hp4), refsAt u1, fun x2 dx2 nx2 nd2 nex2 => ?_⟩
  refine mk_at nx2 nd2 (k5 _ _ h1) (by omega) (by omega) am1 fun H6 k6 sh2 => ?_
  clear nx2 nd2 nex2
  refine ⟨_, _, rfl, ?_⟩
  have k46 := k5.trans k6
  have k16 := k24.trans k46
  have sh1 := sh1.same k6
  have dv6 := dv.same k46
  have tb6 := Tabs.same tb1 k16
  have k06 : KpT a H H6 := fun b o e n z => k16 _ _ (k01 b o e n z)
  have hp6 := k46 _ _ hp4
  have h06 := k46 _ _ h0
  clear dv tb1 k01 k24 k46 k16 k5 k6 hp4 h0 h1 hp tp u1 m1 n1 n0 m0 k1 am1 l1 w1
  refine ⟨_, rfl, _, rfl, x, _, x2, _, ns, ms, rfl, sh1, sh2, ln2, tb6, fun L1 G1 y1 t1 g1 => ?_⟩
  refine ⟨_, rfl, d, t, ss, R, rfl, dv6.extN y1, t1, fun L2 G2 y2 t2 g2 => ?_⟩
  refine ⟨L1, L2, _, _, rfl, rfl, y2 _ _ g1 (fun ps z => nomatch z), g2, (by show 16 ≤ sizeLine; decide), fun M hM => ?_⟩
  generalize hG3 : upd G2 M _ = G3
  obtain ⟨k3, g3⟩ := alloc hG3 hM
  clear hG3
  refine ⟨M, 16, "", rfl, g3, by simp [okL], fun H7 k4 => ⟨true, rfl, iteF ?_⟩⟩
  have x7 : LamX.ExtN H6 H7 := (y1.trans y2).trans (LamX.ExtN.of (k3.trans k4))
  have tb7 := Tabs.same t2 (k3.trans k4)
  have sh17 := sh1.extN x7
  have dv7 := dv6.extN x7
  have hp7 := x7 _ _ hp6 (fun ps z => nomatch z)
  have h07 := x7 _ _ h06 (fun ps z => nomatch z)
  have k07 : KpT a H H7 := fun b o e n z => x7 _ _ (k06 b o e n z) z
  clear y1 y2 t1 t2 g1 g2 k3 k4 g3 hM sh1 dv6 hp6 h06 tb6 k06 x7 sh2
  rw [tNextE]
  dsimp only
  rw [tSeqE]
  refine asgJoin (fun v H' => ∃ (s3 t3 : Addr) (m3 : List Int), v = .ref s3 ∧ Same H7 H' ∧ ShAt CShare H' s3 t3 m3 ∧ m3.length ≠ ns.length) ?_ (fun N hN => ?_)
  case refine_2 =>
    refine ⟨_, rfl, p, _, 0, _, rfl, rfl, SqL.of hp7, refsAt u0, ?_⟩
    refine ⟨ta, _, rfl, .inr (SqT.of h07), _, _, rfl, rfl, _, rfl, ?_⟩
    refine ite2 (fun c => ?_) (fun c => ?_)
    · have c6 : ns.length < 6 := by
        have z := of_decide_eq_true c
        rw [List.length_map] at z
        omega
      refine ⟨_, rfl, p, _, 0, _, rfl, rfl, SqL.of hp7, refsAt u0, ?_⟩
      refine ⟨(by show 1 ≤ sizeLine; decide), fun q hq => ?_⟩
      generalize hH8 : upd H7 q _ = H8
      obtain ⟨k8, e8⟩ := alloc hH8 hq
      clear hH8
      refine ⟨ta, q, _, _, rfl, rfl, SqT.of (k8 _ _ h07), SqT.of e8, size_of (by rw [List.length_map]; show _ + 1 ≤ _; omega), fun z => ?_, fun _ z => (nomatch z), fun _ _ r hr9 => ?_⟩
      · have := List.map_eq_nil_iff.mp z
        rw [this] at b2
        simp at b2
      generalize hH9 : upd H8 r _ = H9
      obtain ⟨k9, e9⟩ := alloc hH9 hr9
      clear hH9
      intro x3 d3 nx3 nd3 ne3
      refine mk_at (ns := ns ++ [0]) nx3 nd3 (by rw [List.map_append]; exact e9) (by rw [List.length_append]; omega) (by rw [List.length_append]; show _ + 1 ≤ _; omega) (fun y hy => ?_) fun H10 k10 sh3 => hN _ _ ⟨x3, r, _, rfl, (k8.trans k9).trans k10, sh3, by rw [List.length_append]; show _ + 1 ≠ _; omega⟩
      rcases List.mem_append.mp hy with h | h
      · exact am0 y h
      · rw [List.mem_singleton.mp h]; decide
    · have c6 : ns.length = 6 := by
        have z : ¬ ((List.map V.int ns).length : Int) < 6 := fun h => c (decide_eq_true h)
        rw [List.length_map] at z
        omega
      refine ⟨(by show 2 ≤ sizeLine; decide), fun q hq => ?_⟩
      generalize hH8 : upd H7 q _ = H8
      obtain ⟨k8, e8⟩ := alloc hH8 hq
      clear hH8
      intro x3 d3 nx3 nd3 ne3
      refine mk_at (ns := [0, 1]) nx3 nd3 e8 (by decide) (by decide) (fun y hy => ?_) fun H10 k10 sh3 => hN _ _ ⟨x3, q, _, rfl, k8.trans k10, sh3, by rw [c6]; decide⟩
      simp only [List.mem_cons, List.not_mem_nil, or_false] at hy
      rcases hy with rfl | rfl <;> decide
  rintro v H8 ⟨s3, t3, m3, rfl, k8, sh3, ne3⟩
  have sh18 := sh17.same k8
  have dv8 := dv7.same k8
  have tb8 := Tabs.same tb7 k8
  have k08 : KpT a H H8 := fun b o e n z => k8 _ _ (k07 b o e n z)
  clear sh17 dv7 tb7 k07 k8 hp7 h07 u0
  refine ⟨_, rfl, _, rfl, .ref x, .ref s3, rfl, .inr (.inr ⟨x, _, s3, t3, ns, m3, rfl, rfl, sh18, sh3, fun z => ne3 z.symm⟩), tb8, fun L1 G1 y1 t1 g1 => ?_⟩
  refine ⟨_, rfl, _, rfl, .ref s3, .ref x, rfl, .inr (.inr ⟨s3, t3, x, _, m3, ns, rfl, rfl, sh3.extN y1, sh18.extN y1, ne3⟩), t1, fun L2 G2 y2 t2 g2 => ?_⟩
  refine ⟨L1, L2, _, _, rfl, rfl, y2 _ _ g1 (fun ps z => nomatch z), g2, (by show 8 ≤ sizeLine; decide), fun M hM => ?_⟩
  generalize hG3 : upd G2 M _ = G3
  obtain ⟨k3, g3⟩ := alloc hG3 hM
  clear hG3
  refine ⟨_, rfl, M, 8, "share", rfl, g3, by simp [okL], fun H9 k4 => ⟨true, rfl, iteF ?_⟩⟩
  have x9 : LamX.ExtN H8 H9 := (y1.trans y2).trans (LamX.ExtN.of (k3.trans k4))
  have tb9 := Tabs.same t2 (k3.trans k4)
  have dv9 := dv8.extN x9
  have k09 : KpT a H H9 := fun b o e n z => x9 _ _ (k08 b o e n z) z
  clear y1 y2 t1 t2 g1 g2 k3 k4 g3 hM dv8 tb8 k08 x9 sh18 sh3
  refine ⟨(by show 0 ≤ sizeLine; decide), fun b1 hb1 => ?_⟩
  generalize hHb1 : upd H9 b1 _ = Hb1
  obtain ⟨kb1, eb1⟩ := alloc hHb1 hb1
  clear hHb1
  refine ⟨(by show 2 ≤ sizeLine; decide), fun b2 hb2 => ?_⟩
  generalize hHb2 : upd Hb1 b2 _ = Hb2
  obtain ⟨kb2, eb2⟩ := alloc hHb2 hb2
  clear hHb2
  refine ⟨(by show 1 ≤ sizeLine; decide), fun b3 hb3 => ?_⟩
  generalize hHb3 : upd Hb2 b3 _ = Hb3
  obtain ⟨kb3, eb3⟩ := alloc hHb3 hb3
  clear hHb3
  refine ⟨(by show 0 ≤ sizeLine; decide), fun b4 hb4 => ?_⟩
  generalize hHb4 : upd Hb3 b4 _ = Hb4
  obtain ⟨kb4, eb4⟩ := alloc hHb4 hb4
  clear hHb4
  refine ⟨(by show 0 ≤ sizeLine; decide), fun b5 hb5 => ?_⟩
  generalize hHb5 : upd Hb4 b5 _ = Hb5
  obtain ⟨kb5, eb5⟩ := alloc hHb5 hb5
  clear hHb5
  refine ⟨(by show 0 ≤ sizeLine; decide), fun b6 hb6 => ?_⟩
  generalize hHb6 : upd Hb5 b6 _ = Hb6
  obtain ⟨kb6, eb6⟩ := alloc hHb6 hb6
  clear hHb6
  refine ⟨(by show 2 ≤ sizeLine; decide), fun b7 hb7 => ?_⟩
  generalize hHb7 : upd Hb6 b7 _ = Hb7
  obtain ⟨kb7, eb7⟩ := alloc hHb7 hb7
  clear hHb7
  refine ⟨(by show 8 ≤ sizeLine; decide), fun b8 hb8 => ?_⟩
  generalize hHb8 : upd Hb7 b8 _ = Hb8
  obtain ⟨kb8, eb8⟩ := alloc hHb8 hb8
  clear hHb8
  refine ⟨_, rfl, (by show 1 ≤ sizeLine; decide), fun c1 hc1 => ?_⟩
  generalize hHc1 : upd Hb8 c1 _ = Hc1
  obtain ⟨kc1, ec1⟩ := alloc hHc1 hc1
  clear hHc1
  refine ⟨(by show 1 ≤ sizeLine; decide), fun c2 hc2 => ?_⟩
  generalize hHc2 : upd Hc1 c2 _ = Hc2
  obtain ⟨kc2, ec2⟩ := alloc hHc2 hc2
  clear hHc2
  refine ⟨(by show 2 ≤ sizeLine; decide), fun c3 hc3 => ?_⟩
  generalize hHc3 : upd Hc2 c3 _ = Hc3
  obtain ⟨kc3, ec3⟩ := alloc hHc3 hc3
  clear hHc3
  refine ⟨(by show 2 ≤ sizeLine; decide), fun c4 hc4 => ?_⟩
  generalize hHc4 : upd Hc3 c4 _ = Hc4
  obtain ⟨kc4, ec4⟩ := alloc hHc4 hc4
  clear hHc4
  refine ⟨(by show 2 ≤ sizeLine; decide), fun c5 hc5 => ?_⟩
  generalize hHc5 : upd Hc4 c5 _ = Hc5
  obtain ⟨kc5, ec5⟩ := alloc hHc5 hc5
  clear hHc5
  refine ⟨(by show 2 ≤ sizeLine; decide), fun c6 hc6 => ?_⟩
  generalize hHc6 : upd Hc5 c6 _ = Hc6
  obtain ⟨kc6, ec6⟩ := alloc hHc6 hc6
  clear hHc6
  refine ⟨(by show 2 ≤ sizeLine; decide), fun c7 hc7 => ?_⟩
  generalize hHc7 : upd Hc6 c7 _ = Hc7
  obtain ⟨kc7, ec7⟩ := alloc hHc7 hc7
  clear hHc7
  refine ⟨(by show 2 ≤ sizeLine; decide), fun c8 hc8 => ?_⟩
  generalize hHc8 : upd Hc7 c8 _ = Hc8
  obtain ⟨kc8, ec8⟩ := alloc hHc8 hc8
  clear hHc8
  refine ⟨(by show 2 ≤ sizeLine; decide), fun c9 hc9 => ?_⟩
  generalize hHc9 : upd Hc8 c9 _ = Hc9
  obtain ⟨kc9, ec9⟩ := alloc hHc9 hc9
  clear hHc9
  refine ⟨(by show 3 ≤ sizeLine; decide), fun d0 hd0 => ?_⟩
  generalize hHd0 : upd Hc9 d0 _ = Hd0
  obtain ⟨kd0, ed0⟩ := alloc hHd0 hd0
  clear hHd0
  have qd0 := Same.refl Hd0
  have qc9 := kd0.trans qd0
  have qc8 := kc9.trans qc9
  have qc7 := kc8.trans qc8
  have qc6 := kc7.trans qc7
  have qc5 := kc6.trans qc6
  have qc4 := kc5.trans qc5
  have qc3 := kc4.trans qc4
  have qc2 := kc3.trans qc3
  have qc1 := kc2.trans qc2
  have qb8 := kc1.trans qc1
  have qb7 := kb8.trans qb8
  have qb6 := kb7.trans qb7
  have qb5 := kb6.trans qb6
  have qb4 := kb5.trans qb5
  have qb3 := kb4.trans qb4
  have qb2 := kb3.trans qb3
  have qb1 := kb2.trans qb2
  refine ⟨b8, d0, _, _, rfl, rfl, qb8 _ _ eb8, ed0, (by show 11 ≤ sizeLine; decide), fun U hU => ?_⟩
  generalize hHU : upd Hd0 U _ = HU
  obtain ⟨kU, eU⟩ := alloc hHU hU
  clear hHU
  have all : ∀ v ∈ [V.non, .ref b1, .ref b3, .int 0, .bl true, .str "ring", .ref b4, .ref b7, .ref c3, .ref c6, .ref c9], Th HU v := fun v hv => by
    have z1 : ∀ {g : List Nat} (rows : List (List Int)), rows.length ≤ 4 → ¬ IsRing rows (List.range rows.length) [] g := fun rows _ ir => by
      have := ir.2.2.1
      simp at this
    have z2 : ∀ {g : List Nat} (rows : List (List Int)), rows.length ≤ 4 → ¬ IsRing rows (List.range rows.length) [0] g := fun {g} rows _ ir => by
      obtain ⟨nd, lt, l1, lg, al, _⟩ := ir
      have e0 : g[0]? = some g[0] := List.getElem?_eq_getElem (by rw [lg]; decide)
      have z := (al 0 _ 0 0 e0 rfl).2
      unfold rs at z
      omega
    have z3 : ∀ {g : List Nat} (rows : List (List Int)), rows.length ≤ 4 → ¬ IsRing rows (List.range rows.length) [0, 0] g := fun rows _ ir => by
      have := ir.1
      simp at this
    have z4 : ∀ (rows : List (List Int)), rows.length ≤ 4 → ¬ IsRing rows (List.range rows.length) [0, 1] [0, 9] := fun rows l4 ir => by
      have := ir.ppl 9 (by simp)
      omega
    simp only [List.mem_cons, List.not_mem_nil, or_false] at hv
    rcases hv with rfl | rfl | rfl | rfl | rfl | rfl | rfl | rfl | rfl | rfl | rfl
    · exact .non
    · exact .tupN ((qb1.trans kU) _ _ eb1) (by decide)
    · exact .tupN ((qb3.trans kU) _ _ eb3) (by show 1 ≠ 2; decide)
    · exact .int _
    · exact .bl _
    · exact .str _
    · exact .lst ((qb4.trans kU) _ _ eb4)
    · exact .two (ss := []) (g := []) ((qb7.trans kU) _ _ eb7) ((qb5.trans kU) _ _ eb5) ((qb6.trans kU) _ _ eb6) (by decide) (by decide) z1
    · exact .two (ss := [0]) (g := [0]) ((qc3.trans kU) _ _ ec3) ((qc1.trans kU) _ _ ec1) ((qc2.trans kU) _ _ ec2) (by decide) (by decide) z2
    · exact .two (ss := [0, 0]) (g := [0, 1]) ((qc6.trans kU) _ _ ec6) ((qc4.trans kU) _ _ ec4) ((qc5.trans kU) _ _ ec5) (by decide) (by decide) z3
    · exact .two (ss := [0, 1]) (g := [0, 9]) ((qc9.trans kU) _ _ ec9) ((qc7.trans kU) _ _ ec7) ((qc8.trans kU) _ _ ec8) (by decide) (by decide) z4
  have k9U : Same H9 HU := kb1.trans (qb1.trans kU)
  have dvU := dv9.same k9U
  have tbU := Tabs.same tb9 k9U
  have k0U : KpT a H HU := fun b o e n z => k9U _ _ (k09 b o e n z)
  clear kb1 qb1 eb1 hb1 kb2 qb2 eb2 hb2 kb3 qb3 eb3 hb3 kb4 qb4 eb4 hb4 kb5 qb5 eb5 hb5 kb6 qb6 eb6 hb6 kb7 qb7 eb7 hb7 kb8 qb8 eb8 hb8 kc1 qc1 ec1 hc1 kc2 qc2 ec2 hc2 kc3 qc3 ec3 hc3 kc4 qc4 ec4 hc4 kc5 qc5 ec5 hc5 kc6 qc6 ec6 hc6 kc7 qc7 ec7 hc7 kc8 qc8 ec8 hc8 kc9 qc9 ec9 hc9 kd0 qd0 ed0 hd0 kU k9U k09 tb9 dv9
  refine ⟨U, rfl, ⟨_, SqL.of eU⟩, for_list (K := K) (a := U) (xs := [V.non, .ref b1, .ref b3, .int 0, .bl true, .str "ring", .ref b4, .ref b7, .ref c3, .ref c6, .ref c9]) (fun e σ H' => ∃ v9 : Option V, σ = [some (.ref a), some (.ref p), some (.ref D'), some (.ref d), some (.ref x), some (.ref x2), some (.ref s3), some (.ref M), some (.ref b8), v9, none, none, none] ∧ LamX.ExtN HU H' ∧ LamX.Tabs T H') ⟨none, rfl, LamX.ExtN.refl _, tbU⟩ (fun e σ H' _ ⟨_, _, z, _⟩ => SqL.of (z _ _ eU (fun ps z => nomatch z))) ?_ ?_⟩
  · rintro e v σ H10 hv ⟨v9, rfl, x10, tb10⟩
    have th := (all v (List.mem_of_getElem? hv)).ext x10
    refine ⟨tb10, fun F1 ex1 tb1 => ?_⟩
    refine ⟨_, rfl, _, rfl, d, t, ss, R, v, rfl, dvU.extN (x10.trans ex1), th.ext ex1, fun F2 k2 σ' => O.rg ?_⟩
    refine ⟨rfl, false, by simp, iteF ?_⟩
    exact ⟨_, rfl, (x10.trans ex1).trans (LamX.ExtN.of k2), Tabs.same tb1 k2⟩
  rintro σ H11 ⟨v9, rfl, x11, tb11⟩
  have dv11 := dvU.extN x11
  have k011 : KpT a H H11 := fun b o e n z => x11 _ _ (k0U b o e n z) z
  clear all eU dvU tbU k0U x11
  obtain ⟨⟨dx0, hd0⟩, _⟩ := id dv11
  obtain ⟨pl2, pl4⟩ := dv11.ppl
  refine ⟨_, rfl, ?_⟩
  refine ⟨_, rfl, d, dx0, _, rfl, hd0, d, t, ss, R, rfl, dv11, ?_⟩
  refine ⟨(by show 1 ≤ sizeLine; decide), fun f1 hf1 => ?_⟩
  generalize hHf1 : upd H11 f1 _ = Hf1
  obtain ⟨kf1, ef1⟩ := alloc hHf1 hf1
  clear hHf1
  refine ⟨(by show 1 ≤ sizeLine; decide), fun f2 hf2 => ?_⟩
  generalize hHf2 : upd Hf1 f2 _ = Hf2
  obtain ⟨kf2, ef2⟩ := alloc hHf2 hf2
  clear hHf2
  refine ⟨_, _, rfl, rfl, ⟨by decide, by decide, by decide⟩, ?_⟩
  refine fun f3 hf3 => ?_
  generalize hHf3 : upd Hf2 f3 _ = Hf3
  obtain ⟨kf3, ef3⟩ := alloc hHf3 hf3
  clear hHf3
  refine ⟨(by show 10 ≤ sizeLine; decide), fun f4 hf4 => ?_⟩
  generalize hHf4 : upd Hf3 f4 _ = Hf4
  obtain ⟨kf4, ef4⟩ := alloc hHf4 hf4
  clear hHf4
  have qf4 := Same.refl Hf4
  have qf3 := kf4.trans qf4
  have qf2 := kf3.trans qf3
  have qf1 := kf2.trans qf2
  have k1112 : Same H11 Hf4 := kf1.trans qf1
  have all : ∀ v ∈ [V.int (-1), .int (R.length : Nat), .non, .bl true, .bl false, .str "0", .ref f1, .ref f2, .int (10 ^ 12), .ref f3], ∃ Ty, TyS Hf4 v Ty ∧ isTo ((R.length : Int) - 1) v = false := fun v hv => by
    simp only [List.mem_cons, List.not_mem_nil, or_false] at hv
    rcases hv with rfl | rfl | rfl | rfl | rfl | rfl | rfl | rfl | rfl | rfl
    · exact ⟨_, .int _, rfl⟩
    · exact ⟨_, .int _, by simp only [isTo]; simp; omega⟩
    · exact ⟨_, .non, rfl⟩
    · exact ⟨_, .bl _, rfl⟩
    · exact ⟨_, .bl _, rfl⟩
    · exact ⟨_, .str _, rfl⟩
    · exact ⟨_, .tup (qf1 _ _ ef1), rfl⟩
    · exact ⟨_, .lst (qf2 _ _ ef2), rfl⟩
    · exact ⟨_, .int _, by simp only [isTo]; simp; omega⟩
    · exact ⟨_, .dK (qf3 _ _ ef3), rfl⟩
  have dv12 := dv11.same k1112
  have tb12 := Tabs.same tb11 k1112
  have k012 : KpT a H Hf4 := fun b o e n z => k1112 _ _ (k011 b o e n z)
  clear kf1 kf2 kf3 kf4 qf1 qf2 qf3 qf4 k1112 k011 tb11 dv11 hd0 ef1 ef2 ef3
  refine ⟨f4, rfl, ⟨_, SqL.of ef4⟩, for_list (K := K) (a := f4) (xs := [V.int (-1), .int (R.length : Nat), .non, .bl true, .bl false, .str "0", .ref f1, .ref f2, .int (10 ^ 12), .ref f3]) (fun e σ H' => ∃ v7 v9 : Option V, σ = [some (.ref a), some (.ref p), some (.ref D'), some (.ref d), some (.ref x), some (.ref x2), some (.ref s3), v7, some (.ref b8), v9, none, none, none] ∧ LamX.ExtN Hf4 H' ∧ LamX.Tabs T H') ⟨some (.ref M), v9, rfl, LamX.ExtN.refl _, tb12⟩ (fun e σ H' _ ⟨_, _, _, z, _⟩ => SqL.of (z _ _ ef4 (fun ps z => nomatch z))) ?_ ?_⟩
  · clear v9
    rintro e v σ H13 hv ⟨v7, v9, rfl, x13, tb13⟩
    obtain ⟨Ty, ty, no⟩ := all v (List.mem_of_getElem? hv)
    refine ⟨tb13, fun F1 ex1 tb1 => ?_⟩
    refine ⟨_, rfl, _, rfl, fun x' dx nx ndx ne => ?_⟩
    have k2 : Same F1 (upd (upd F1 dx (.own x')) x' (.ins CKept dx [])) := same_put (same_put (Same.refl _) ndx) nx
    refine ⟨x', dx, _, _, rfl, upd_same, .inr (.inr ⟨d, t, ss, R, Ty, rfl, (dv12.extN (x13.trans ex1)).same k2, (ty.ext (x13.trans ex1)).same k2, no, fun F2 kp σ' => O.pe ?_⟩)⟩
    have k2 : Same F1 F2 := fun b o q => kp b o (ne_of_none q nx) (k2 b o q)
    refine ⟨(by show 1 ≤ sizeLine; decide), fun L nL2 => ?_⟩
    generalize hH3 : upd F2 L _ = H14
    obtain ⟨k3, hL⟩ := alloc hH3 nL2
    clear hH3
    have nL : ∀ o, H13 L = some o → (∀ ps, o ≠ .tbl ps) → False := fun o' e n => by
      rw [k2 _ _ (ex1 _ _ e n)] at nL2
      cases nL2
    have ex : LamX.ExtN H13 H14 := ex1.trans (LamX.ExtN.of (k2.trans k3))
    have tb3 := Tabs.same tb1 (k2.trans k3)
    clear ex1 tb1 k2 k3 nL2 nx ndx ne kp
    refine ⟨_, rfl, .inl ⟨rfl, _, SqL.of hL⟩, tb3, fun F1 ex1 tb1 => ?_⟩
    refine ⟨_, rfl, _, rfl, fun x' dx nx ndx ne => ?_⟩
    have k2 : Same F1 (upd (upd F1 dx (.own x')) x' (.ins CKeptFine dx [])) := same_put (same_put (Same.refl _) ndx) nx
    refine ⟨x', dx, _, _, rfl, upd_same, .inr (.inr ⟨d, t, ss, R, Ty, rfl, (dv12.extN (x13.trans (ex.trans ex1))).same k2, (ty.ext (x13.trans (ex.trans ex1))).same k2, no, fun F2 kp σ' => O.pe ?_⟩)⟩
    have k2 : Same F1 F2 := fun b o q => kp b o (ne_of_none q nx) (k2 b o q)
    obtain ⟨h5, x5, t5, l5⟩ := wd_step (y := .str "person") nL ex hL ex1 tb1 k2
    refine ⟨L, _, _, rfl, rfl, h5, (by show 1 < sizeLine; decide), ?_⟩
    clear ex tb3 hL ex1 tb1 k2 ndx nx ne kp
    generalize upd _ L _ = G5 at x5 t5 l5 ⊢
    clear h5
    refine ⟨_, rfl, L, 2, "person", rfl, l5, by simp [okL], fun G6 k6 => ⟨true, rfl, iteF ?_⟩⟩
    exact ⟨_, _, rfl, (x13.trans x5).trans (LamX.ExtN.of k6), Tabs.same t5 k6⟩
  clear v9
  rintro σ H15 ⟨v7, v9, rfl, x15, tb15⟩
  have dv15 := dv12.extN x15
  have k015 : KpT a H H15 := fun b o e n z => x15 _ _ (k012 b o e n z) z
  clear all ef4 dv12 tb12 k012 x15
  obtain ⟨⟨dx0, hd0⟩, _⟩ := id dv15
  obtain ⟨pl2, pl4⟩ := dv15.ppl
  refine ⟨_, rfl, d, dx0, _, rfl, hd0, d, t, ss, R, rfl, dv15, ?_⟩
  refine ⟨R.length, rfl, by omega, by omega, for_range (lo := 0) (n := R.length) (fun i σ H' => ∃ v7 v10 : Option V, σ = [some (.ref a), some (.ref p), some (.ref D'), some (.ref d), some (.ref x), some (.ref x2), some (.ref s3), v7, some (.ref b8), v9, v10, none, none] ∧ LamX.ExtN H15 H' ∧ LamX.Tabs T H') ⟨v7, none, rfl, LamX.ExtN.refl _, tb15⟩ ?_ ?_⟩
  · clear v7
    rintro i σ H16 hi ⟨v7, v10, rfl, x16, tb16⟩
    have ei : (0 + ((i : Nat) : Int)) = ((i : Nat) : Int) := by omega
    rw [ei]
    refine ⟨tb16, fun F1 ex1 tb1 => ?_⟩
    refine ⟨_, rfl, _, rfl, fun x' dx nx ndx ne => ?_⟩
    have k2 : Same F1 (upd (upd F1 dx (.own x')) x' (.ins CKept dx [])) := same_put (same_put (Same.refl _) ndx) nx
    refine ⟨x', dx, _, _, rfl, upd_same, .inl ⟨d, t, ss, R, i, rfl, rfl, hi, (dv15.extN (x16.trans ex1)).same k2, fun F2 kp _ => ⟨rfl, ?_⟩⟩⟩
    have k2 : Same F1 F2 := fun b o q => kp b o (ne_of_none q nx) (k2 b o q)
    refine ⟨(by show 1 ≤ sizeLine; decide), fun L nL2 => ?_⟩
    generalize hH3 : upd F2 L _ = H17
    obtain ⟨k3, hL⟩ := alloc hH3 nL2
    clear hH3
    have nL : ∀ o, H16 L = some o → (∀ ps, o ≠ .tbl ps) → False := fun o' e n => by
      rw [k2 _ _ (ex1 _ _ e n)] at nL2
      cases nL2
    have ex : LamX.ExtN H16 H17 := ex1.trans (LamX.ExtN.of (k2.trans k3))
    have tb3 := Tabs.same tb1 (k2.trans k3)
    clear ex1 tb1 k2 k3 nL2 nx ndx ne kp
    refine ⟨_, rfl, .inl ⟨rfl, _, SqL.of hL⟩, tb3, fun F1 ex1 tb1 => ?_⟩
    refine ⟨_, rfl, _, rfl, fun x' dx nx ndx ne => ?_⟩
    have k2 : Same F1 (upd (upd F1 dx (.own x')) x' (.ins CKeptFine dx [])) := same_put (same_put (Same.refl _) ndx) nx
    refine ⟨x', dx, _, _, rfl, upd_same, .inl ⟨d, t, ss, R, i, rfl, rfl, hi, (dv15.extN (x16.trans (ex.trans ex1))).same k2, fun F2 kp _ => ⟨rfl, ?_⟩⟩⟩
    have k2 : Same F1 F2 := fun b o q => kp b o (ne_of_none q nx) (k2 b o q)
    obtain ⟨h5, x5, t5, l5⟩ := wd_step (y := .str "") nL ex hL ex1 tb1 k2
    refine ⟨L, _, _, rfl, rfl, h5, (by show 1 < sizeLine; decide), ?_⟩
    clear ex tb3 hL ex1 tb1 k2 ndx nx ne kp
    generalize upd _ L _ = G5 at x5 t5 l5 ⊢
    clear h5
    refine ⟨_, rfl, L, 2, "", rfl, l5, by simp [okL], fun G6 k6 => ⟨true, rfl, iteF ?_⟩⟩
    exact ⟨_, _, rfl, (x16.trans x5).trans (LamX.ExtN.of k6), Tabs.same t5 k6⟩
  · rintro σ H18 ⟨v7, v10, rfl, x18, tb18⟩
    exact k H18 (fun b o e n z => x18 _ _ (k015 b o e n z) z) tb18
end
end Pl
namespace Pl
open PySem PySem.Spec PyProof.Rows L2 GenZ
def spLaw (K : PySem.W.Frag) : Sp := fun vs H Q _ => ∃ (a : Addr) (ns : List Int), vs = [.ref a] ∧ SqL K H a (ns.map V.int) ∧ ns.length ≤ 63 ∧ (∀ y ∈ [("_law_of_pair" : Str), "_law_of_division", "_law_are_wrong", "_law_are_right"], ∀ c T : Addr, PySem.W.tabIn K y = some (c, T) → H T = some (.tbl #[])) ∧ ∀ H', Q (.bl true) H'
theorem SqL.extN {K : PySem.W.Frag} {H H' : Hp} {a : Addr} {xs : List V} (h : SqL K H a xs) (k : LamX.ExtN H H') : SqL K H' a xs := by
  rcases h with (h | ⟨ob, h⟩) | h
  · exact .inl (.inl (k _ _ h (fun ps z => nomatch z)))
  · exact .inl (.inr ⟨ob, k _ _ h (fun ps z => nomatch z)⟩)
  · exact .inr h
theorem tabs4 {K : PySem.W.Frag} {c1 P1 c2 P2 c3 P3 c4 P4 : Addr} (h1 : PySem.W.tabIn K "_law_of_pair" = some (c1, P1)) (h2 : PySem.W.tabIn K "_law_of_division" = some (c2, P2)) (h3 : PySem.W.tabIn K "_law_are_wrong" = some (c3, P3)) (h4 : PySem.W.tabIn K "_law_are_right" = some (c4, P4)) :
    ∀ H : Hp, (∀ y ∈ [("_law_of_pair" : Str), "_law_of_division", "_law_are_wrong", "_law_are_right"], ∀ c T : Addr, PySem.W.tabIn K y = some (c, T) → H T = some (.tbl #[])) → LamX.Tabs [(P1, qLam "_law_of_pair"), (P2, qLam "_law_of_division"), (P3, qLam "_law_are_wrong"), (P4, qLam "_law_are_right")] H := fun H hT q hq => by
  simp only [List.mem_cons, List.not_mem_nil, or_false] at hq
  rcases hq with rfl | rfl | rfl | rfl
  · exact LamX.TabS.nil (hT _ (by simp) _ _ h1)
  · exact LamX.TabS.nil (hT _ (by simp) _ _ h2)
  · exact LamX.TabS.nil (hT _ (by simp) _ _ h3)
  · exact LamX.TabS.nil (hT _ (by simp) _ _ h4)
section
variable {P : Program} {w : World} {K : PySem.W.Frag} {mg : Str → Option Value} {base : Heap} {T : List (Addr × Str)}
abbrev st_law : Stmt := top 96
theorem sc_law : FnScope ["_law_script", "_law_k", "_law_source_here"] ["_law_script"] (defScope st_law) := ⟨rfl, rfl, rfl, by decide +kernel, rfl, by decide +kernel, by decide +kernel⟩
theorem ok_law (B : Bn mg) (hT0 : ∀ H : Hp, (∀ y ∈ [("_law_of_pair" : Str), "_law_of_division", "_law_are_wrong", "_law_are_right"], ∀ c T : Addr, PySem.W.tabIn K y = some (c, T) → H T = some (.tbl #[])) → LamX.Tabs T H) (c_l_cell : Cal P w K mg base 2 "_law_cell" ["_law_script", "_law_index"] (spCell K)) (c_l_source : Cal P w K mg base 2 "_law_source" ["_law_cell_here"] spSource) (c_l_are_right : Cal P w K mg base 17 "_law_are_right" ["_law_source_here"] (spRight T)) (c_l_are_wrong : Cal P w K mg base 17 "_law_are_wrong" ["_law_source_here"] (spWrong T))
    {f : Addr} {fd : FuncData} (D : L2.Fun K "law" "law" st_law f fd) : FnOk P w K mg base CX0 18 f fd ["_law_script"] (spLaw K) := by
  refine D.ok sc_law (fun vs H Q E h => ?_) (fun cdv A out s H vs Q E hr h => ?_)
  · obtain ⟨a, ns, rfl, _⟩ := h
    rfl
  obtain ⟨a, ns, rfl, sq, l63, hT, k⟩ := h
  refine ⟨_, (pss_one (ps_try_thru0 (pss_cons (ps_for PassesOwn.never rfl (pi_range1 (by rfl) B.n_range (pa_cons (pe_callB (call_max2 rfl) (by rfl) B.n_max (by decide +kernel) (pa_cons pe_int (pa_cons (pe_callB (call_min2 rfl) (by rfl) B.n_min (by decide +kernel) (pa_cons (pe_callB call_len_seq (by rfl) B.n_len (by decide +kernel) (pa_cons (pv 0) pa_nil)) (pa_cons pe_int pa_nil))) pa_nil))) pa_nil)) (pg_name (i := 1) sc_law.nd rfl (.inl rfl))
   (pss_cons (ps_set (i := 2) sc_law.nd rfl (.inl rfl) (pe_fn c_l_source (hr.mono (by decide)) (pa_cons (pe_fn c_l_cell (hr.mono (by decide)) (pa_cons (pv 0) (pa_cons (pv 1) pa_nil))) pa_nil)))
   (pss_one (ps_if (PW.pt (pw_or (pt_not (pt_val (pe_fn c_l_are_right (hr.mono (by decide)) (pa_cons (pv 2) pa_nil)))) (pw_or1 (pt_not (pt_val (pe_fn c_l_are_wrong (hr.mono (by decide)) (pa_cons (pv 2) pa_nil))))))) (pss_one (ps_ret pe_bl)) pss_nil))))
   (pss_one (ps_ret pe_bl))))), ?_⟩
  have tb0 := hT0 H hT
  refine ⟨_, rfl, a, _, rfl, .inl sq, _, _, rfl, _, _, rfl, _, rfl, ?_, ?_, ?_⟩
  · split <;> split <;> omega
  · split <;> split <;> omega
  generalize (Int.toNat _) = n
  refine for_range (lo := 0) (n := n) (fun i σ H' => ∃ v1 v2 : Option V, σ = [some (.ref a), v1, v2] ∧ LamX.ExtN H H' ∧ LamX.Tabs T H') ⟨none, none, rfl, LamX.ExtN.refl H, tb0⟩ ?_ (fun σ H' _ => k H')
  rintro i σ H1 _ ⟨v1, v2, rfl, x1, tb1⟩
  refine ⟨_, rfl, _, rfl, a, ns, _, rfl, SqL.extN sq x1, by omega, fun c => ⟨c, rfl, fun p H2 np src k2 => ?_⟩⟩
  refine ⟨_, rfl, p, rfl, src, Tabs.same tb1 k2, fun H3 k3 tb3 => ?_⟩
  refine ⟨true, rfl, iteF ?_⟩
  refine ⟨_, rfl, _, rfl, tb3, fun H4 x4 tb4 => ?_⟩
  refine ⟨true, rfl, iteF ?_⟩
  exact ⟨_, _, rfl, fun b o e n => x4 _ _ (k3 _ _ (k2 _ _ (x1 _ _ e n)) (ne_of_none (x1 _ _ e n) np) n) n, tb4⟩
end
end Pl
namespace Pl
open PySem PySem.Spec PyProof.Rows L2
theorem MsK.of {K : PySem.W.Frag} {C D f cda cc : Addr} {file x qual : Str} {st : Stmt} {oc kV dc pm ct cl1 cl2 : Value} {od an od1 od2 : Option Addr} {sl sl1 sl2 : Array (Option Value)} {vs : Array Value} {tf : Tok}
    (a : PySem.W.findIn K (.ref C) x = some (some (.ref f))) (i : PySem.W.isFn K (.ref f) = true)
    (l : K.lookup f = some ⟨oc, od, .func (PySem.W.ksFn x qual (defArgs st) (defBody st) (defScope st) .none kV dc pm an (.ref cda) ct cc), sl⟩) (c : PySem.W.codeIn K (.ref cda) qual = true)
    (h1 : K.lookup cc = some ⟨cl1, od1, .cell (some (.ref D)), sl1⟩) (h3 : K.lookup cda = some ⟨cl2, od2, .fields vs, sl2⟩) (h5 : vs[2]? = some (.str file tf)) (k : PySem.W.keepIn K (.ref f) = true) : MsK K C D file x qual st :=
  ⟨f, a, i, FsK.of l c h1 h3 h5 k⟩
theorem MsK2.of {K : PySem.W.Frag} {C D CT f cda cc : Addr} {file x qual : Str} {st : Stmt} {oc kV dc pm ct cl1 cl2 : Value} {od an od1 od2 : Option Addr} {sl sl1 sl2 : Array (Option Value)} {vs : Array Value} {tf : Tok}
    (a : PySem.W.ks_superIn K C D x = some (some (.ref f))) (i : PySem.W.typeIn K (.ref f) = some (.type "function")) (j : PySem.W.fnIn K f = true)
    (l : K.lookup f = some ⟨oc, od, .func (PySem.W.ksFn x qual (defArgs st) (defBody st) (defScope st) .none kV dc pm an (.ref cda) ct cc), sl⟩) (c : PySem.W.codeIn K (.ref cda) qual = true)
    (h1 : K.lookup cc = some ⟨cl1, od1, .cell (some (.ref CT)), sl1⟩) (h3 : K.lookup cda = some ⟨cl2, od2, .fields vs, sl2⟩) (h5 : vs[2]? = some (.str file tf)) (k : PySem.W.keepIn K (.ref f) = true) : MsK2 K C D CT file x qual st :=
  ⟨f, a, i, j, FsK.of l c h1 h3 h5 k⟩
theorem MsD.of {K : PySem.W.Frag} {C D f cda cc T : Addr} {file x qual : Str} {st : Stmt} {oc kV dc pm ct cl1 cl2 cl3 e : Value} {od an od1 od2 od3 : Option Addr} {sl sl1 sl2 sl3 : Array (Option Value)} {vs : Array Value} {tf : Tok} {m : Nat} {dv : V}
    (a : PySem.W.findIn K (.ref C) x = some (some (.ref f))) (i : PySem.W.isFn K (.ref f) = true)
    (l : K.lookup f = some ⟨oc, od, .func (PySem.W.ksFn x qual (defArgs st) (defBody st) (defScope st) (.ref T) kV dc pm an (.ref cda) ct cc), sl⟩) (c : PySem.W.codeIn K (.ref cda) qual = true)
    (h1 : K.lookup cc = some ⟨cl1, od1, .cell (some (.ref D)), sl1⟩) (h3 : K.lookup cda = some ⟨cl2, od2, .fields vs, sl2⟩) (h5 : vs[2]? = some (.str file tf)) (h6 : K.lookup T = some ⟨cl3, od3, .seq #[e] m, sl3⟩) (h7 : RelV dv e) (k : PySem.W.keepIn K (.ref f) = true) : MsD K C D file x qual st [dv] :=
  ⟨f, a, i, FsD.of l c h1 h3 h5 h6 h7 k⟩
theorem MsD2.of {K : PySem.W.Frag} {C D CT f cda cc T : Addr} {file x qual : Str} {st : Stmt} {oc kV dc pm ct cl1 cl2 cl3 e : Value} {od an od1 od2 od3 : Option Addr} {sl sl1 sl2 sl3 : Array (Option Value)} {vs : Array Value} {tf : Tok} {m : Nat} {dv : V}
    (a : PySem.W.ks_superIn K C D x = some (some (.ref f))) (i : PySem.W.typeIn K (.ref f) = some (.type "function")) (j : PySem.W.fnIn K f = true)
    (l : K.lookup f = some ⟨oc, od, .func (PySem.W.ksFn x qual (defArgs st) (defBody st) (defScope st) (.ref T) kV dc pm an (.ref cda) ct cc), sl⟩) (c : PySem.W.codeIn K (.ref cda) qual = true)
    (h1 : K.lookup cc = some ⟨cl1, od1, .cell (some (.ref CT)), sl1⟩) (h3 : K.lookup cda = some ⟨cl2, od2, .fields vs, sl2⟩) (h5 : vs[2]? = some (.str file tf)) (h6 : K.lookup T = some ⟨cl3, od3, .seq #[e] m, sl3⟩) (h7 : RelV dv e) (k : PySem.W.keepIn K (.ref f) = true) : MsD2 K C D CT file x qual st [dv] :=
  ⟨f, a, i, j, FsD.of l c h1 h3 h5 h6 h7 k⟩
end Pl
namespace Pl
open PySem PySem.Spec PyProof.Rows L2
theorem all_ok {P : Program} {file : Str} {w : World} {K : PySem.W.Frag} {mg : Str → Option Value} {h base : Heap} {CShare CDivision CPool CKept CFine CKeptFine CNoPerson CNoShare CNoDivision CNoRing : Addr} (X : K.In h) (G : h.Ns mainGlobals mg) (aShare : PySem.W.nsIn K mainGlobals "Share" = some (some (.ref CShare))) (sShare : ShF K CShare) (fShare : CallF K CShare) (mShare_init : MhK K CShare "__init__" "Share.__init__" st_ShInit) (mShare_len : MhK K CShare "__len__" "Share.__len__" st_Sh_len) (mShare_call : MhK K CShare "__call__" "Share.__call__" st_Sh_call) (aDivision : PySem.W.nsIn K mainGlobals "Division" = some (some (.ref CDivision))) (sDivision : DvF K CDivision) (mDivision_init : MhK K CDivision "__init__" "Division.__init__" st_DvInit) (mDivision_getitem : MhK K CDivision "__getitem__" "Division.__getitem__" st_Di_getitem) (pShare_amounts : PhK K CShare "amounts" "Share.amounts" st_Sh_amounts) (pShare_total : PhK K CShare "total" "Share.total" st_Sh_total) (pDivision_shares : PhK K CDivision "shares" "Division.shares" st_Di_shares) (pDivision_people : PhK K CDivision "people" "Division.people" st_Di_people) (pDivision_states : PhK K CDivision "states" "Division.states" st_Di_states) (pDivision_totals : PhK K CDivision "totals" "Division.totals" st_Di_totals) (d_is_integer : DfK K "is_integer" st_is_integer) (d_is_integer_to : DfK K "is_integer_to" st_is_integer_to) (d_is_pair : DfK K "is_pair" st_is_pair) (d_is_amounts : DfK K "is_amounts" st_is_amounts) (d_check_pair : DfK K "check_pair" st_check_pair) (d_is_calm : DfK K "is_calm" st_is_calm) (d_is_calmer : DfK K "is_calmer" st_is_calmer) (d_check_division : DfK K "check_division" st_check_division) (d_read_share : DfK K "read_share" st_read_share) (d_read_amount : DfK K "read_amount" st_read_amount) (d_ring : DfK K "ring" st_ring) (d_shows_ring : DfK K "shows_ring" st_shows_ring) (d_exchanged : DfK K "exchanged" st_exchanged) (d_levels : DfK K "levels" st_levels) (d_shows_levels : DfK K "shows_levels" st_shows_levels) (d_verdict : DfK K "verdict" st_verdict) (d_shows_verdict : DfK K "shows_verdict" st_shows_verdict) (d_rise : DfK K "rise" st_rise) (d_is_numbers : DfK K "is_numbers" st_is_numbers) (d_steps_around : DfK K "steps_around" st_steps_around) (d_first_ring : DfK K "first_ring" st_first_ring) (d_first_risers : DfK K "first_risers" st_first_risers) (d_first_riser : DfK K "first_riser" st_first_riser) (d_longer_chains : DfK K "longer_chains" st_longer_chains) (d_first_people : DfK K "first_people" st_first_people) (d_level_needs : DfK K "level_needs" st_level_needs) (d_meets : DfK K "meets" st_meets) (d_lifted : DfK K "lifted" st_lifted) (d_order : DfK K "order" st_order) (d_is_orderly : DfK K "is_orderly" st_is_orderly) (d_opposites : DfK K "opposites" st_opposites) (d_by_totals : DfK K "by_totals" st_by_totals) (d_path : DfK K "path" st_path) (d_shows_path : DfK K "shows_path" st_shows_path) (d_ascending : DfK K "ascending" st_ascending) (d_moved : DfK K "moved" st_moved) (d_steps_between : DfK K "steps_between" st_steps_between) (d_step_towards : DfK K "step_towards" st_step_towards) (d_is_gap : DfK K "is_gap" st_is_gap) (d_smallest_gap : DfK K "smallest_gap" st_smallest_gap) (d_settle : DfK K "settle" st_settle) (d_settled : DfK K "settled" st_settled) (d_l_cell : DfK K "_law_cell" st_l_cell) (d_l_source : DfK K "_law_source" st_l_source) (d_l_draw : DfK K "_law_draw" st_l_draw) (d_l_choose : DfK K "_law_choose" st_l_choose) (d_l_amounts : DfK K "_law_amounts" st_l_amounts) (d_l_mixed : DfK K "_law_mixed" st_l_mixed) (d_l_rows : DfK K "_law_rows" st_l_rows) (d_l_text : DfK K "_law_text" st_l_text) (d_l_outcome : DfK K "_law_outcome" st_l_outcome) (d_l_of_pair : DfK K "_law_of_pair" st_l_of_pair) (d_l_of_division : DfK K "_law_of_division" st_l_of_division) (d_l_are_refused : DfK K "_law_are_refused" st_l_are_refused) (d_l_are_wrong : DfK K "_law_are_wrong" st_l_are_wrong) (d_l_are_right : DfK K "_law_are_right" st_l_are_right) (n_len : PySem.W.nsIn K mainGlobals "len" = some none) (n_range : PySem.W.nsIn K mainGlobals "range" = some none) (n_max : PySem.W.nsIn K mainGlobals "max" = some none) (n_min : PySem.W.nsIn K mainGlobals "min" = some none) (n_sum : PySem.W.nsIn K mainGlobals "sum" = some none) (n_sorted : PySem.W.nsIn K mainGlobals "sorted" = some none) (n_all : PySem.W.nsIn K mainGlobals "all" = some none) (n_isinstance : PySem.W.nsIn K mainGlobals "isinstance" = some none) (n_repr : PySem.W.nsIn K mainGlobals "repr" = some none) (n_tuple : PySem.W.nsIn K mainGlobals "tuple" = some none) (n_list : PySem.W.nsIn K mainGlobals "list" = some none) (n_int : PySem.W.nsIn K mainGlobals "int" = some none) (n_bool : PySem.W.nsIn K mainGlobals "bool" = some none) (n_zip : PySem.W.nsIn K mainGlobals "zip" = some none) (n_str : PySem.W.nsIn K mainGlobals "str" = some none) (n_enumerate : PySem.W.nsIn K mainGlobals "enumerate" = some none) (n_set : PySem.W.nsIn K mainGlobals "set" = some none) (c_FEWEST_STATES : ConI K "FEWEST_STATES" 2) (c_MOST_STATES : ConI K "MOST_STATES" 6) (c_MOST_IN_A_STATE : ConI K "MOST_IN_A_STATE" 30) (c_FEWEST_PEOPLE : ConI K "FEWEST_PEOPLE" 2) (c_MOST_PEOPLE : ConI K "MOST_PEOPLE" 4) (c_SHORTEST_RING : ConI K "SHORTEST_RING" 2) (x_NoPerson : ExF K "NoPerson" CNoPerson) (x_NoShare : ExF K "NoShare" CNoShare) (x_NoDivision : ExF K "NoDivision" CNoDivision) (x_NoRing : ExF K "NoRing" CNoRing) (cmR : CmK K CDivision "read" "Division.read" st_Di_read) (cvM : CvK K CDivision "MOST" 30) (gD : ItemF K CDivision) (kt7 : Kt7 K CDivision) (kt7S : Kt7 K CShare) (oSD : PySem.W.kitOne K (.ref CShare) (.ref CDivision) = some false) (oDS : PySem.W.kitOne K (.ref CDivision) (.ref CShare) = some false) (hS : PySem.W.subIn K (.ref CNoDivision) (.type "StopIteration") = some false) (o21 : PySem.W.exmOne K (.ref CNoDivision) (.ref CNoShare) = some false) (o31 : PySem.W.exmOne K (.ref CNoRing) (.ref CNoShare) = some false) (o32 : PySem.W.exmOne K (.ref CNoRing) (.ref CNoDivision) = some false) (o41 : PySem.W.exmOne K (.ref CNoPerson) (.ref CNoShare) = some false) (o42 : PySem.W.exmOne K (.ref CNoPerson) (.ref CNoDivision) = some false) (o43 : PySem.W.exmOne K (.ref CNoPerson) (.ref CNoRing) = some false) (aPool : PySem.W.nsIn K mainGlobals "Pool" = some (some (.ref CPool))) (sPool : PlF K CPool) (mPool_init : MhK K CPool "__init__" "Pool.__init__" st_Po_init) (aKept : PySem.W.nsIn K mainGlobals "Kept" = some (some (.ref CKept))) (sKept : PlF K CKept) (aFine : PySem.W.nsIn K mainGlobals "Fine" = some (some (.ref CFine))) (sFine : PlF K CFine) (aKeptFine : PySem.W.nsIn K mainGlobals "KeptFine" = some (some (.ref CKeptFine))) (sKeptFine : PlF K CKeptFine) (uKept_Kept_init : ShK2 K CKept CKept "__init__" "Pool.__init__" st_Po_init) (uFine_Fine_init : ShK2 K CFine CFine "__init__" "Pool.__init__" st_Po_init) (uKeptFine_Fine_init : ShK2 K CKeptFine CFine "__init__" "Pool.__init__" st_Po_init) (subKept_Kept : SubK K CKept CKept) (subFine_Fine : SubK K CFine CFine) (subKeptFine_KeptFine : SubK K CKeptFine CKeptFine) (subKeptFine_Kept : SubK K CKeptFine CKept) (subKeptFine_Fine : SubK K CKeptFine CFine) (wFine_Fine_init : MsK K CFine CFine file "__init__" "Fine.__init__" st_Fi_init) (w2KeptFine_Kept_Fine_init : MsK2 K CKeptFine CKept CFine file "__init__" "Fine.__init__" st_Fi_init) (dKept_Kept_init : MsD K CKept CKept file "__init__" "Kept.__init__" st_Ke_init [.int 0]) (dKeptFine_KeptFine_init : MsD K CKeptFine CKeptFine file "__init__" "KeptFine.__init__" st_Kf_init [.int 0]) (d2KeptFine_KeptFine_Kept_init : MsD2 K CKeptFine CKeptFine CKept file "__init__" "Kept.__init__" st_Ke_init [.int 0]) (spP : SupP P file) {c1 P1 c2 P2 c3 P3 c4 P4 : Addr} (h1 : PySem.W.tabIn K "_law_of_pair" = some (c1, P1)) (h2 : PySem.W.tabIn K "_law_of_division" = some (c2, P2)) (h3 : PySem.W.tabIn K "_law_are_wrong" = some (c3, P3)) (h4 : PySem.W.tabIn K "_law_are_right" = some (c4, P4)) (TB1 : LamX.TabB base mg c1 P1) (TB2 : LamX.TabB base mg c2 P2) (TB3 : LamX.TabB base mg c3 P3) (TB4 : LamX.TabB base mg c4 P4) (ne12 : P1 ≠ P2) (ne13 : P1 ≠ P3) (ne14 : P1 ≠ P4) (ne23 : P2 ≠ P3) (ne24 : P2 ≠ P4) (ne34 : P3 ≠ P4) {f : Addr} {fd : FuncData} (Dl : L2.Fun K "law" "law" st_law f fd) :
    FnOk P w K mg base CX0 18 f fd ["_law_script"] (spLaw K) := by
  have B : Bn mg := ⟨PySem.W.mg_none_of X G n_len, PySem.W.mg_none_of X G n_range, PySem.W.mg_none_of X G n_max, PySem.W.mg_none_of X G n_min, PySem.W.mg_none_of X G n_sum, PySem.W.mg_none_of X G n_sorted, PySem.W.mg_none_of X G n_all, PySem.W.mg_none_of X G n_isinstance, PySem.W.mg_none_of X G n_repr, PySem.W.mg_none_of X G n_tuple, PySem.W.mg_none_of X G n_list, PySem.W.mg_none_of X G n_int, PySem.W.mg_none_of X G n_bool, PySem.W.mg_none_of X G n_zip, PySem.W.mg_none_of X G n_str⟩
  have Cc : Cn mg := ⟨c_FEWEST_STATES.mg X G, c_MOST_STATES.mg X G, c_MOST_IN_A_STATE.mg X G⟩
  have S : ShK K mg CShare := sShare.k fShare (PySem.W.mg_of X G aShare)
  have Cdd : Cd mg := ⟨c_FEWEST_PEOPLE.mg X G, c_MOST_PEOPLE.mg X G⟩
  have SD : DvK K mg CDivision := sDivision.k (PySem.W.mg_of X G aDivision)
  have SPool : PlK K mg "Pool" CPool := sPool.k (PySem.W.mg_of X G aPool)
  have SKept : PlK K mg "Kept" CKept := sKept.k (PySem.W.mg_of X G aKept)
  have SFine : PlK K mg "Fine" CFine := sFine.k (PySem.W.mg_of X G aFine)
  have SKeptFine : PlK K mg "KeptFine" CKeptFine := sKeptFine.k (PySem.W.mg_of X G aKeptFine)
  have e_NoPerson := x_NoPerson.k X G
  have e_NoShare := x_NoShare.k X G
  have e_NoDivision := x_NoDivision.k X G
  have e_NoRing := x_NoRing.k X G
  have hm1 : (P1, qLam "_law_of_pair") ∈ [(P1, qLam "_law_of_pair"), (P2, qLam "_law_of_division"), (P3, qLam "_law_are_wrong"), (P4, qLam "_law_are_right")] := by simp
  have hu1 : ∀ p ∈ [(P1, qLam "_law_of_pair"), (P2, qLam "_law_of_division"), (P3, qLam "_law_are_wrong"), (P4, qLam "_law_are_right")], p.1 = P1 → p.2 = qLam "_law_of_pair" := by
    intro p hp e
    simp only [List.mem_cons, List.not_mem_nil, or_false] at hp
    rcases hp with rfl | rfl | rfl | rfl
    · rfl
    · exact absurd e.symm ne12
    · exact absurd e.symm ne13
    · exact absurd e.symm ne14
  have hm2 : (P2, qLam "_law_of_division") ∈ [(P1, qLam "_law_of_pair"), (P2, qLam "_law_of_division"), (P3, qLam "_law_are_wrong"), (P4, qLam "_law_are_right")] := by simp
  have hu2 : ∀ p ∈ [(P1, qLam "_law_of_pair"), (P2, qLam "_law_of_division"), (P3, qLam "_law_are_wrong"), (P4, qLam "_law_are_right")], p.1 = P2 → p.2 = qLam "_law_of_division" := by
    intro p hp e
    simp only [List.mem_cons, List.not_mem_nil, or_false] at hp
    rcases hp with rfl | rfl | rfl | rfl
    · exact absurd e ne12
    · rfl
    · exact absurd e.symm ne23
    · exact absurd e.symm ne24
  have hm3 : (P3, qLam "_law_are_wrong") ∈ [(P1, qLam "_law_of_pair"), (P2, qLam "_law_of_division"), (P3, qLam "_law_are_wrong"), (P4, qLam "_law_are_right")] := by simp
  have hu3 : ∀ p ∈ [(P1, qLam "_law_of_pair"), (P2, qLam "_law_of_division"), (P3, qLam "_law_are_wrong"), (P4, qLam "_law_are_right")], p.1 = P3 → p.2 = qLam "_law_are_wrong" := by
    intro p hp e
    simp only [List.mem_cons, List.not_mem_nil, or_false] at hp
    rcases hp with rfl | rfl | rfl | rfl
    · exact absurd e ne13
    · exact absurd e ne23
    · rfl
    · exact absurd e.symm ne34
  have hm4 : (P4, qLam "_law_are_right") ∈ [(P1, qLam "_law_of_pair"), (P2, qLam "_law_of_division"), (P3, qLam "_law_are_wrong"), (P4, qLam "_law_are_right")] := by simp
  have hu4 : ∀ p ∈ [(P1, qLam "_law_of_pair"), (P2, qLam "_law_of_division"), (P3, qLam "_law_are_wrong"), (P4, qLam "_law_are_right")], p.1 = P4 → p.2 = qLam "_law_are_right" := by
    intro p hp e
    simp only [List.mem_cons, List.not_mem_nil, or_false] at hp
    rcases hp with rfl | rfl | rfl | rfl
    · exact absurd e ne14
    · exact absurd e ne24
    · exact absurd e ne34
    · rfl
  have c_isi := ok_isi (P := P) (w := w) (base := base) B (d_is_integer.df X G (fun _ _ _ _ _ _ us hl => match us, hl with | [_], _ => rfl))
  have c_isint := ok_isint c_isi (d_is_integer_to.df X G (fun _ _ _ _ _ _ us hl => match us, hl with | [_, _], _ => rfl))
  have c_isam := ok_isam B Cc c_isint (d_is_amounts.df X G (fun _ _ _ _ _ _ us hl => match us, hl with | [_], _ => rfl))
  have m_init := ok_init S c_isam (mShare_init.mh (fun _ _ _ _ _ _ us hl => match us, hl with | [_, _], _ => rfl))
  have p_amounts := ok_pamounts (P := P) (w := w) (base := base) S (pShare_amounts.ph (fun _ _ _ _ _ _ us hl => match us, hl with | [_], _ => rfl))
  have m_len := ok_len (P := P) (w := w) (base := base) B S (mShare_len.mh (fun _ _ _ _ _ _ us hl => match us, hl with | [_], _ => rfl))
  have p_total := ok_total (P := P) (w := w) (base := base) B S (pShare_total.ph (fun _ _ _ _ _ _ us hl => match us, hl with | [_], _ => rfl))
  have m_call := ok_call B S c_isint (mShare_call.mh (fun _ _ _ _ _ _ us hl => match us, hl with | [_, _], _ => rfl))
  have c_pair := ok_pair B S m_len (d_check_pair.df X G (fun _ _ _ _ _ _ us hl => match us, hl with | [_, _], _ => rfl))
  have c_calm := ok_calm B S c_pair m_len p_total m_call (d_is_calm.df X G (fun _ _ _ _ _ _ us hl => match us, hl with | [_, _], _ => rfl))
  have c_calmer := ok_calmer c_calm (d_is_calmer.df X G (fun _ _ _ _ _ _ us hl => match us, hl with | [_, _], _ => rfl))
  have c_rdA := ok_readAmount (P := P) (w := w) (base := base) B SD cvM (d_read_amount.df X G (fun _ _ _ _ _ _ us hl => match us, hl with | [_], _ => rfl))
  have c_rdS := ok_readShare B S m_init c_rdA (d_read_share.df X G (fun _ _ _ _ _ _ us hl => match us, hl with | [_], _ => rfl))
  have m_dinit := ok_dvInit B Cdd SD c_pair mDivision_init
  have c_read := ok_read B SD c_rdS m_dinit cmR
  have p_people := ok_people (P := P) (w := w) (base := base) (CShare:=CShare) B SD (pDivision_people.ph (fun _ _ _ _ _ _ us hl => match us, hl with | [_], _ => rfl))
  have p_states := ok_states B SD m_len (pDivision_states.ph (fun _ _ _ _ _ _ us hl => match us, hl with | [_], _ => rfl))
  have p_totals := ok_totals B S SD p_amounts (pDivision_totals.ph (fun _ _ _ _ _ _ us hl => match us, hl with | [_], _ => rfl))
  have m_item := ok_dvItem (CShare:=CShare) B SD e_NoPerson c_isint (mDivision_getitem.mh (fun _ _ _ _ _ _ us hl => match us, hl with | [_, _], _ => rfl))
  have c_chk := ok_checkD (P := P) (w := w) (base := base) (CShare:=CShare) B SD (d_check_division.df X G (fun _ _ _ _ _ _ us hl => match us, hl with | [_], _ => rfl))
  have c_rise := ok_rise S SD gD.fi p_amounts m_item (d_rise.df X G (fun _ _ _ _ _ _ us hl => match us, hl with | [_, _, _, _], _ => rfl))
  have c_riser := ok_riser c_rise (d_first_riser.df X G (fun _ _ _ _ _ _ us hl => match us, hl with | [_, _, _, _, _], _ => rfl))
  have c_risers := ok_risers B SD p_states c_riser (d_first_risers.df X G (fun _ _ _ _ _ _ us hl => match us, hl with | [_, _, _], _ => rfl))
  have c_steps := ok_steps (P := P) (w := w) (base := base) B (d_steps_around.df X G (fun _ _ _ _ _ _ us hl => match us, hl with | [_], _ => rfl))
  have c_fpeople := ok_people1 B (PySem.W.mg_none_of X G n_enumerate) c_steps (d_first_people.df X G (fun _ _ _ _ _ _ us hl => match us, hl with | [_, _, _], _ => rfl))
  have c_longer := ok_longer B SD p_states (d_longer_chains.df X G (fun _ _ _ _ _ _ us hl => match us, hl with | [_, _, _], _ => rfl))
  have c_first := ok_first B SD p_states c_risers c_fpeople c_longer (d_first_ring.df X G (fun _ _ _ _ _ _ us hl => match us, hl with | [_, _], _ => rfl))
  have c_ring := ok_ring B SD p_people c_chk c_first (d_ring.df X G (fun _ _ _ _ _ _ us hl => match us, hl with | [_], _ => rfl))
  have c_needs := ok_needs B SD p_people p_states c_rise (d_level_needs.df X G (fun _ _ _ _ _ _ us hl => match us, hl with | [_], _ => rfl))
  have c_meets := ok_meets (P := P) (w := w) (base := base) B (d_meets.df X G (fun _ _ _ _ _ _ us hl => match us, hl with | [_, _], _ => rfl))
  have c_lifted := ok_lifted (P := P) (w := w) (base := base) B (PySem.W.mg_none_of X G n_enumerate) (d_lifted.df X G (fun _ _ _ _ _ _ us hl => match us, hl with | [_, _], _ => rfl))
  have c_levels := ok_levels B SD p_states c_chk c_needs c_meets c_lifted (d_levels.df X G (fun _ _ _ _ _ _ us hl => match us, hl with | [_], _ => rfl))
  have c_isp := ok_isPair (P := P) (w := w) (base := base) B (d_is_pair.df X G (fun _ _ _ _ _ _ us hl => match us, hl with | [_], _ => rfl))
  have c_nums := ok_nums B c_isint (d_is_numbers.df X G (fun _ _ _ _ _ _ us hl => match us, hl with | [_, _], _ => rfl))
  have c_showR := ok_showR B (PySem.W.mg_none_of X G n_set) (c_SHORTEST_RING.mg X G) SD p_people p_states c_chk c_isp c_nums c_steps c_rise (d_shows_ring.df X G (fun _ _ _ _ _ _ us hl => match us, hl with | [_, _], _ => rfl))
  have c_opp := ok_opp B SD p_people p_states c_rise (d_opposites.df X G (fun _ _ _ _ _ _ us hl => match us, hl with | [_], _ => rfl))
  have c_byT := ok_byT B (PySem.W.mg_none_of X G n_enumerate) SD p_totals (d_by_totals.df X G (fun _ _ _ _ _ _ us hl => match us, hl with | [_], _ => rfl))
  have c_order := ok_order B c_chk c_opp c_byT (d_order.df X G (fun _ _ _ _ _ _ us hl => match us, hl with | [_], _ => rfl))
  have c_orderly := ok_orderlyP c_order (d_is_orderly.df X G (fun _ _ _ _ _ _ us hl => match us, hl with | [_], _ => rfl))
  have c_asc := ok_asc B S p_amounts (d_ascending.df X G (fun _ _ _ _ _ _ us hl => match us, hl with | [_], _ => rfl))
  have c_moved := ok_moved (P := P) (w := w) (base := base) B (d_moved.df X G (fun _ _ _ _ _ _ us hl => match us, hl with | [_, _, _], _ => rfl))
  have c_toward := ok_toward B c_moved (d_step_towards.df X G (fun _ _ _ _ _ _ us hl => match us, hl with | [_, _], _ => rfl))
  have c_between := ok_between B c_toward (d_steps_between.df X G (fun _ _ _ _ _ _ us hl => match us, hl with | [_, _], _ => rfl))
  have c_isgap := ok_isgap B S m_len p_total m_call (d_is_gap.df X G (fun _ _ _ _ _ _ us hl => match us, hl with | [_, _, _], _ => rfl))
  have c_gap := ok_gap B S m_len c_isgap (d_smallest_gap.df X G (fun _ _ _ _ _ _ us hl => match us, hl with | [_, _], _ => rfl))
  have c_path := ok_path S c_calm c_asc c_between c_gap (d_path.df X G (fun _ _ _ _ _ _ us hl => match us, hl with | [_, _], _ => rfl))
  have c_verdict := ok_verdict c_ring c_levels (d_verdict.df X G (fun _ _ _ _ _ _ us hl => match us, hl with | [_], _ => rfl))
  have c_showV := ok_showV B SD p_states c_chk c_isi c_needs c_meets (d_shows_levels.df X G (fun _ _ _ _ _ _ us hl => match us, hl with | [_, _], _ => rfl))
  have c_showVA := ok_showVA B c_chk c_isp c_showR c_showV (d_shows_verdict.df X G (fun _ _ _ _ _ _ us hl => match us, hl with | [_, _], _ => rfl))
  have p_shares := ok_pshares (P := P) (w := w) (base := base) SD (pDivision_shares.ph (fun _ _ _ _ _ _ us hl => match us, hl with | [_], _ => rfl))
  have c_exch := ok_exch B S SD p_amounts p_shares m_init m_dinit c_showR c_steps (d_exchanged.df X G (fun _ _ _ _ _ _ us hl => match us, hl with | [_, _], _ => rfl))
  have c_settle := ok_settle c_ring c_exch (d_settle.df X G (fun _ _ _ _ _ _ us hl => match us, hl with | [_], _ => rfl))
  have cL_settle := ok_settleL c_ring c_exch (d_settle.df X G (fun _ _ _ _ _ _ us hl => match us, hl with | [_], _ => rfl))
  have c_settled := ok_settled c_settle c_exch (d_settled.df X G (fun _ _ _ _ _ _ us hl => match us, hl with | [_], _ => rfl))
  have c_cell := ok_cell (P := P) (w := w) (base := base) B (d_l_cell.df X G (fun _ _ _ _ _ _ us hl => match us, hl with | [_, _], _ => rfl))
  have c_source := ok_source (P := P) (w := w) (base := base) B (d_l_source.df X G (fun _ _ _ _ _ _ us hl => match us, hl with | [_], _ => rfl))
  have c_draw := ok_draw (P := P) (w := w) (base := base) (d_l_draw.df X G (fun _ _ _ _ _ _ us hl => match us, hl with | [_, _], _ => rfl))
  have c_choose := ok_choose B c_draw (d_l_choose.df X G (fun _ _ _ _ _ _ us hl => match us, hl with | [_, _], _ => rfl))
  have c_amounts := ok_amounts B c_draw c_choose (d_l_amounts.df X G (fun _ _ _ _ _ _ us hl => match us, hl with | [_, _], _ => rfl))
  have c_mixed := ok_mixed B c_draw (d_l_mixed.df X G (fun _ _ _ _ _ _ us hl => match us, hl with | [_, _], _ => rfl))
  have c_rows := ok_rows B c_draw c_amounts c_mixed (d_l_rows.df X G (fun _ _ _ _ _ _ us hl => match us, hl with | [_, _], _ => rfl))
  have c_text := ok_ltext (P := P) (w := w) (base := base) B (d_l_text.df X G (fun _ _ _ _ _ _ us hl => match us, hl with | [_], _ => rfl))
  have c_checkN := ok_checkN (P := P) (w := w) (base := base) SD e_NoDivision B (d_check_division.df X G (fun _ _ _ _ _ _ us hl => match us, hl with | [_], _ => rfl))
  have c_ringN := ok_ringN c_checkN (d_ring.df X G (fun _ _ _ _ _ _ us hl => match us, hl with | [_], _ => rfl))
  have c_levelsN := ok_levelsN c_checkN (d_levels.df X G (fun _ _ _ _ _ _ us hl => match us, hl with | [_], _ => rfl))
  have c_showRN := ok_showRN c_checkN (d_shows_ring.df X G (fun _ _ _ _ _ _ us hl => match us, hl with | [_, _], _ => rfl))
  have c_showLN := ok_showLN c_checkN (d_shows_levels.df X G (fun _ _ _ _ _ _ us hl => match us, hl with | [_, _], _ => rfl))
  have c_showVN := ok_showVN c_checkN (d_shows_verdict.df X G (fun _ _ _ _ _ _ us hl => match us, hl with | [_, _], _ => rfl))
  have c_verdictN := ok_verdictN c_ringN (d_verdict.df X G (fun _ _ _ _ _ _ us hl => match us, hl with | [_], _ => rfl))
  have c_exchN := ok_exchN c_showRN (d_exchanged.df X G (fun _ _ _ _ _ _ us hl => match us, hl with | [_, _], _ => rfl))
  have cL_settleN := ok_settleN hS c_ringN (d_settle.df X G (fun _ _ _ _ _ _ us hl => match us, hl with | [_], _ => rfl))
  have c_settleB := ok_settleB c_ringN (d_settle.df X G (fun _ _ _ _ _ _ us hl => match us, hl with | [_], _ => rfl))
  have c_settledN := ok_settledN hS c_settleB (d_settled.df X G (fun _ _ _ _ _ _ us hl => match us, hl with | [_], _ => rfl))
  have c_exchT := ok_exchT e_NoRing c_showR (d_exchanged.df X G (fun _ _ _ _ _ _ us hl => match us, hl with | [_, _], _ => rfl))
  have O := OcH.mk e_NoShare e_NoDivision e_NoRing e_NoPerson o21 o31 o32 o41 o42 o43
  have c_pairP := ok_pairP B S e_NoShare m_len (d_check_pair.df X G (fun _ _ _ _ _ _ us hl => match us, hl with | [_, _], _ => rfl))
  have c_calmP := ok_calmP c_pairP (d_is_calm.df X G (fun _ _ _ _ _ _ us hl => match us, hl with | [_, _], _ => rfl))
  have c_calmerP := ok_calmerP c_calmP (d_is_calmer.df X G (fun _ _ _ _ _ _ us hl => match us, hl with | [_, _], _ => rfl))
  have c_pathP := ok_pathP c_calmP (d_path.df X G (fun _ _ _ _ _ _ us hl => match us, hl with | [_, _], _ => rfl))
  have c_showsP := ok_showsP c_pairP (d_shows_path.df X G (fun _ _ _ _ _ _ us hl => match us, hl with | [_, _, _], _ => rfl))
  have c_shows0 := ok_shows0 c_pair c_isp (d_shows_path.df X G (fun _ _ _ _ _ _ us hl => match us, hl with | [_, _, _], _ => rfl))
  have c_orderN := ok_orderN c_checkN (d_order.df X G (fun _ _ _ _ _ _ us hl => match us, hl with | [_], _ => rfl))
  have c_orderlyN := ok_orderlyN c_orderN (d_is_orderly.df X G (fun _ _ _ _ _ _ us hl => match us, hl with | [_], _ => rfl))
  have c_chkX := ok_checkX (P := P) (w := w) (base := base) (CShare:=CShare) SD e_NoDivision B (d_check_division.df X G (fun _ _ _ _ _ _ us hl => match us, hl with | [_], _ => rfl))
  have n_super := PySem.W.mg_none_of X G subKept_Kept.su
  have kP := mk_pool SPool c_chkX (mPool_init.mh (fun _ _ _ _ _ _ us hl => match us, hl with | [_, _], _ => rfl))
  have supK := sup_pool SKept c_chkX (uKept_Kept_init.sh (fun _ _ _ _ _ _ us hl => match us, hl with | [_, _], _ => rfl))
  have kK := mk_kept e_NoPerson B spP subKept_Kept n_super SD SKept supK c_isint p_people dKept_Kept_init
  have supFi := sup_pool SFine c_chkX (uFine_Fine_init.sh (fun _ _ _ _ _ _ us hl => match us, hl with | [_, _], _ => rfl))
  have kF := mk_fine spP subFine_Fine n_super supFi wFine_Fine_init
  have supA := sup_pool SKeptFine c_chkX (uKeptFine_Fine_init.sh (fun _ _ _ _ _ _ us hl => match us, hl with | [_, _], _ => rfl))
  have supB := sup_fine spP subKeptFine_Fine n_super supA w2KeptFine_Kept_Fine_init
  have supC := sup_kept e_NoPerson B spP subKeptFine_Kept n_super SD SKeptFine supB c_isint p_people d2KeptFine_KeptFine_Kept_init
  have kKF := mk_keptFine spP subKeptFine_KeptFine n_super SKeptFine supC dKeptFine_KeptFine_init
  have c_ref := ok_ref (P := P) (w := w) (base := base) B (d_l_are_refused.df X G (fun _ _ _ _ _ _ us hl => match us, hl with | [_, _], _ => rfl))
  have c_pairW := ok_ofPairW (T := [(P1, qLam "_law_of_pair"), (P2, qLam "_law_of_division"), (P3, qLam "_law_are_wrong"), (P4, qLam "_law_are_right")]) kt7S SD oDS O c_calmP c_calmerP c_pathP c_showsP (d_l_outcome.df X G (fun _ _ _ _ _ _ us hl => match us, hl with | [_], _ => rfl)) TB1 hm1 hu1 (d_l_of_pair.dfT X G (fun _ _ _ _ _ _ us hl => match us, hl with | [_, _], _ => rfl) h1)
  have c_pairR := ok_ofPairR (T := [(P1, qLam "_law_of_pair"), (P2, qLam "_law_of_division"), (P3, qLam "_law_are_wrong"), (P4, qLam "_law_are_right")]) O c_calm c_calmer c_path c_shows0 (d_l_outcome.df X G (fun _ _ _ _ _ _ us hl => match us, hl with | [_], _ => rfl)) TB1 hm1 hu1 (d_l_of_pair.dfT X G (fun _ _ _ _ _ _ us hl => match us, hl with | [_, _], _ => rfl) h1)
  have c_divW := ok_ofDivW (T := [(P1, qLam "_law_of_pair"), (P2, qLam "_law_of_division"), (P3, qLam "_law_are_wrong"), (P4, qLam "_law_are_right")]) B kt7 S oSD hS O SPool SFine c_ringN c_showRN c_levelsN c_showLN c_verdictN c_showVN cL_settleN c_settledN c_orderN c_orderlyN kP kF (d_l_outcome.df X G (fun _ _ _ _ _ _ us hl => match us, hl with | [_], _ => rfl)) TB2 hm2 hu2 (d_l_of_division.dfT X G (fun _ _ _ _ _ _ us hl => match us, hl with | [_, _], _ => rfl) h2)
  have c_divR := ok_ofDivR (T := [(P1, qLam "_law_of_pair"), (P2, qLam "_law_of_division"), (P3, qLam "_law_are_wrong"), (P4, qLam "_law_are_right")]) B O SPool SFine c_ring c_showR c_levels c_showV c_verdict c_showVA cL_settle c_settled c_order c_orderly kP kF (d_l_outcome.df X G (fun _ _ _ _ _ _ us hl => match us, hl with | [_], _ => rfl)) TB2 hm2 hu2 (d_l_of_division.dfT X G (fun _ _ _ _ _ _ us hl => match us, hl with | [_, _], _ => rfl) h2)
  have c_wrong := ok_wrong (T := [(P1, qLam "_law_of_pair"), (P2, qLam "_law_of_division"), (P3, qLam "_law_are_wrong"), (P4, qLam "_law_are_right")]) B kt7 S SD oSD O SKept SKeptFine m_init m_dinit c_pairW c_divW c_ref c_exchN kK kKF (d_l_outcome.df X G (fun _ _ _ _ _ _ us hl => match us, hl with | [_], _ => rfl)) TB3 hm3 hu3 (d_l_are_wrong.dfT X G (fun _ _ _ _ _ _ us hl => match us, hl with | [_], _ => rfl) h3)
  have c_right := ok_right (T := [(P1, qLam "_law_of_pair"), (P2, qLam "_law_of_division"), (P3, qLam "_law_are_wrong"), (P4, qLam "_law_are_right")]) B S SD O SKept SKeptFine m_init c_read p_people c_rows c_text c_pairW c_pairR c_divR c_ref c_exchT kK kKF (d_l_outcome.df X G (fun _ _ _ _ _ _ us hl => match us, hl with | [_], _ => rfl)) TB4 hm4 hu4 (d_l_are_right.dfT X G (fun _ _ _ _ _ _ us hl => match us, hl with | [_], _ => rfl) h4)
  have hT0 := tabs4 h1 h2 h3 h4
  exact ok_law B hT0 c_cell c_source c_right c_wrong Dl
end Pl
namespace Pl
open PySem PySem.W PySem.Calls PyProof.Rows HandSHeadRun
abbrev RH : OpenRow := OpenLaw.row PySem.Challenge.rw_poolshares_k11_wrong_arguments
abbrev qH : Program := view RH.prog [91, 92, 94, 95, 96]
def lsH0 : List PySem.Str := ["_wall", "is_integer", "is_integer_to", "is_pair", "PoolError", "NoAmounts", "NoState", "NoNumber", "NoShare", "NoPeople", "NoPerson", "NoText", "NoDivision", "NoRing", "NothingBetter", "FEWEST_STATES", "MOST_STATES", "MOST_IN_A_STATE", "Share", "is_amounts"]
def lsH1 : List PySem.Str := ["spaced", "check_pair", "is_calm", "is_calmer", "FEWEST_PEOPLE", "MOST_PEOPLE", "Division", "check_division", "read_share", "read_amount", "SHORTEST_RING", "ring", "shows_ring", "exchanged", "levels", "shows_levels", "verdict", "shows_verdict", "rise", "is_numbers"]
def lsH2 : List PySem.Str := ["steps_around", "first_ring", "first_risers", "first_riser", "longer_chains", "first_people", "level_needs", "meets", "lifted", "order", "is_orderly", "opposites", "by_totals", "path", "shows_path", "ascending", "moved", "steps_between", "step_towards", "is_gap"]
def lsH3 : List PySem.Str := ["smallest_gap", "is_steps", "is_move", "Pool", "Kept", "Fine", "KeptFine", "check_alike", "is_worth_doubling", "settle", "settled", "_law_cell", "_law_source", "_law_draw", "_law_choose", "_law_is_equal", "_law_amounts", "_law_mixed", "_law_rows", "_law_text"]
def lsH4 : List PySem.Str := ["_law_outcome", "_law_are_refused"]
def lsH : List PySem.Str := lsH0 ++ lsH1 ++ lsH2 ++ lsH3 ++ lsH4
end Pl
set_option hygiene false in
local macro_rules
  | `(tactic| o_head $H:term) => `(tactic| refine Pl.head_km (r := Pl.RH) (q := Pl.qH) (M := 12000) (loose := Pl.lsH) (d := HandSHeadRun.topDef Pl.RH.prog 96) (kwd := []) $H rfl (by kernel_rfl) (fun s => by kernel_rfl) (fun w os => by kernel_rfl) (by kernel_rfl) (by kernel_rfl) (by kernel_rfl) (by rfl) (by first | assumption | decide +kernel) (by decide +kernel) ⟨rfl, rfl, rfl, rfl, rfl, by decide +kernel⟩ ?hw ?hc)
open PySem PySem.W PyProof.Rows in
set_option maxRecDepth 100000 in
set_option maxHeartbeats 0 in
theorem PySem.Challenge.cw_poolshares_k11_wrong_arguments_holds : PySem.Challenge.rw_poolshares_k11_wrong_arguments.Holds := by
  w_on; o_law; k_head; (case hw => w_witness2)
  k_fill
  refine Pl.walkT2 (l := PySem.Challenge.rw_poolshares_k11_wrong_arguments) (n := 63) (k := 18) (x := "_law_script") (sp := Pl.spLaw) (st := Pl.st_law) ([("_law_of_pair" : PySem.Str), "_law_of_division", "_law_are_wrong", "_law_are_right"]) rfl (by decide) (by kernel_rfl) ⟨rfl, by decide, by decide⟩ (fun w h Y => PySem.W.km_in_of Y) ?R ?T ?nt ?dis (by kernel_rfl) ?D (fun _ _ _ _ _ _ us hl => match us, hl with | [_], _ => rfl) ?F (fun K H a ns hl hT hS => ⟨a, ns, rfl, hS, hl, hT, fun _ => rfl⟩)
  case R =>
    intro y hy
    simp only [List.mem_cons, List.not_mem_nil, or_false] at hy
    rcases hy with rfl | rfl | rfl | rfl <;> kernel_rfl
  case T =>
    intro w y hy
    simp only [List.mem_cons, List.not_mem_nil, or_false] at hy
    rcases hy with rfl | rfl | rfl | rfl <;> kernel_rfl
  case nt => exact fun w => by kernel_rfl
  case dis => exact fun w => by kernel_rfl
  case D =>
    intro w
    refine' Pl.DfK.of ?a ?l ?c ?k; (case a => as_aux_lemma => k_is); (case l => as_aux_lemma => k_is); (case c => as_aux_lemma => k_is); (case k => as_aux_lemma => k_is)
  case F =>
    intro w mg h KX G base kb nb tb ne f fd Df
    obtain ⟨c1, P1, h1, TB1⟩ := tb "_law_of_pair" (by simp)
    obtain ⟨c2, P2, h2, TB2⟩ := tb "_law_of_division" (by simp)
    obtain ⟨c3, P3, h3, TB3⟩ := tb "_law_are_wrong" (by simp)
    obtain ⟨c4, P4, h4, TB4⟩ := tb "_law_are_right" (by simp)
    have ne12 := ne "_law_of_pair" (by simp) "_law_of_division" (by simp) (by decide) _ _ _ _ h1 h2
    have ne13 := ne "_law_of_pair" (by simp) "_law_are_wrong" (by simp) (by decide) _ _ _ _ h1 h3
    have ne14 := ne "_law_of_pair" (by simp) "_law_are_right" (by simp) (by decide) _ _ _ _ h1 h4
    have ne23 := ne "_law_of_division" (by simp) "_law_are_wrong" (by simp) (by decide) _ _ _ _ h2 h3
    have ne24 := ne "_law_of_division" (by simp) "_law_are_right" (by simp) (by decide) _ _ _ _ h2 h4
    have ne34 := ne "_law_are_wrong" (by simp) "_law_are_right" (by simp) (by decide) _ _ _ _ h3 h4
    refine' Pl.all_ok KX G ?aShare ?sShare ?fShare ?mShare_init ?mShare_len ?mShare_call ?aDivision ?sDivision ?mDivision_init ?mDivision_getitem ?pShare_amounts ?pShare_total ?pDivision_shares ?pDivision_people ?pDivision_states ?pDivision_totals ?d_is_integer ?d_is_integer_to ?d_is_pair ?d_is_amounts ?d_check_pair ?d_is_calm ?d_is_calmer ?d_check_division ?d_read_share ?d_read_amount ?d_ring ?d_shows_ring ?d_exchanged ?d_levels ?d_shows_levels ?d_verdict ?d_shows_verdict ?d_rise ?d_is_numbers ?d_steps_around ?d_first_ring ?d_first_risers ?d_first_riser ?d_longer_chains ?d_first_people ?d_level_needs ?d_meets ?d_lifted ?d_order ?d_is_orderly ?d_opposites ?d_by_totals ?d_path ?d_shows_path ?d_ascending ?d_moved ?d_steps_between ?d_step_towards ?d_is_gap ?d_smallest_gap ?d_settle ?d_settled ?d_l_cell ?d_l_source ?d_l_draw ?d_l_choose ?d_l_amounts ?d_l_mixed ?d_l_rows ?d_l_text ?d_l_outcome ?d_l_of_pair ?d_l_of_division ?d_l_are_refused ?d_l_are_wrong ?d_l_are_right ?n_len ?n_range ?n_max ?n_min ?n_sum ?n_sorted ?n_all ?n_isinstance ?n_repr ?n_tuple ?n_list ?n_int ?n_bool ?n_zip ?n_str ?n_enumerate ?n_set ?c_FEWEST_STATES ?c_MOST_STATES ?c_MOST_IN_A_STATE ?c_FEWEST_PEOPLE ?c_MOST_PEOPLE ?c_SHORTEST_RING ?x_NoPerson ?x_NoShare ?x_NoDivision ?x_NoRing ?cmR ?cvM ?gD ?kt7 ?kt7S ?oSD ?oDS ?hS ?o21 ?o31 ?o32 ?o41 ?o42 ?o43 ?aPool ?sPool ?mPool_init ?aKept ?sKept ?aFine ?sFine ?aKeptFine ?sKeptFine ?uKept_Kept_init ?uFine_Fine_init ?uKeptFine_Fine_init ?subKept_Kept ?subFine_Fine ?subKeptFine_KeptFine ?subKeptFine_Kept ?subKeptFine_Fine ?wFine_Fine_init ?w2KeptFine_Kept_Fine_init ?dKept_Kept_init ?dKeptFine_KeptFine_init ?d2KeptFine_KeptFine_Kept_init ?spP h1 h2 h3 h4 TB1 TB2 TB3 TB4 ne12 ne13 ne14 ne23 ne24 ne34 Df
    (case aShare => as_aux_lemma => k_is)
    (case sShare => refine' ⟨?pg, ?hd, ?po, ?sa, ?nB, ?mks, ?kc, ?ca, ?cg, ?ct, ?mro, ?kit⟩; (case pg => as_aux_lemma => k_is); (case hd => as_aux_lemma => k_is); (case po => as_aux_lemma => k_is); (case sa => as_aux_lemma => k_is); (case nB => as_aux_lemma => k_is); (case mks => as_aux_lemma => k_is); (case kc => as_aux_lemma => k_is); (case ca => as_aux_lemma => k_is); (case cg => as_aux_lemma => k_is); (case ct => as_aux_lemma => k_is); (case mro => as_aux_lemma => k_is); (case kit => as_aux_lemma => first | rfl | k_is))
    (case fShare => refine' Pl.CallF.of ?a ?i; (case a => as_aux_lemma => k_is); (case i => as_aux_lemma => k_is))
    (case mShare_init => refine' Pl.MhK.of ?a ?i ?l ?c ?k; (case a => as_aux_lemma => k_is); (case i => as_aux_lemma => k_is); (case l => as_aux_lemma => k_is); (case c => as_aux_lemma => k_is); (case k => as_aux_lemma => k_is))
    (case mShare_len => refine' Pl.MhK.of ?a ?i ?l ?c ?k; (case a => as_aux_lemma => k_is); (case i => as_aux_lemma => k_is); (case l => as_aux_lemma => k_is); (case c => as_aux_lemma => k_is); (case k => as_aux_lemma => k_is))
    (case mShare_call => refine' Pl.MhK.of ?a ?i ?l ?c ?k; (case a => as_aux_lemma => k_is); (case i => as_aux_lemma => k_is); (case l => as_aux_lemma => k_is); (case c => as_aux_lemma => k_is); (case k => as_aux_lemma => k_is))
    (case aDivision => as_aux_lemma => k_is)
    (case sDivision => refine' ⟨?pg, ?hd, ?po, ?sa, ?nP, ?mks, ?kc, ?ca, ?cg, ?ct, ?mro, ?kit⟩; (case pg => as_aux_lemma => k_is); (case hd => as_aux_lemma => k_is); (case po => as_aux_lemma => k_is); (case sa => as_aux_lemma => k_is); (case nP => as_aux_lemma => k_is); (case mks => as_aux_lemma => k_is); (case kc => as_aux_lemma => k_is); (case ca => as_aux_lemma => k_is); (case cg => as_aux_lemma => k_is); (case ct => as_aux_lemma => k_is); (case mro => as_aux_lemma => k_is); (case kit => as_aux_lemma => first | rfl | k_is))
    (case mDivision_init => refine' Pl.MhK.of ?a ?i ?l ?c ?k; (case a => as_aux_lemma => k_is); (case i => as_aux_lemma => k_is); (case l => as_aux_lemma => k_is); (case c => as_aux_lemma => k_is); (case k => as_aux_lemma => k_is))
    (case mDivision_getitem => refine' Pl.MhK.of ?a ?i ?l ?c ?k; (case a => as_aux_lemma => k_is); (case i => as_aux_lemma => k_is); (case l => as_aux_lemma => k_is); (case c => as_aux_lemma => k_is); (case k => as_aux_lemma => k_is))
    (case pShare_amounts => refine' Pl.PhK.of ?a ?g ?t ?r ?l ?c ?k; (case a => as_aux_lemma => k_is); (case g => as_aux_lemma => k_is); (case t => as_aux_lemma => k_is); (case r => as_aux_lemma => k_is); (case l => as_aux_lemma => k_is); (case c => as_aux_lemma => k_is); (case k => as_aux_lemma => k_is))
    (case pShare_total => refine' Pl.PhK.of ?a ?g ?t ?r ?l ?c ?k; (case a => as_aux_lemma => k_is); (case g => as_aux_lemma => k_is); (case t => as_aux_lemma => k_is); (case r => as_aux_lemma => k_is); (case l => as_aux_lemma => k_is); (case c => as_aux_lemma => k_is); (case k => as_aux_lemma => k_is))
    (case pDivision_shares => refine' Pl.PhK.of ?a ?g ?t ?r ?l ?c ?k; (case a => as_aux_lemma => k_is); (case g => as_aux_lemma => k_is); (case t => as_aux_lemma => k_is); (case r => as_aux_lemma => k_is); (case l => as_aux_lemma => k_is); (case c => as_aux_lemma => k_is); (case k => as_aux_lemma => k_is))
    (case pDivision_people => refine' Pl.PhK.of ?a ?g ?t ?r ?l ?c ?k; (case a => as_aux_lemma => k_is); (case g => as_aux_lemma => k_is); (case t => as_aux_lemma => k_is); (case r => as_aux_lemma => k_is); (case l => as_aux_lemma => k_is); (case c => as_aux_lemma => k_is); (case k => as_aux_lemma => k_is))
    (case pDivision_states => refine' Pl.PhK.of ?a ?g ?t ?r ?l ?c ?k; (case a => as_aux_lemma => k_is); (case g => as_aux_lemma => k_is); (case t => as_aux_lemma => k_is); (case r => as_aux_lemma => k_is); (case l => as_aux_lemma => k_is); (case c => as_aux_lemma => k_is); (case k => as_aux_lemma => k_is))
    (case pDivision_totals => refine' Pl.PhK.of ?a ?g ?t ?r ?l ?c ?k; (case a => as_aux_lemma => k_is); (case g => as_aux_lemma => k_is); (case t => as_aux_lemma => k_is); (case r => as_aux_lemma => k_is); (case l => as_aux_lemma => k_is); (case c => as_aux_lemma => k_is); (case k => as_aux_lemma => k_is))
    (case d_is_integer => refine' Pl.DfK.of ?a ?l ?c ?k; (case a => as_aux_lemma => k_is); (case l => as_aux_lemma => k_is); (case c => as_aux_lemma => k_is); (case k => as_aux_lemma => k_is))
    (case d_is_integer_to => refine' Pl.DfK.of ?a ?l ?c ?k; (case a => as_aux_lemma => k_is); (case l => as_aux_lemma => k_is); (case c => as_aux_lemma => k_is); (case k => as_aux_lemma => k_is))
    (case d_is_pair => refine' Pl.DfK.of ?a ?l ?c ?k; (case a => as_aux_lemma => k_is); (case l => as_aux_lemma => k_is); (case c => as_aux_lemma => k_is); (case k => as_aux_lemma => k_is))
    (case d_is_amounts => refine' Pl.DfK.of ?a ?l ?c ?k; (case a => as_aux_lemma => k_is); (case l => as_aux_lemma => k_is); (case c => as_aux_lemma => k_is); (case k => as_aux_lemma => k_is))
    (case d_check_pair => refine' Pl.DfK.of ?a ?l ?c ?k; (case a => as_aux_lemma => k_is); (case l => as_aux_lemma => k_is); (case c => as_aux_lemma => k_is); (case k => as_aux_lemma => k_is))
    (case d_is_calm => refine' Pl.DfK.of ?a ?l ?c ?k; (case a => as_aux_lemma => k_is); (case l => as_aux_lemma => k_is); (case c => as_aux_lemma => k_is); (case k => as_aux_lemma => k_is))
    (case d_is_calmer => refine' Pl.DfK.of ?a ?l ?c ?k; (case a => as_aux_lemma => k_is); (case l => as_aux_lemma => k_is); (case c => as_aux_lemma => k_is); (case k => as_aux_lemma => k_is))
    (case d_check_division => refine' Pl.DfK.of ?a ?l ?c ?k; (case a => as_aux_lemma => k_is); (case l => as_aux_lemma => k_is); (case c => as_aux_lemma => k_is); (case k => as_aux_lemma => k_is))
    (case d_read_share => refine' Pl.DfK.of ?a ?l ?c ?k; (case a => as_aux_lemma => k_is); (case l => as_aux_lemma => k_is); (case c => as_aux_lemma => k_is); (case k => as_aux_lemma => k_is))
    (case d_read_amount => refine' Pl.DfK.of ?a ?l ?c ?k; (case a => as_aux_lemma => k_is); (case l => as_aux_lemma => k_is); (case c => as_aux_lemma => k_is); (case k => as_aux_lemma => k_is))
    (case d_ring => refine' Pl.DfK.of ?a ?l ?c ?k; (case a => as_aux_lemma => k_is); (case l => as_aux_lemma => k_is); (case c => as_aux_lemma => k_is); (case k => as_aux_lemma => k_is))
    (case d_shows_ring => refine' Pl.DfK.of ?a ?l ?c ?k; (case a => as_aux_lemma => k_is); (case l => as_aux_lemma => k_is); (case c => as_aux_lemma => k_is); (case k => as_aux_lemma => k_is))
    (case d_exchanged => refine' Pl.DfK.of ?a ?l ?c ?k; (case a => as_aux_lemma => k_is); (case l => as_aux_lemma => k_is); (case c => as_aux_lemma => k_is); (case k => as_aux_lemma => k_is))
    (case d_levels => refine' Pl.DfK.of ?a ?l ?c ?k; (case a => as_aux_lemma => k_is); (case l => as_aux_lemma => k_is); (case c => as_aux_lemma => k_is); (case k => as_aux_lemma => k_is))
    (case d_shows_levels => refine' Pl.DfK.of ?a ?l ?c ?k; (case a => as_aux_lemma => k_is); (case l => as_aux_lemma => k_is); (case c => as_aux_lemma => k_is); (case k => as_aux_lemma => k_is))
    (case d_verdict => refine' Pl.DfK.of ?a ?l ?c ?k; (case a => as_aux_lemma => k_is); (case l => as_aux_lemma => k_is); (case c => as_aux_lemma => k_is); (case k => as_aux_lemma => k_is))
    (case d_shows_verdict => refine' Pl.DfK.of ?a ?l ?c ?k; (case a => as_aux_lemma => k_is); (case l => as_aux_lemma => k_is); (case c => as_aux_lemma => k_is); (case k => as_aux_lemma => k_is))
    (case d_rise => refine' Pl.DfK.of ?a ?l ?c ?k; (case a => as_aux_lemma => k_is); (case l => as_aux_lemma => k_is); (case c => as_aux_lemma => k_is); (case k => as_aux_lemma => k_is))
    (case d_is_numbers => refine' Pl.DfK.of ?a ?l ?c ?k; (case a => as_aux_lemma => k_is); (case l => as_aux_lemma => k_is); (case c => as_aux_lemma => k_is); (case k => as_aux_lemma => k_is))
    (case d_steps_around => refine' Pl.DfK.of ?a ?l ?c ?k; (case a => as_aux_lemma => k_is); (case l => as_aux_lemma => k_is); (case c => as_aux_lemma => k_is); (case k => as_aux_lemma => k_is))
    (case d_first_ring => refine' Pl.DfK.of ?a ?l ?c ?k; (case a => as_aux_lemma => k_is); (case l => as_aux_lemma => k_is); (case c => as_aux_lemma => k_is); (case k => as_aux_lemma => k_is))
    (case d_first_risers => refine' Pl.DfK.of ?a ?l ?c ?k; (case a => as_aux_lemma => k_is); (case l => as_aux_lemma => k_is); (case c => as_aux_lemma => k_is); (case k => as_aux_lemma => k_is))
    (case d_first_riser => refine' Pl.DfK.of ?a ?l ?c ?k; (case a => as_aux_lemma => k_is); (case l => as_aux_lemma => k_is); (case c => as_aux_lemma => k_is); (case k => as_aux_lemma => k_is))
    (case d_longer_chains => refine' Pl.DfK.of ?a ?l ?c ?k; (case a => as_aux_lemma => k_is); (case l => as_aux_lemma => k_is); (case c => as_aux_lemma => k_is); (case k => as_aux_lemma => k_is))
    (case d_first_people => refine' Pl.DfK.of ?a ?l ?c ?k; (case a => as_aux_lemma => k_is); (case l => as_aux_lemma => k_is); (case c => as_aux_lemma => k_is); (case k => as_aux_lemma => k_is))
    (case d_level_needs => refine' Pl.DfK.of ?a ?l ?c ?k; (case a => as_aux_lemma => k_is); (case l => as_aux_lemma => k_is); (case c => as_aux_lemma => k_is); (case k => as_aux_lemma => k_is))
    (case d_meets => refine' Pl.DfK.of ?a ?l ?c ?k; (case a => as_aux_lemma => k_is); (case l => as_aux_lemma => k_is); (case c => as_aux_lemma => k_is); (case k => as_aux_lemma => k_is))
    (case d_lifted => refine' Pl.DfK.of ?a ?l ?c ?k; (case a => as_aux_lemma => k_is); (case l => as_aux_lemma => k_is); (case c => as_aux_lemma => k_is); (case k => as_aux_lemma => k_is))
    (case d_order => refine' Pl.DfK.of ?a ?l ?c ?k; (case a => as_aux_lemma => k_is); (case l => as_aux_lemma => k_is); (case c => as_aux_lemma => k_is); (case k => as_aux_lemma => k_is))
    (case d_is_orderly => refine' Pl.DfK.of ?a ?l ?c ?k; (case a => as_aux_lemma => k_is); (case l => as_aux_lemma => k_is); (case c => as_aux_lemma => k_is); (case k => as_aux_lemma => k_is))
    (case d_opposites => refine' Pl.DfK.of ?a ?l ?c ?k; (case a => as_aux_lemma => k_is); (case l => as_aux_lemma => k_is); (case c => as_aux_lemma => k_is); (case k => as_aux_lemma => k_is))
    (case d_by_totals => refine' Pl.DfK.of ?a ?l ?c ?k; (case a => as_aux_lemma => k_is); (case l => as_aux_lemma => k_is); (case c => as_aux_lemma => k_is); (case k => as_aux_lemma => k_is))
    (case d_path => refine' Pl.DfK.of ?a ?l ?c ?k; (case a => as_aux_lemma => k_is); (case l => as_aux_lemma => k_is); (case c => as_aux_lemma => k_is); (case k => as_aux_lemma => k_is))
    (case d_shows_path => refine' Pl.DfK.of ?a ?l ?c ?k; (case a => as_aux_lemma => k_is); (case l => as_aux_lemma => k_is); (case c => as_aux_lemma => k_is); (case k => as_aux_lemma => k_is))
    (case d_ascending => refine' Pl.DfK.of ?a ?l ?c ?k; (case a => as_aux_lemma => k_is); (case l => as_aux_lemma => k_is); (case c => as_aux_lemma => k_is); (case k => as_aux_lemma => k_is))
    (case d_moved => refine' Pl.DfK.of ?a ?l ?c ?k; (case a => as_aux_lemma => k_is); (case l => as_aux_lemma => k_is); (case c => as_aux_lemma => k_is); (case k => as_aux_lemma => k_is))
    (case d_steps_between => refine' Pl.DfK.of ?a ?l ?c ?k; (case a => as_aux_lemma => k_is); (case l => as_aux_lemma => k_is); (case c => as_aux_lemma => k_is); (case k => as_aux_lemma => k_is))
    (case d_step_towards => refine' Pl.DfK.of ?a ?l ?c ?k; (case a => as_aux_lemma => k_is); (case l => as_aux_lemma => k_is); (case c => as_aux_lemma => k_is); (case k => as_aux_lemma => k_is))
    (case d_is_gap => refine' Pl.DfK.of ?a ?l ?c ?k; (case a => as_aux_lemma => k_is); (case l => as_aux_lemma => k_is); (case c => as_aux_lemma => k_is); (case k => as_aux_lemma => k_is))
    (case d_smallest_gap => refine' Pl.DfK.of ?a ?l ?c ?k; (case a => as_aux_lemma => k_is); (case l => as_aux_lemma => k_is); (case c => as_aux_lemma => k_is); (case k => as_aux_lemma => k_is))
    (case d_settle => refine' Pl.DfK.of ?a ?l ?c ?k; (case a => as_aux_lemma => k_is); (case l => as_aux_lemma => k_is); (case c => as_aux_lemma => k_is); (case k => as_aux_lemma => k_is))
    (case d_settled => refine' Pl.DfK.of ?a ?l ?c ?k; (case a => as_aux_lemma => k_is); (case l => as_aux_lemma => k_is); (case c => as_aux_lemma => k_is); (case k => as_aux_lemma => k_is))
    (case d_l_cell => refine' Pl.DfK.of ?a ?l ?c ?k; (case a => as_aux_lemma => k_is); (case l => as_aux_lemma => k_is); (case c => as_aux_lemma => k_is); (case k => as_aux_lemma => k_is))
    (case d_l_source => refine' Pl.DfK.of ?a ?l ?c ?k; (case a => as_aux_lemma => k_is); (case l => as_aux_lemma => k_is); (case c => as_aux_lemma => k_is); (case k => as_aux_lemma => k_is))
    (case d_l_draw => refine' Pl.DfK.of ?a ?l ?c ?k; (case a => as_aux_lemma => k_is); (case l => as_aux_lemma => k_is); (case c => as_aux_lemma => k_is); (case k => as_aux_lemma => k_is))
    (case d_l_choose => refine' Pl.DfK.of ?a ?l ?c ?k; (case a => as_aux_lemma => k_is); (case l => as_aux_lemma => k_is); (case c => as_aux_lemma => k_is); (case k => as_aux_lemma => k_is))
    (case d_l_amounts => refine' Pl.DfK.of ?a ?l ?c ?k; (case a => as_aux_lemma => k_is); (case l => as_aux_lemma => k_is); (case c => as_aux_lemma => k_is); (case k => as_aux_lemma => k_is))
    (case d_l_mixed => refine' Pl.DfK.of ?a ?l ?c ?k; (case a => as_aux_lemma => k_is); (case l => as_aux_lemma => k_is); (case c => as_aux_lemma => k_is); (case k => as_aux_lemma => k_is))
    (case d_l_rows => refine' Pl.DfK.of ?a ?l ?c ?k; (case a => as_aux_lemma => k_is); (case l => as_aux_lemma => k_is); (case c => as_aux_lemma => k_is); (case k => as_aux_lemma => k_is))
    (case d_l_text => refine' Pl.DfK.of ?a ?l ?c ?k; (case a => as_aux_lemma => k_is); (case l => as_aux_lemma => k_is); (case c => as_aux_lemma => k_is); (case k => as_aux_lemma => k_is))
    (case d_l_outcome => refine' Pl.DfK.of ?a ?l ?c ?k; (case a => as_aux_lemma => k_is); (case l => as_aux_lemma => k_is); (case c => as_aux_lemma => k_is); (case k => as_aux_lemma => k_is))
    (case d_l_of_pair => refine' Pl.DfK.of ?a ?l ?c ?k; (case a => as_aux_lemma => k_is); (case l => as_aux_lemma => k_is); (case c => as_aux_lemma => k_is); (case k => as_aux_lemma => k_is))
    (case d_l_of_division => refine' Pl.DfK.of ?a ?l ?c ?k; (case a => as_aux_lemma => k_is); (case l => as_aux_lemma => k_is); (case c => as_aux_lemma => k_is); (case k => as_aux_lemma => k_is))
    (case d_l_are_refused => refine' Pl.DfK.of ?a ?l ?c ?k; (case a => as_aux_lemma => k_is); (case l => as_aux_lemma => k_is); (case c => as_aux_lemma => k_is); (case k => as_aux_lemma => k_is))
    (case d_l_are_wrong => refine' Pl.DfK.of ?a ?l ?c ?k; (case a => as_aux_lemma => k_is); (case l => as_aux_lemma => k_is); (case c => as_aux_lemma => k_is); (case k => as_aux_lemma => k_is))
    (case d_l_are_right => refine' Pl.DfK.of ?a ?l ?c ?k; (case a => as_aux_lemma => k_is); (case l => as_aux_lemma => k_is); (case c => as_aux_lemma => k_is); (case k => as_aux_lemma => k_is))
    (case n_len => as_aux_lemma => k_is)
    (case n_range => as_aux_lemma => k_is)
    (case n_max => as_aux_lemma => k_is)
    (case n_min => as_aux_lemma => k_is)
    (case n_sum => as_aux_lemma => k_is)
    (case n_sorted => as_aux_lemma => k_is)
    (case n_all => as_aux_lemma => k_is)
    (case n_isinstance => as_aux_lemma => k_is)
    (case n_repr => as_aux_lemma => k_is)
    (case n_tuple => as_aux_lemma => k_is)
    (case n_list => as_aux_lemma => k_is)
    (case n_int => as_aux_lemma => k_is)
    (case n_bool => as_aux_lemma => k_is)
    (case n_zip => as_aux_lemma => k_is)
    (case n_str => as_aux_lemma => k_is)
    (case n_enumerate => as_aux_lemma => k_is)
    (case n_set => as_aux_lemma => k_is)
    (case c_FEWEST_STATES => refine' Pl.ConI.of ?a; (case a => as_aux_lemma => k_is))
    (case c_MOST_STATES => refine' Pl.ConI.of ?a; (case a => as_aux_lemma => k_is))
    (case c_MOST_IN_A_STATE => refine' Pl.ConI.of ?a; (case a => as_aux_lemma => k_is))
    (case c_FEWEST_PEOPLE => refine' Pl.ConI.of ?a; (case a => as_aux_lemma => k_is))
    (case c_MOST_PEOPLE => refine' Pl.ConI.of ?a; (case a => as_aux_lemma => k_is))
    (case c_SHORTEST_RING => refine' Pl.ConI.of ?a; (case a => as_aux_lemma => k_is))
    (case x_NoPerson => refine' ⟨?a, ?xn, ?kp, ?ba, ?ty, ?cl, ?su⟩; (case a => as_aux_lemma => k_is); (case xn => k_exc); (case kp => as_aux_lemma => k_is); (case ba => as_aux_lemma => k_is); (case ty => as_aux_lemma => k_is); (case cl => as_aux_lemma => k_is); (case su => as_aux_lemma => first | rfl | k_is))
    (case x_NoShare => refine' ⟨?a, ?xn, ?kp, ?ba, ?ty, ?cl, ?su⟩; (case a => as_aux_lemma => k_is); (case xn => k_exc); (case kp => as_aux_lemma => k_is); (case ba => as_aux_lemma => k_is); (case ty => as_aux_lemma => k_is); (case cl => as_aux_lemma => k_is); (case su => as_aux_lemma => first | rfl | k_is))
    (case x_NoDivision => refine' ⟨?a, ?xn, ?kp, ?ba, ?ty, ?cl, ?su⟩; (case a => as_aux_lemma => k_is); (case xn => k_exc); (case kp => as_aux_lemma => k_is); (case ba => as_aux_lemma => k_is); (case ty => as_aux_lemma => k_is); (case cl => as_aux_lemma => k_is); (case su => as_aux_lemma => first | rfl | k_is))
    (case x_NoRing => refine' ⟨?a, ?xn, ?kp, ?ba, ?ty, ?cl, ?su⟩; (case a => as_aux_lemma => k_is); (case xn => k_exc); (case kp => as_aux_lemma => k_is); (case ba => as_aux_lemma => k_is); (case ty => as_aux_lemma => k_is); (case cl => as_aux_lemma => k_is); (case su => as_aux_lemma => first | rfl | k_is))
    (case cmR => refine' Pl.CmK.of (mc := .type "type") ?rd ?ga ?ax ?rc ?fi ?l ?c ?k; (case rd => as_aux_lemma => k_is); (case ga => as_aux_lemma => k_is); (case ax => as_aux_lemma => k_is); (case rc => as_aux_lemma => k_is); (case fi => as_aux_lemma => k_is); (case l => as_aux_lemma => k_is); (case c => as_aux_lemma => k_is); (case k => as_aux_lemma => k_is))
    (case cvM => refine' Pl.CvK.of (mc := .type "type") ?rd ?ga ?ax; (case rd => as_aux_lemma => k_is); (case ga => as_aux_lemma => k_is); (case ax => as_aux_lemma => k_is))
    (case gD => refine' Pl.ItemF.of ?a ?i; (case a => as_aux_lemma => k_is); (case i => as_aux_lemma => k_is))
    (case kt7 => (intro T hT; simp only [List.mem_cons, List.not_mem_nil, or_false] at hT; rcases hT with rfl | rfl | rfl | rfl | rfl | rfl | rfl <;> first | rfl | k_is))
    (case kt7S => (intro T hT; simp only [List.mem_cons, List.not_mem_nil, or_false] at hT; rcases hT with rfl | rfl | rfl | rfl | rfl | rfl | rfl <;> first | rfl | k_is))
    (case oSD => as_aux_lemma => first | rfl | k_is)
    (case oDS => as_aux_lemma => first | rfl | k_is)
    (case hS => as_aux_lemma => first | rfl | k_is)
    (case o21 => refine' Pl.exm_at ?ba ?cl ?ty ?su; (case ba => as_aux_lemma => k_is); (case cl => as_aux_lemma => k_is); (case ty => as_aux_lemma => k_is); (case su => as_aux_lemma => k_is))
    (case o31 => refine' Pl.exm_at ?ba ?cl ?ty ?su; (case ba => as_aux_lemma => k_is); (case cl => as_aux_lemma => k_is); (case ty => as_aux_lemma => k_is); (case su => as_aux_lemma => k_is))
    (case o32 => refine' Pl.exm_at ?ba ?cl ?ty ?su; (case ba => as_aux_lemma => k_is); (case cl => as_aux_lemma => k_is); (case ty => as_aux_lemma => k_is); (case su => as_aux_lemma => k_is))
    (case o41 => refine' Pl.exm_at ?ba ?cl ?ty ?su; (case ba => as_aux_lemma => k_is); (case cl => as_aux_lemma => k_is); (case ty => as_aux_lemma => k_is); (case su => as_aux_lemma => k_is))
    (case o42 => refine' Pl.exm_at ?ba ?cl ?ty ?su; (case ba => as_aux_lemma => k_is); (case cl => as_aux_lemma => k_is); (case ty => as_aux_lemma => k_is); (case su => as_aux_lemma => k_is))
    (case o43 => refine' Pl.exm_at ?ba ?cl ?ty ?su; (case ba => as_aux_lemma => k_is); (case cl => as_aux_lemma => k_is); (case ty => as_aux_lemma => k_is); (case su => as_aux_lemma => k_is))
    (case aPool => as_aux_lemma => k_is)
    (case sPool => refine' ⟨?pg, ?hd, ?po, ?sa, ?nC, ?nP, ?mks, ?kc⟩; (case pg => as_aux_lemma => k_is); (case hd => as_aux_lemma => k_is); (case po => as_aux_lemma => k_is); (case sa => as_aux_lemma => k_is); (case nC => as_aux_lemma => k_is); (case nP => as_aux_lemma => k_is); (case mks => as_aux_lemma => k_is); (case kc => as_aux_lemma => k_is))
    (case mPool_init => refine' Pl.MhK.of ?a ?i ?l ?c ?k; (case a => as_aux_lemma => k_is); (case i => as_aux_lemma => k_is); (case l => as_aux_lemma => k_is); (case c => as_aux_lemma => k_is); (case k => as_aux_lemma => k_is))
    (case aKept => as_aux_lemma => k_is)
    (case sKept => refine' ⟨?pg, ?hd, ?po, ?sa, ?nC, ?nP, ?mks, ?kc⟩; (case pg => as_aux_lemma => k_is); (case hd => as_aux_lemma => k_is); (case po => as_aux_lemma => k_is); (case sa => as_aux_lemma => k_is); (case nC => as_aux_lemma => k_is); (case nP => as_aux_lemma => k_is); (case mks => as_aux_lemma => k_is); (case kc => as_aux_lemma => k_is))
    (case aFine => as_aux_lemma => k_is)
    (case sFine => refine' ⟨?pg, ?hd, ?po, ?sa, ?nC, ?nP, ?mks, ?kc⟩; (case pg => as_aux_lemma => k_is); (case hd => as_aux_lemma => k_is); (case po => as_aux_lemma => k_is); (case sa => as_aux_lemma => k_is); (case nC => as_aux_lemma => k_is); (case nP => as_aux_lemma => k_is); (case mks => as_aux_lemma => k_is); (case kc => as_aux_lemma => k_is))
    (case aKeptFine => as_aux_lemma => k_is)
    (case sKeptFine => refine' ⟨?pg, ?hd, ?po, ?sa, ?nC, ?nP, ?mks, ?kc⟩; (case pg => as_aux_lemma => k_is); (case hd => as_aux_lemma => k_is); (case po => as_aux_lemma => k_is); (case sa => as_aux_lemma => k_is); (case nC => as_aux_lemma => k_is); (case nP => as_aux_lemma => k_is); (case mks => as_aux_lemma => k_is); (case kc => as_aux_lemma => k_is))
    (case uKept_Kept_init => refine' Pl.ShK2.of ?a ?i ?j ?l ?c ?k; (case a => as_aux_lemma => ks_is); (case i => as_aux_lemma => k_is); (case j => as_aux_lemma => k_is); (case l => as_aux_lemma => k_is); (case c => as_aux_lemma => k_is); (case k => as_aux_lemma => k_is))
    (case uFine_Fine_init => refine' Pl.ShK2.of ?a ?i ?j ?l ?c ?k; (case a => as_aux_lemma => ks_is); (case i => as_aux_lemma => k_is); (case j => as_aux_lemma => k_is); (case l => as_aux_lemma => k_is); (case c => as_aux_lemma => k_is); (case k => as_aux_lemma => k_is))
    (case uKeptFine_Fine_init => refine' Pl.ShK2.of ?a ?i ?j ?l ?c ?k; (case a => as_aux_lemma => ks_is); (case i => as_aux_lemma => k_is); (case j => as_aux_lemma => k_is); (case l => as_aux_lemma => k_is); (case c => as_aux_lemma => k_is); (case k => as_aux_lemma => k_is))
    (case subKept_Kept => refine' ⟨?s, ?d, ?c, ?op, ?su⟩; (case s => as_aux_lemma => k_is); (case d => as_aux_lemma => k_is); (case c => as_aux_lemma => k_is); (case op => as_aux_lemma => k_is); (case su => as_aux_lemma => k_is))
    (case subFine_Fine => refine' ⟨?s, ?d, ?c, ?op, ?su⟩; (case s => as_aux_lemma => k_is); (case d => as_aux_lemma => k_is); (case c => as_aux_lemma => k_is); (case op => as_aux_lemma => k_is); (case su => as_aux_lemma => k_is))
    (case subKeptFine_KeptFine => refine' ⟨?s, ?d, ?c, ?op, ?su⟩; (case s => as_aux_lemma => k_is); (case d => as_aux_lemma => k_is); (case c => as_aux_lemma => k_is); (case op => as_aux_lemma => k_is); (case su => as_aux_lemma => k_is))
    (case subKeptFine_Kept => refine' ⟨?s, ?d, ?c, ?op, ?su⟩; (case s => as_aux_lemma => k_is); (case d => as_aux_lemma => k_is); (case c => as_aux_lemma => k_is); (case op => as_aux_lemma => k_is); (case su => as_aux_lemma => k_is))
    (case subKeptFine_Fine => refine' ⟨?s, ?d, ?c, ?op, ?su⟩; (case s => as_aux_lemma => k_is); (case d => as_aux_lemma => k_is); (case c => as_aux_lemma => k_is); (case op => as_aux_lemma => k_is); (case su => as_aux_lemma => k_is))
    (case wFine_Fine_init => refine' Pl.MsK.of ?a ?i ?l ?c ?h1 ?h3 ?h5 ?k; (case a => as_aux_lemma => k_is); (case i => as_aux_lemma => k_is); (case l => as_aux_lemma => k_is); (case c => as_aux_lemma => k_is); (case h1 => as_aux_lemma => k_is); (case h3 => as_aux_lemma => k_is); (case h5 => as_aux_lemma => first | rfl | k_is); (case k => as_aux_lemma => k_is))
    (case w2KeptFine_Kept_Fine_init => refine' Pl.MsK2.of ?a ?i ?j ?l ?c ?h1 ?h3 ?h5 ?k; (case a => as_aux_lemma => ks_is); (case i => as_aux_lemma => k_is); (case j => as_aux_lemma => k_is); (case l => as_aux_lemma => k_is); (case c => as_aux_lemma => k_is); (case h1 => as_aux_lemma => k_is); (case h3 => as_aux_lemma => k_is); (case h5 => as_aux_lemma => first | rfl | k_is); (case k => as_aux_lemma => k_is))
    (case dKept_Kept_init => refine' Pl.MsD.of ?a ?i ?l ?c ?h1 ?h3 ?h5 ?h6 ?h7 ?k; (case a => as_aux_lemma => k_is); (case i => as_aux_lemma => k_is); (case l => as_aux_lemma => k_is); (case c => as_aux_lemma => k_is); (case h1 => as_aux_lemma => k_is); (case h3 => as_aux_lemma => k_is); (case h5 => as_aux_lemma => first | rfl | k_is); (case h6 => as_aux_lemma => k_is); (case h7 => exact ⟨_, rfl⟩); (case k => as_aux_lemma => k_is))
    (case dKeptFine_KeptFine_init => refine' Pl.MsD.of ?a ?i ?l ?c ?h1 ?h3 ?h5 ?h6 ?h7 ?k; (case a => as_aux_lemma => k_is); (case i => as_aux_lemma => k_is); (case l => as_aux_lemma => k_is); (case c => as_aux_lemma => k_is); (case h1 => as_aux_lemma => k_is); (case h3 => as_aux_lemma => k_is); (case h5 => as_aux_lemma => first | rfl | k_is); (case h6 => as_aux_lemma => k_is); (case h7 => exact ⟨_, rfl⟩); (case k => as_aux_lemma => k_is))
    (case d2KeptFine_KeptFine_Kept_init => refine' Pl.MsD2.of ?a ?i ?j ?l ?c ?h1 ?h3 ?h5 ?h6 ?h7 ?k; (case a => as_aux_lemma => ks_is); (case i => as_aux_lemma => k_is); (case j => as_aux_lemma => k_is); (case l => as_aux_lemma => k_is); (case c => as_aux_lemma => k_is); (case h1 => as_aux_lemma => k_is); (case h3 => as_aux_lemma => k_is); (case h5 => as_aux_lemma => first | rfl | k_is); (case h6 => as_aux_lemma => k_is); (case h7 => exact ⟨_, rfl⟩); (case k => as_aux_lemma => k_is))
    (case spP => refine' ⟨?f, ?t⟩; (case f => kernel_rfl); (case t => kernel_rfl))
#print axioms PySem.Challenge.cw_poolshares_k11_wrong_arguments_holds
